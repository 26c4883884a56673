import PyProof.Rows.All
import Wide.All
import OpenK.AllK
import Wide.FinOn
import Lean
import PyProof.EqAt
import PyProof.EqKinds
import PyProof.TupleCall
import PySem.Challenge.RW_wishstrike_k32_whole_works_turned
set_option Elab.async false
set_option linter.all false
set_option maxRecDepth 100000
namespace L2
open PySem PySem.Spec PyProof.Rows
abbrev Key:=Sum Int Str
def js:Key→Value→Bool
 | .inl k,v=>Value.isInt k v
 | .inr x,v=>Value.isStrOf x v
def DW (w:World):Key→Int
 | .inl k=>hashInt k
 | .inr x=>hashStr w x
theorem bY:∀ {k:Key} {v:Value},js k v=true→(∃ i t,k=Sum.inl i∧v=Value.int i t)∨(∃ x t,k=Sum.inr x∧v=Value.str x t)
 | .inl i,v,h=>by
  obtain ⟨t,e⟩:=Value.isInt_shape (k:=i) (v:=v) h
  exact .inl ⟨i,t,rfl,e⟩
 | .inr x,v,h=>by
  obtain ⟨t,e⟩:=Value.isStrOf_shape (x:=x) (v:=v) h
  exact .inr ⟨x,t,rfl,e⟩
theorem sd (i:Int) (t:Tok):js (.inl i) (.int i t)=true:=by simp [js,Value.isInt]
theorem sm (x:Str) (t:Tok):js (.inr x) (.str x t)=true:=by simp [js,Value.isStrOf]
theorem Bp (a b:Int):decide ((Sum.inl a:Key)=Sum.inl b)=(a == b):=by
 by_cases e:a=b
 ·subst e;simp
 ·have h:¬(Sum.inl a:Key)=Sum.inl b:=fun q=>e (Sum.inl.inj q)
  rw [decide_eq_false h]
  exact (beq_eq_false_iff_ne.mpr e).symm
theorem zL (a b:Str):decide ((Sum.inr a:Key)=Sum.inr b)=decide (a=b):=by
 by_cases e:a=b
 ·subst e;simp
 ·have h:¬(Sum.inr a:Key)=Sum.inr b:=fun q=>e (Sum.inr.inj q)
  rw [decide_eq_false h,decide_eq_false e]
theorem AS (a:Int) (b:Str):decide ((Sum.inl a:Key)=Sum.inr b)=false:=decide_eq_false (fun q=>nomatch q)
theorem Bg (a:Str) (b:Int):decide ((Sum.inr a:Key)=Sum.inl b)=false:=decide_eq_false (fun q=>nomatch q)
def ba (prog:Program) (w:World):PySem.KeyKind prog w Key where
 is:=js
 hash:=DW w
 inj:=fun v a b ha hb=>by
  rcases bY ha with ⟨i,t,rfl,rfl⟩ | ⟨x,t,rfl,rfl⟩
  ·rcases bY hb with ⟨j,u,rfl,e⟩ | ⟨y,u,rfl,e⟩
   ·injection e with e1 _;rw [e1]
   ·exact nomatch e
  ·rcases bY hb with ⟨j,u,rfl,e⟩ | ⟨y,u,rfl,e⟩
   ·exact nomatch e
   ·injection e with e1 _;rw [e1]
 byValue:=fun k v h=>by
  rcases bY h with ⟨i,t,rfl,rfl⟩ | ⟨x,t,rfl,rfl⟩<;>rfl
 pyHash:=fun hv h=>by
  rcases bY hv with ⟨i,t,rfl,rfl⟩ | ⟨x,t,rfl,rfl⟩
  ·exact wpAny_pyHash_int h
  ·exact wpAny_pyHash_str h
 eqBool:=fun hu hv h=>by
  rcases bY hu with ⟨i,t,rfl,rfl⟩ | ⟨x,t,rfl,rfl⟩
  ·rcases bY hv with ⟨j,u,rfl,rfl⟩ | ⟨y,u,rfl,rfl⟩
   ·rw [Bp] at h;exact wpAny_eqBool_int h
   ·rw [AS] at h;exact SeqAt.EqAt.int_str i t y u _ _ _ _ h
  ·rcases bY hv with ⟨j,u,rfl,rfl⟩ | ⟨y,u,rfl,rfl⟩
   ·rw [Bg] at h;exact SeqAt.EqAt.str_int x t j u _ _ _ _ h
   ·rw [zL] at h;exact wpAny_eqBool_str h
 «strs»:=fun k x t v h=>by
  rcases bY h with ⟨i,u,rfl,e⟩ | ⟨y,u,rfl,e⟩
  ·exact nomatch e
  ·injection e with e1 _
   subst e1
   cases v<;>rfl
theorem o6 (prog:Program) (w:World) (i:Int) (t:Tok):(ba prog w).is (.inl i) (.int i t)=true:=sd i t
theorem o7 (prog:Program) (w:World) (x:Str) (t:Tok):(ba prog w).is (.inr x) (.str x t)=true:=sm x t
inductive V where
 | non | bl (b:Bool) | int (i:Int) | str (x:Str) | byt (b:Array UInt8) | flt (b:UInt64) | ref (a:Addr) | ty (n:String)
 deriving DecidableEq
def RelV:V→Value→Prop
 | .non,u=>u=Value.none
 | .bl b,u=>u=Value.bool b
 | .int i,u=>∃ t,u=Value.int i t
 | .str x,u=>∃ t,u=Value.str x t
 | .byt b,u=>∃ t,u=Value.bytes b t
 | .flt b,u=>∃ t,u=Value.float b t
 | .ref a,u=>u=Value.ref a
 | .ty n,u=>u=Value.type n
abbrev Vals:List V→List Value→Prop:=Paired RelV
theorem Vals.length {xs:List V} {us:List Value} (r:Vals xs us):xs.length=us.length:=Paired.length r
theorem Vals.get:∀ {xs:List V} {us:List Value} {i:Nat} {x:V},Vals xs us→xs[i]?=some x→∃ u,us[i]?=some u∧RelV x u
 | _,_,_,_,.nil,e=>by simp at e
 | _,_,0,_,.cons r _,e=>by simp at e;subst e;exact ⟨_,rfl,r⟩
 | _,_,i+1,x,.cons _ t,e=>by
  obtain ⟨u,h1,h2⟩:=Vals.get (i:=i) (x:=x) t (by simpa using e)
  exact ⟨u,by simpa using h1,h2⟩
theorem Vals.set {x:V} {u:Value} (r:RelV x u):∀ {xs:List V} {us:List Value} (i:Nat),Vals xs us→Vals (xs.set i x) (us.set i u)
 | _,_,_,.nil=>.nil
 | _,_,0,.cons _ t=>.cons r t
 | _,_,i+1,.cons q t=>.cons q (Vals.set r i t)
theorem Vals.append:∀ {xs ys:List V} {us ws:List Value},Vals xs us→Vals ys ws→Vals (xs++ys) (us++ws)
 | _,_,_,_,.nil,s=>s
 | _,_,_,_,.cons r t,s=>.cons r (Vals.append t s)
theorem Vals.take:∀ {xs:List V} {us:List Value} (n:Nat),Vals xs us→Vals (xs.take n) (us.take n)
 | _,_,0,_=>.nil
 | _,_,_+1,.nil=>.nil
 | _,_,n+1,.cons r t=>.cons r (Vals.take n t)
theorem Vals.drop:∀ {xs:List V} {us:List Value} (n:Nat),Vals xs us→Vals (xs.drop n) (us.drop n)
 | _,_,0,r=>r
 | _,_,_+1,.nil=>.nil
 | _,_,n+1,.cons _ t=>Vals.drop n t
def eG:Option V→Option Value→Prop
 | some v,some u=>RelV v u
 | none,none=>True
 | _,_=>False
def KV {κ:Type}:List (κ×V)→List (κ×Value)→Prop:=Paired fun (p:κ×V) (q:κ×Value)=>p.1=q.1∧RelV p.2 q.2
def kV:Key→V
 | .inl i=>.int i
 | .inr x=>.str x
inductive HO where
 | lst (xs:List V)
 | tup (xs:List V)
 | dK (kvs:List (Key×V)) | dT (kvs:List (List Key×V))
 | set (S:Int→Bool) (n:Nat)
 | ins (C dx:Addr) (fs:List (Str×V))
 | own (x:Addr)
 | xd (fs:List (Str×V))
 | met (f x:Addr)
 | rng (lo hi:Int)
 | frz (o:Obj) (u:HO)
 | tbl (ps:Array Value)
 | ext (φ:Heap→Prop)
abbrev Hp:=Addr→Option HO
def upd (H:Hp) (a:Addr) (o:HO):Hp:=fun b=>if b=a then some o else H b
theorem bV {H:Hp} {a:Addr} {o:HO}:upd H a o a=some o:=by unfold upd;rw [if_pos rfl]
theorem aD {H:Hp} {a b:Addr} {o:HO} (h:b≠a):upd H a o b=H b:=by unfold upd;rw [if_neg h]
theorem DH {H:Hp} {a b:Addr} {o u:HO} (h:H a=some o) (h':H b=some u) (d:o≠u):a≠b:=by
 intro e;subst e;rw [h] at h';exact d (Option.some.inj h')
theorem aX {H:Hp} {a b:Addr} {o:HO} (h:H a=some o) (h':H b=none):a≠b:=by
 intro e;subst e;rw [h] at h';cases h'
section
variable (P:Program) (w:World)
def bz (H:Hp) (h:Heap) (a:Addr):HO→Prop
 | .lst xs=>xs.length≤sizeLine∧∃ (its:List Value) (n:Nat),Vals xs its∧h.get? a=some { cls:=.type "list",data:=.seq its.toArray n }
 | .tup xs=>xs.length≤sizeLine∧∃ its:List Value,Vals xs its∧IsTup h a its.toArray
 | .dK kvs=>kvs.length≤sizeLine∧(a == sysModules)=false∧∃ vs,KV kvs vs∧h.DictOf (ba P w) a vs
 | .dT kvs=>kvs.length≤sizeLine∧(a == sysModules)=false∧∃ xs:List (List Key×Addr×Value),
   Paired (fun (p:List Key×V) (q:List Key×Addr×Value)=>p.1=q.1∧H q.2.1=some (.tup (p.1.map kV))∧RelV p.2 q.2.2) kvs xs ∧
   ∃ o es ep,h.get? a=some o∧o.ExactDict∧o.data=.dict es ep∧es.toList=xs.map (entryOfKey (tupleKind (ba P w)))∧(xs.map (·.1)).Nodup
 | .set S n=>h.SetOf (intKind P w) a S n
 | .ins C dx fs=>H dx=some (.own a)∧fs.length≤1000∧dx≠a∧h.get? a=some (PySem.W.instObj C dx) ∧
   ∃ mA,h.Ns1 dx mA∧(∀ f,eG (fs.lookup f) (mA f))∧PySem.Within mA (fs.map (·.1))
 | .own _=>∃ o,h.get? a=some o
 | .xd fs=>∃ mA,h.Ns1 a mA∧∀ f,eG (fs.lookup f) (mA f)
 | .rng lo hi=>∃ t u v,h.get? a=some { cls:=.type "range",data:=.fields #[.int lo t,.int hi u,.int 1 v] }
 | .frz o u=>h.get? a=some o∧bz H h a u
 | .tbl ps=>h.get? a=some { cls:=.none,data:=.fields ps }
 | .met f x=>h.get? a=some (PySem.W.methodObj (.ref f) (.ref x))
 | .ext φ=>φ h∧(∃ o,h.get? a=some o)∧∀ h1 h2:Heap,φ h1→(∀ o,h1.get? a=some o→h2.get? a=some o)→φ h2
def HOk (H:Hp) (h:Heap):Prop:=∀ a o,H a=some o→bz P w H h a o
end
section
variable {P:Program} {w:World} {H H':Hp} {h h':Heap} {a:Addr} {o:HO}
theorem bz.lt (x:bz P w H h a o):a < h.objs.size:=by
 cases o with
 | lst xs=>obtain ⟨_,_,_,_,e⟩:=x;exact Heap.lt_size e
 | tup xs=>obtain ⟨_,_,_,p⟩:=x;exact p.lt
 | dK kvs=>obtain ⟨_,_,_,_,o,_,_,e,_⟩:=x;exact Heap.lt_size e
 | dT kvs=>obtain ⟨_,_,_,_,o,_,_,e,_⟩:=x;exact Heap.lt_size e
 | set S n=>obtain ⟨o,_,_,_,e,_⟩:=x;exact Heap.lt_size e
 | ins C dx fs=>obtain ⟨_,_,_,e,_⟩:=x;exact Heap.lt_size e
 | own y=>obtain ⟨_,e⟩:=x;exact Heap.lt_size e
 | xd fs=>obtain ⟨_,⟨_,_,_,e,_⟩,_⟩:=x;exact Heap.lt_size e
 | rng lo hi=>obtain ⟨_,_,_,e⟩:=x;exact Heap.lt_size e
 | frz ob u=>obtain ⟨e,_⟩:=x;exact Heap.lt_size e
 | tbl ps=>exact Heap.lt_size (show h.get? a=some _ from x)
 | met f y=>exact Heap.lt_size (show h.get? a=some _ from x)
 | ext φ=>obtain ⟨_,⟨_,e⟩,_⟩:=x;exact Heap.lt_size e
theorem Paired.vG {α β:Type} {F G:α→β→Prop}:∀ {l₁:List α} {l₂:List β},Paired F l₁ l₂→(∀ a b,F a b→G a b)→Paired G l₁ l₂
 | _,_,.nil,_=>.nil
 | _,_,.cons r t,f=>.cons (f _ _ r) (Paired.vG t f)
theorem bz.jN (x:bz P w H h a o) (k:∀ b u,(b=a∨H b=some (.own a))→h.get? b=some u→h'.get? b=some u)
  (ho:∀ b,H b=some (.own a)→H' b=some (.own a)) (ht:∀ b xs,H b=some (.tup xs)→H' b=some (.tup xs)):bz P w H' h' a o:=by
 induction o with
 | lst xs=>obtain ⟨z,its,n,r,e⟩:=x;exact ⟨z,its,n,r,k _ _ (.inl rfl) e⟩
 | tup xs=>obtain ⟨z,its,r,ob,e,c⟩:=x;exact ⟨z,its,r,ob,k _ _ (.inl rfl) e,c⟩
 | dK kvs=>obtain ⟨z,y,vs,r,ob,es,ep,e,c⟩:=x;exact ⟨z,y,vs,r,ob,es,ep,k _ _ (.inl rfl) e,c⟩
 | dT kvs=>
  obtain ⟨z,y,xs,r,ob,es,ep,e,c⟩:=x
  exact ⟨z,y,xs,Paired.vG r fun p q z=>⟨z.1,ht _ _ z.2.1,z.2.2⟩,ob,es,ep,k _ _ (.inl rfl) e,c⟩
 | set S n=>obtain ⟨ob,es,ep,t,e,c⟩:=x;exact ⟨ob,es,ep,t,k _ _ (.inl rfl) e,c⟩
 | ins C dx fs=>
  obtain ⟨d,z,ne,e,mA,⟨od,es,ep,e2,c⟩,r⟩:=x
  exact ⟨ho _ d,z,ne,k _ _ (.inl rfl) e,mA,⟨od,es,ep,k _ _ (.inr d) e2,c⟩,r⟩
 | own y=>obtain ⟨ob,e⟩:=x;exact ⟨ob,k _ _ (.inl rfl) e⟩
 | xd fs=>obtain ⟨mA,⟨od,es,ep,e,c⟩,r⟩:=x;exact ⟨mA,⟨od,es,ep,k _ _ (.inl rfl) e,c⟩,r⟩
 | rng lo hi=>obtain ⟨t,u,v,e⟩:=x;exact ⟨t,u,v,k _ _ (.inl rfl) e⟩
 | frz ob u ih=>obtain ⟨e,q⟩:=x;exact ⟨k _ _ (.inl rfl) e,ih q⟩
 | tbl ps=>
  have e:h.get? a=some { cls:=.none,data:=.fields ps }:=x
  show h'.get? a=some { cls:=.none,data:=.fields ps }
  exact k a _ (.inl rfl) e
 | met f y=>
  have e:h.get? a=some (PySem.W.methodObj (.ref f) (.ref y)):=x
  show h'.get? a=some (PySem.W.methodObj (.ref f) (.ref y))
  exact k a _ (.inl rfl) e
 | ext φ=>obtain ⟨p,⟨o,e⟩,st⟩:=x;exact ⟨st _ _ p fun o q=>k _ _ (.inl rfl) q,⟨o,k _ _ (.inl rfl) e⟩,st⟩
theorem HOk.lt (x:HOk P w H h) (e:H a=some o):a < h.objs.size:=(x a o e).lt
theorem HOk.fresh (x:HOk P w H h) (e:h.objs.size≤a):H a=none:=by
 cases q:H a with
 | none=>rfl
 | some u=>exact absurd (Nat.lt_of_lt_of_le (x.lt q) e) (Nat.lt_irrefl _)
theorem HOk.kept (x:HOk P w H h) (k:∀ b u,h.get? b=some u→h'.get? b=some u):HOk P w H h':=fun a o e=>
 (x a o e).jN (fun b u _ q=>k b u q) (fun _ q=>q) fun _ _ q=>q
theorem HOk.laid (x:HOk P w H h) (k:∀ b u,h.get? b=some u→h'.get? b=some u) (hp:h.objs.size≤a) (new:bz P w (upd H a o) h' a o):HOk P w (upd H a o) h':=fun b u e=>by
 have hn:=x.fresh hp
 by_cases hb:b=a
 ·subst hb;rw [bV] at e;cases e;exact new
 ·rw [aD hb] at e
  exact (x b u e).jN (fun c v _ q=>k c v q) (fun c q=>by rw [aD (aX q hn)];exact q) fun c xs q=>by rw [aD (aX q hn)];exact q
end
def Rd (H:Hp) (a:Addr) (u:HO):Prop:=H a=some u∨∃ o,H a=some (.frz o u)
theorem Rd.ok {P:Program} {w:World} {H:Hp} {h:Heap} {a:Addr} {u:HO} (r:Rd H a u) (x:HOk P w H h):bz P w H h a u:=by
 rcases r with r | ⟨o,r⟩
 ·exact x a u r
 ·obtain ⟨_,q⟩:=x a _ r
  exact q
def Mut:Option HO→Prop
 | some (.lst _)=>True
 | some (.dK _)=>True
 | some (.dT _)=>True
 | some (.set _ _)=>True
 | some (.ins _ _ _)=>True
 | some (.ext _)=>True
 | _=>False
section
variable {P:Program} {w:World} {H:Hp} {h h':Heap} {x e:Addr} {o':HO}
theorem HOk.write (ok:HOk P w H h) (mu:Mut (H x)) (he:e=x∨H e=some (.own x)) (k:∀ b u,b≠e→h.get? b=some u→h'.get? b=some u) (heo:∃ u,h'.get? e=some u)
  (new:bz P w (upd H x o') h' x o'):HOk P w (upd H x o') h':=fun b u q=>by
 have nown:∀ c y,H c=some (.own y)→c≠x:=fun c y r z=>by subst z;rw [r] at mu;exact mu
 have ntup:∀ c xs,H c=some (.tup xs)→c≠x:=fun c xs r z=>by subst z;rw [r] at mu;exact mu
 by_cases hb:b=x
 ·subst hb;rw [bV] at q;cases q;exact new
 ·rw [aD hb] at q
  by_cases hbe:b=e
  ·have q':H b=some (.own x):=by
    rcases he with z | z
    ·exact absurd (hbe.trans z) hb
    ·rw [hbe];exact z
   rw [q] at q';cases q'
   obtain ⟨v,hv⟩:=heo
   exact ⟨v,by rw [hbe];exact hv⟩
  ·refine (ok b u q).jN (fun c v hc r=>k c v ?_ r) (fun c r=>by rw [aD (nown c b r)];exact r) fun c xs r=>by rw [aD (ntup c xs r)];exact r
   rcases hc with rfl | hc
   ·exact hbe
   ·rintro rfl
    rcases he with z | z
    ·exact nown c b hc z
    ·rw [hc] at z;cases z;exact hb rfl
end
structure Un (fs ex:List Addr) (H H':Hp) (h h':Heap):Prop where
 keep:∀ b o,h.get? b=some o→H b=none→b∉fs→b∉ex→h'.get? b=some o
 slot:∀ b o,h.get? b=some o→H b=none→b∈fs→b∉ex→∃ sl,h'.get? b=some { o with slots:=sl }
 free:∀ b o,h.get? b=some o→H b=none→b∉ex→H' b=none
 there:∀ b o,h.get? b=some o→b∉ex→∃ o',h'.get? b=some o'
 tups:∀ b xs,H b=some (.tup xs)→H' b=some (.tup xs)
 frzs:∀ b o u,H b=some (.frz o u)→H' b=some (.frz o u)
 tbls:∀ b ps,H b=some (.tbl ps)→∃ more,H' b=some (.tbl (ps++more))
section
variable {fs fs' ex ex':List Addr} {H H1 H2:Hp} {h h1 h2 h':Heap} {a x e:Addr} {o:HO}
theorem Un.any (u:Un fs ex H H1 h h1) {b:Addr} {ob:Obj} (q:h.get? b=some ob) (n:H b=none) (hx:b∉ex):∃ sl,h1.get? b=some { ob with slots:=sl }:=by
 by_cases hb:b∈fs
 ·exact u.slot b ob q n hb hx
 ·exact ⟨ob.slots,u.keep b ob q n hb hx⟩
theorem Un.kept (k:∀ b u,h.get? b=some u→h'.get? b=some u):Un fs ex H H h h':=
 ⟨fun b ob q _ _ _=>k b ob q,fun b ob q _ _ _=>⟨ob.slots,k b ob q⟩,fun _ _ _ n _=>n,fun b ob q _=>⟨ob,k b ob q⟩,fun _ _ q=>q,fun _ _ _ q=>q,fun _ ps q=>⟨#[],by rw [q];simp⟩⟩
theorem Un.refl:Un fs ex H H h h:=Un.kept fun _ _ q=>q
theorem Un.laid (k:∀ b u,h.get? b=some u→h'.get? b=some u) (hp:h.objs.size≤a) (hn:H a=none):Un fs ex H (upd H a o) h h' where
 keep:=fun b u q _ _ _=>k b u q
 slot:=fun b u q _ _ _=>⟨u.slots,k b u q⟩
 free:=fun b u q n _=>by rw [aD (Nat.ne_of_lt (Nat.lt_of_lt_of_le (Heap.lt_size q) hp))];exact n
 there:=fun b u q _=>⟨u,k b u q⟩
 tups:=fun b xs q=>by rw [aD (aX q hn)];exact q
 frzs:=fun b u xs q=>by rw [aD (aX q hn)];exact q
 tbls:=fun b ps q=>⟨#[],by rw [aD (aX q hn),q];simp⟩
theorem Un.write (mu:Mut (H x)) (he:e=x∨H e=some (.own x)) (k:∀ b u,b≠e→h.get? b=some u→h'.get? b=some u) (heo:∃ u,h'.get? e=some u):Un fs ex H (upd H x o) h h':=by
 have hx:∀ b,H b=none→b≠x:=fun b n z=>by subst z;rw [n] at mu;exact mu
 have hb:∀ b,H b=none→b≠e:=fun b n z=>by
  subst z
  rcases he with r | r
  ·exact hx b n r
  ·rw [n] at r;cases r
 have hm:∀ b u,H b=some u→¬Mut (some u)→b≠x:=fun b u q nm z=>by subst z;rw [q] at mu;exact nm mu
 refine ⟨fun b u q n _ _=>k b u (hb b n) q,fun b u q n _ _=>⟨u.slots,k b u (hb b n) q⟩,fun b u q n _=>by rw [aD (hx b n)];exact n,fun b u q _=>?_,
  fun b xs q=>by rw [aD (hm b _ q fun z=>z)];exact q,fun b u xs q=>by rw [aD (hm b _ q fun z=>z)];exact q,fun b ps q=>⟨#[],by rw [aD (hm b _ q fun z=>z),q];simp⟩⟩
 by_cases hbe:b=e
 ·subst hbe;exact heo
 ·exact ⟨u,k b u hbe q⟩
end
def trk (h:Heap) (H:Hp):List Addr:=(List.range h.objs.size).filter fun a=>(H a).isSome
def ik (h:Heap) (H:Hp):Heap:=PySem.W.hideAll h (trk h H)
theorem rX (h:Heap) (H:Hp):(ik h H).objs.size=h.objs.size:=PySem.W.hideAll_size _ _
theorem vn {h:Heap} {H:Hp} {b:Addr} {o:Obj} (e:h.get? b=some o) (n:H b=none):(ik h H).get? b=some o:=
 PySem.W.hideAll_get _ e fun hm=>by
  have q:(H b).isSome=true:=(List.mem_filter.mp hm).2
  rw [n] at q;simp at q
theorem yf {h:Heap} {H:Hp} {b:Addr} {o:Obj} (e:(ik h H).get? b=some o):h.get? b=some o∧H b=none:=by
 have e':h.get? b=some o:=PySem.W.of_hideAll (trk h H) e
 refine ⟨e',?_⟩
 cases q:H b with
 | none=>rfl
 | some x=>
  have hm:b∈trk h H:=List.mem_filter.mpr ⟨List.mem_range.mpr (Heap.lt_size e'),by simp [q]⟩
  have z:(ik h H).get? b=none:=PySem.W.hideAll_none (trk h H) hm
  rw [z] at e;cases e
def yI (g h:Heap) (L:Addr):List (Addr×Obj):=(List.range h.objs.size).filterMap fun a=>if a=L∨(g.get? a).isSome=true then none else (h.get? a).map fun o=>(a,o)
def rest (g h:Heap) (L d:Addr):List (Addr×Obj):=(yI g h L).filter fun p=>decide (p.1≠d)
structure Mod (K:PySem.W.Frag) (mg:Str→Option Value) (base:Heap):Prop where
 kin:K.In base
 glob:base.Ns mainGlobals mg
 blt:∃ mb,base.Ns builtinsNs mb∧∀ x:Str,x≠"__name__"→mb x=bootBuiltins x
 nolimit:base.NoLimit
structure Cx where
 prog:Program
 w:World
 K:PySem.W.Frag
 mg:Str→Option Value
 base:Heap
 A:Around
 N:List Str
 s₀:Shared
 H₀:Hp
 env:Env
 outer:List Env
 stack:List Env
 ex:List Addr
 fn:Str→Bool
 calm:Bool
 pn:List (Addr×Obj)
 xe:Value→Shared→Prop
def frs (l:List Env):List Addr:=l.filterMap (·.frame)
abbrev Cx.fs (X:Cx):List Addr:=frs X.outer
def Vis (sc:Scope) (x:Str):Prop:=sc.names.lookup x=some .local∨sc.names.lookup x=some .cell∨sc.names.lookup x=some .free
def Loc (sc:Scope) (x:Str):Prop:=sc.names.lookup x=some .local∨sc.names.lookup x=some .cell
def Look (env:Env) (h:Heap) (m:Str→Option Value) (x:Str) (u:Value):Prop:=
 (env.kindOf x=some .local∧m x=some u)∨((env.kindOf x=some .cell∨env.kindOf x=some .free)∧∃ c,env.cells.lookup x=some c∧h.IsCell c (some u))
structure Cx.Ok (X:Cx):Prop where
 mod:Mod X.K X.mg X.base
 kind:X.env.scope.kind=.function
 glob:X.env.globals=mainGlobals
 blt:X.env.builtins=builtinsNs
 above:X.s₀.heap.objs.size≤X.env.locals
 inj:∀ x y c,X.env.cells.lookup x=some c→X.env.cells.lookup y=some c→x=y
 has:∀ x,(X.env.kindOf x=some .cell∨X.env.kindOf x=some .free)→∃ c,X.env.cells.lookup x=some c
 cab:∀ x c,X.fn x=true→X.env.cells.lookup x=some c→X.s₀.heap.objs.size≤c
 hd:X.calm=true→X.A.handled=none
 frames:X.A.frames=some X.stack
 stk:X.stack=X.outer∨(X.stack=X.env :: X.outer∧X.env.frame=some X.env.locals)
 exf:∀ b∈X.ex,b≠X.env.locals∧∀ x c,X.env.cells.lookup x=some c→c≠b
 bs:∀ b o,X.base.get? b=some o→X.s₀.heap.get? b=some o∧X.H₀ b=none
 bsz:X.base.objs.size≤X.s₀.heap.objs.size
 noex:∀ b o,X.base.get? b=some o→b∉X.ex
 exfs:∀ b∈X.ex,b∉X.fs
 fV:X.s₀.heap.FunFrames X.base X.outer
 frf:∀ b∈X.fs,X.H₀ b=none
structure Inv (X:Cx) (pins:List (Addr×Obj)) (σ:List (Option V)) (H:Hp) (s:Shared):Prop where
 ok:X.Ok
 os:s.os=X.s₀.os
 bare:AllBare s.gens
 base:Un X.fs X.ex X.H₀ H X.s₀.heap s.heap
 loc:∃ m,s.heap.Ns X.env.locals m∧∀ (i:Nat) (x:Str) (v:V),X.N[i]?=some x→σ[i]?=some (some v)→Vis X.env.scope x→∃ u,RelV v u∧Look X.env s.heap m x u
 cell:∀ x c,X.env.cells.lookup x=some c→∃ v,s.heap.IsCell c v
 free:H X.env.locals=none
 freeC:∀ x c,X.env.cells.lookup x=some c→H c=none
 pin:∀ p∈X.pn++pins,s.heap.get? p.1=some p.2∧H p.1=none∧p.1≠X.env.locals∧p.1∉X.fs∧∀ v,p.2.data≠.cell v
 hok:HOk X.prog X.w H s.heap
 len:σ.length=X.N.length
section
variable {X:Cx} {pins:List (Addr×Obj)} {σ:List (Option V)} {H H':Hp} {s:Shared} {h':Heap}
theorem Cx.Ok.Ey (ok:X.Ok) {b:Addr} {o:Obj} (e:X.base.get? b=some o):b∉X.fs:=fun hb=>by
 have:=(ok.fV.mem hb).1
 rw [e] at this;cases this
theorem Inv.bs (I:Inv X pins σ H s):∀ b o,X.base.get? b=some o→s.heap.get? b=some o∧H b=none:=fun b o e=>
 ⟨I.base.keep b o (I.ok.bs b o e).1 (I.ok.bs b o e).2 (I.ok.Ey e) (I.ok.noex b o e),I.base.free b o (I.ok.bs b o e).1 (I.ok.bs b o e).2 (I.ok.noex b o e)⟩
theorem Inv.bk (I:Inv X pins σ H s):∀ b o,X.base.get? b=some o→s.heap.get? b=some o:=fun b o e=>(I.bs b o e).1
theorem Inv.mod (I:Inv X pins σ H s):Mod X.K X.mg X.base:=I.ok.mod
theorem Inv.kIn (I:Inv X pins σ H s):X.K.In s.heap:=I.ok.mod.kin.keeps I.bk
theorem Inv.lt (I:Inv X pins σ H s):X.env.locals < s.heap.objs.size:=let ⟨_,hn,_⟩:=I.loc;hn.lt
theorem Inv.sz (I:Inv X pins σ H s):X.s₀.heap.objs.size≤s.heap.objs.size:=Nat.le_trans I.ok.above (Nat.le_of_lt I.lt)
theorem Inv.By (I:Inv X pins σ H s) {a:Addr} (h:s.heap.objs.size≤a):a∉X.fs:=fun hb=>by
 obtain ⟨_,o,ho,_⟩:=I.ok.fV.mem hb
 exact absurd (Nat.lt_of_lt_of_le (Heap.lt_size ho) (Nat.le_trans I.sz h)) (Nat.lt_irrefl _)
theorem Inv.cne (I:Inv X pins σ H s):∀ x c,X.env.cells.lookup x=some c→c≠X.env.locals:=fun x c e z=>by
 obtain ⟨v,o,ho,hd⟩:=I.cell x c e
 obtain ⟨m,⟨o',es,ep,ho',hd',_⟩,_⟩:=I.loc
 rw [z,ho'] at ho;cases ho;rw [hd'] at hd;cases hd
theorem Inv.fV (I:Inv X pins σ H s):s.heap.FunFrames X.base X.outer:=by
 have all:∀ (l:List Env),(∀ b∈frs l,b∈X.fs)→X.s₀.heap.FunFrames X.base l→s.heap.FunFrames X.base l:=by
  intro l
  induction l with
  | nil=>intro _ _;trivial
  | cons env r ih=>
   intro hs hl
   obtain ⟨hk,⟨L,o,hf,hn,ho,hd⟩,hr⟩:=hl
   have hL:L∈X.fs:=hs L (by unfold frs;rw [List.filterMap_cons,hf];exact List.mem_cons_self)
   obtain ⟨sl,e⟩:=I.base.slot L o ho (I.ok.frf L hL) hL fun z=>I.ok.exfs L z hL
   exact ⟨hk,⟨L,_,hf,hn,e,hd⟩,ih (fun b hb=>hs b (by unfold frs;rw [List.filterMap_cons,hf];exact List.mem_cons_of_mem _ hb)) hr⟩
 exact all X.outer (fun _ hb=>hb) I.ok.fV
theorem Inv.stack (I:Inv X pins σ H s):s.heap.FunFrames X.base X.stack:=by
 rcases I.ok.stk with e | ⟨e,hf⟩
 ·rw [e];exact I.fV
 ·rw [e]
  obtain ⟨m,hn,_⟩:=I.loc
  refine .cons (by rw [I.ok.kind];decide) hf hn ?_ I.fV
  exact Heap.get?_none_of_le (Nat.le_trans I.ok.bsz I.ok.above)
theorem Inv.kH (I:Inv X pins σ H s):∀ b∈frs X.stack,b∈X.env.locals :: X.fs:=fun b hb=>by
 rcases I.ok.stk with e | ⟨e,hf⟩
 ·rw [e] at hb;exact List.mem_cons_of_mem _ hb
 ·rw [e] at hb
  unfold frs at hb
  rw [List.filterMap_cons,hf] at hb
  exact hb
theorem Inv.p9 (I:Inv X pins σ H s):∀ b∈frs X.stack,H b=none:=fun b hb=>by
 rcases List.mem_cons.mp (I.kH b hb) with e | hb
 ·rw [e];exact I.free
 ·obtain ⟨_,o,ho,_⟩:=I.ok.fV.mem hb
  exact I.base.free b o ho (I.ok.frf b hb) fun z=>I.ok.exfs b z hb
theorem Inv.step {g':Array GenState} {t':Nat} {d':Drawn} {ch:List Addr} (I:Inv X pins σ H s)
  (hch:∀ b∈ch,(b∈X.ex∨X.s₀.heap.objs.size≤b)∧b≠X.env.locals∧(∀ x c,X.env.cells.lookup x=some c→c≠b)∧∀ p∈X.pn++pins,p.1≠b)
  (keep:∀ b o,b≠X.env.locals→b∉X.fs→b∉ch→s.heap.get? b=some o→H b=none→h'.get? b=some o)
  (slot:∀ b o,b≠X.env.locals→b∈X.fs→b∉ch→s.heap.get? b=some o→H b=none→∃ sl,h'.get? b=some { o with slots:=sl }) (free:∀ b o,b∉ch→s.heap.get? b=some o→H b=none→H' b=none)
  (there:∀ b o,b∉ch→s.heap.get? b=some o→∃ o',h'.get? b=some o')
  (tups:∀ b xs,H b=some (.tup xs)→H' b=some (.tup xs)) (frzs:∀ b o u,H b=some (.frz o u)→H' b=some (.frz o u)) (tbls:∀ b ps,H b=some (.tbl ps)→∃ more,H' b=some (.tbl (ps++more)))
  (ns:∀ m,s.heap.Ns X.env.locals m→h'.Ns X.env.locals m) (hok:HOk X.prog X.w H' h') (hg:AllBare g') :
  Inv X pins σ H' { s with heap:=h',gens:=g',drawn:=d',toks:=t' }:=by
 have neL:∀ b o,X.s₀.heap.get? b=some o→b≠X.env.locals:=fun b o e=>Nat.ne_of_lt (Nat.lt_of_lt_of_le (Heap.lt_size e) I.ok.above)
 have neC:∀ b o,X.s₀.heap.get? b=some o→b∉X.ex→b∉ch:=fun b o e hx hb=>by
  rcases (hch b hb).1 with z | z
  ·exact hx z
  ·exact absurd (Nat.lt_of_lt_of_le (Heap.lt_size e) z) (Nat.lt_irrefl _)
 have cellK:∀ x c,X.env.cells.lookup x=some c→∀ v,s.heap.IsCell c v→h'.IsCell c v:=fun x c e v ⟨o,ho,hd⟩=>by
  have nch:c∉ch:=fun z=>(hch c z).2.2.1 x c e rfl
  by_cases hc:c∈X.fs
  ·obtain ⟨sl,q⟩:=slot c o (I.cne x c e) hc nch ho (I.freeC x c e)
   exact ⟨_,q,hd⟩
  ·exact ⟨o,keep c o (I.cne x c e) hc nch ho (I.freeC x c e),hd⟩
 refine ⟨I.ok,I.os,hg,⟨fun b o e n hb hx=>?_,fun b o e n hb hx=>?_,fun b o e n hx=>?_,fun b o e hx=>?_,fun b xs e=>tups b xs (I.base.tups b xs e),fun b o xs e=>frzs b o xs (I.base.frzs b o xs e),fun b ps e=>?_⟩,?_,fun x c e=>?_,?_,fun x c e=>?_,fun p hp=>?_,hok,I.len⟩
 ·exact keep b o (neL b o e) hb (neC b o e hx) (I.base.keep b o e n hb hx) (I.base.free b o e n hx)
 ·obtain ⟨sl,e1⟩:=I.base.slot b o e n hb hx
  obtain ⟨sl',e2⟩:=slot b _ (neL b o e) hb (neC b o e hx) e1 (I.base.free b o e n hx)
  exact ⟨sl',e2⟩
 ·obtain ⟨o',e1⟩:=I.base.there b o e hx
  exact free b o' (neC b o e hx) e1 (I.base.free b o e n hx)
 ·obtain ⟨o',e1⟩:=I.base.there b o e hx
  exact there b o' (neC b o e hx) e1
 ·obtain ⟨m1,e1⟩:=I.base.tbls b ps e
  obtain ⟨m2,e2⟩:=tbls b _ e1
  exact ⟨m1++m2,by rw [e2,Array.append_assoc]⟩
 ·obtain ⟨m,hn,hl⟩:=I.loc
  refine ⟨m,ns m hn,fun i x v e1 e2 e3=>?_⟩
  obtain ⟨u,r,l⟩:=hl i x v e1 e2 e3
  refine ⟨u,r,?_⟩
  rcases l with l | ⟨k,c,e,z⟩
  ·exact .inl l
  ·exact .inr ⟨k,c,e,cellK x c e _ z⟩
 ·obtain ⟨v,z⟩:=I.cell x c e
  exact ⟨v,cellK x c e v z⟩
 ·obtain ⟨m,⟨o,_,_,ho,_⟩,_⟩:=I.loc
  exact free _ o (fun z=>(hch _ z).2.1 rfl) ho I.free
 ·obtain ⟨v,o,ho,hd⟩:=I.cell x c e
  exact free c o (fun z=>(hch c z).2.2.1 x c e rfl) ho (I.freeC x c e)
 ·obtain ⟨e,n,ne,nf,d⟩:=I.pin p hp
  have nch:p.1∉ch:=fun z=>(hch p.1 z).2.2.2 p hp rfl
  exact ⟨keep p.1 p.2 ne nf nch e n,free p.1 p.2 nch e n,ne,nf,d⟩
theorem Inv.un {t':Nat} (I:Inv X pins σ H s) (u:Un X.fs [] H H' s.heap h') (hok:HOk X.prog X.w H' h'):Inv X pins σ H' { s with heap:=h',toks:=t' }:=by
 obtain ⟨m,⟨o,es,ep,ho,r⟩,_⟩:=id I.loc
 obtain ⟨sl,hL⟩:=u.any ho I.free (by simp)
 exact I.step (g':=s.gens) (d':=s.drawn) (ch:=[]) (fun _ z=>nomatch z) (fun b o _ hb _ e n=>u.keep b o e n hb (by simp)) (fun b o _ hb _ e n=>u.slot b o e n hb (by simp)) (fun b o _ e n=>u.free b o e n (by simp)) (fun b o _ e=>u.there b o e (by simp)) u.tups u.frzs u.tbls (fun m' hm=>by
  obtain ⟨o',es',ep',ho',r'⟩:=hm
  rw [ho] at ho';cases ho'
  exact ⟨_,es',ep',hL,r'⟩) hok I.bare
theorem Inv.call {g':Array GenState} {t':Nat} {d':Drawn} {ch:List Addr} (I:Inv X pins σ H s) (u:Un (frs X.stack) ch H H' s.heap h') (hok:HOk X.prog X.w H' h') (hg:AllBare g')
  (hch:∀ b∈ch,(b∈X.ex∨X.s₀.heap.objs.size≤b)∧b≠X.env.locals∧(∀ x c,X.env.cells.lookup x=some c→c≠b)∧∀ p∈X.pn++pins,p.1≠b) :
  Inv X pins σ H' { s with heap:=h',gens:=g',drawn:=d',toks:=t' }:=by
 obtain ⟨m,⟨o,es,ep,ho,r⟩,_⟩:=id I.loc
 obtain ⟨sl,hL⟩:=u.any ho I.free fun z=>(hch _ z).2.1 rfl
 exact I.step (ch:=ch) hch (fun b o hL hb hc e n=>u.keep b o e n (fun z=>(List.mem_cons.mp (I.kH b z)).elim hL hb) hc) (fun b o _ _ hc e n=>u.any e n hc) (fun b o hc e n=>u.free b o e n hc) (fun b o hc e=>u.there b o e hc) u.tups u.frzs u.tbls (fun m' hm=>by
  obtain ⟨o',es',ep',ho',r'⟩:=hm
  rw [ho] at ho';cases ho'
  exact ⟨_,es',ep',hL,r'⟩) hok hg
theorem Inv.turned {t':Nat} {it:Addr} (I:Inv X pins σ H s) (k:∀ b o,b≠it→s.heap.get? b=some o→h'.get? b=some o) (hn:H it=none) (hL:it≠X.env.locals)
  (h1:it∈X.ex∨X.s₀.heap.objs.size≤it) (h2:∀ x c,X.env.cells.lookup x=some c→c≠it) (h3:∀ p∈X.pn++pins,p.1≠it):Inv X pins σ H { s with heap:=h',toks:=t' }:=by
 have nit:∀ b u,H b=some u→b≠it:=fun b u e z=>by rw [z,hn] at e;cases e
 refine I.step (g':=s.gens) (d':=s.drawn) (ch:=[it]) (fun b hb=>?_) (fun b o _ _ hc e _=>k b o (fun z=>hc (by simp [z])) e) (fun b o _ _ hc e _=>⟨o.slots,k b o (fun z=>hc (by simp [z])) e⟩) (fun _ _ _ _ n=>n)
  (fun b o hc e=>⟨o,k b o (fun z=>hc (by simp [z])) e⟩) (fun _ _ e=>e) (fun _ _ _ e=>e) (fun b ps e=>⟨#[],by rw [e];simp⟩) (fun m hm=>?_) (fun b u e=>?_) I.bare
 ·have e:b=it:=by simpa using hb
  subst e
  exact ⟨h1,hL,h2,h3⟩
 ·obtain ⟨o,es,ep,ho,r⟩:=hm
  exact ⟨o,es,ep,k _ o (Ne.symm hL) ho,r⟩
 ·refine (I.hok b u e).jN (fun c v hc q=>k c v ?_ q) (fun _ q=>q) fun _ _ q=>q
  rcases hc with z | z
  ·rw [z];exact nit b u e
  ·exact nit c _ z
theorem Inv.tok (I:Inv X pins σ H s) (t:Nat):Inv X pins σ H { s with toks:=t }:=I.un (h':=s.heap) (t':=t) Un.refl I.hok
theorem Inv.kept {t':Nat} (I:Inv X pins σ H s) (k:∀ b u,s.heap.get? b=some u→h'.get? b=some u):Inv X pins σ H { s with heap:=h',toks:=t' }:=I.un (Un.kept k) (I.hok.kept k)
theorem Inv.laid {a:Addr} {o:HO} {t':Nat} (I:Inv X pins σ H s) (k:∀ b u,s.heap.get? b=some u→h'.get? b=some u) (hp:s.heap.objs.size≤a) (new:bz X.prog X.w (upd H a o) h' a o) :
  Inv X pins σ (upd H a o) { s with heap:=h',toks:=t' }:=I.un (Un.laid k hp (I.hok.fresh hp)) (I.hok.laid k hp new)
theorem Inv.write {x e:Addr} {o:HO} {t':Nat} (I:Inv X pins σ H s) (mu:Mut (H x)) (he:e=x∨H e=some (.own x)) (k:∀ b u,b≠e→s.heap.get? b=some u→h'.get? b=some u) (heo:∃ u,h'.get? e=some u)
  (new:bz X.prog X.w (upd H x o) h' x o):Inv X pins σ (upd H x o) { s with heap:=h',toks:=t' }:=I.un (Un.write mu he k heo) (I.hok.write mu he k heo new)
theorem Inv.lD {pins':List (Addr×Obj)} (I:Inv X pins σ H s) (h:∀ p∈pins',s.heap.get? p.1=some p.2∧H p.1=none∧p.1≠X.env.locals∧p.1∉X.fs∧∀ v,p.2.data≠.cell v):Inv X pins' σ H s:=
 ⟨I.ok,I.os,I.bare,I.base,I.loc,I.cell,I.free,I.freeC,fun p hp=>(List.mem_append.mp hp).elim (fun z=>I.pin p (List.mem_append_left _ z)) (h p),I.hok,I.len⟩
theorem n3 {N:List Str} (hN:N.Nodup) {i j:Nat} {x:Str} (a:N[i]?=some x) (b:N[j]?=some x):i=j:=by
 obtain ⟨h1,e1⟩:=List.getElem?_eq_some_iff.mp a
 obtain ⟨h2,e2⟩:=List.getElem?_eq_some_iff.mp b
 exact (List.getElem_inj hN).mp (e1.trans e2.symm)
theorem tY {M:Model} {A:Around} {E:Value→Shared→Prop} {i:Nat} {x:Str} {v:V} {u:Value} {Q:Unit→Shared→Prop} (I:Inv X pins σ H s) (hN:X.N.Nodup) (hi:X.N[i]?=some x) (hx:Loc X.env.scope x) (r:RelV v u)
  (h:∀ s',Inv X pins (σ.set i (some v)) H s'→(∃ a,Heap.SameBut a s.heap s'.heap∧(a=X.env.locals∨X.env.cells.lookup x=some a))→Q () s') (hf:X.fn x=true∨X.env.scope.names.lookup x=some .local:=by first | exact .inl rfl | exact .inr rfl | assumption):wpAny M A (storeName X.env x u) Q E s:=by
 obtain ⟨m,hn,hl⟩:=id I.loc
 have hcls:(X.env.scope.kind == .class || (X.env.scope.kind == .module && X.env.locals != X.env.globals))=false:=by rw [I.ok.kind];rfl
 have hiσ:i < σ.length:=by rw [I.len];exact (List.getElem?_eq_some_iff.mp hi).1
 have cne:=I.cne
 have tracked:∀ {a:Addr} {h':Heap},(∃ o,s.heap.get? a=some o∧H a=none)→Heap.SameBut a s.heap h'→HOk X.prog X.w H h':=fun {a h'} ha hs b ob e=>by
  obtain ⟨_,_,hfree⟩:=ha
  refine (I.hok b ob e).jN (fun c w' hc q=>(hs.2 c ?_).trans q) (fun _ q=>q) fun _ _ q=>q
  rintro rfl
  rcases hc with rfl | hc
  ·rw [hfree] at e;cases e
  ·rw [hfree] at hc;cases hc
 rcases hx with hk | hk
 ·refine wpAny_storeName_local hk hn (fun h' hn' hs=>?_) hcls
  obtain ⟨oL,_,_,hoL,_⟩:=id hn
  refine h _ ⟨I.ok,I.os,I.bare,⟨fun b o e n hb hx=>?_,fun b o e n hb hx=>?_,I.base.free,fun b o e hx=>?_,I.base.tups,I.base.frzs,I.base.tbls⟩,⟨_,hn',fun j y v' e1 e2 e3=>?_⟩,fun y c e=>?_,I.free,I.freeC,fun p hp=>?_,tracked ⟨oL,hoL,I.free⟩ hs,by simpa using I.len⟩ ⟨_,hs,.inl rfl⟩
  ·exact (hs.2 b (Nat.ne_of_lt (Nat.lt_of_lt_of_le (Heap.lt_size e) I.ok.above))).trans (I.base.keep b o e n hb hx)
  ·obtain ⟨sl,e1⟩:=I.base.slot b o e n hb hx
   exact ⟨sl,(hs.2 b (Nat.ne_of_lt (Nat.lt_of_lt_of_le (Heap.lt_size e) I.ok.above))).trans e1⟩
  ·obtain ⟨o',e1⟩:=I.base.there b o e hx
   exact ⟨o',(hs.2 b (Nat.ne_of_lt (Nat.lt_of_lt_of_le (Heap.lt_size e) I.ok.above))).trans e1⟩
  ·by_cases hj:j=i
   ·subst hj
    rw [hi] at e1;cases e1
    rw [List.getElem?_set_self hiσ] at e2
    cases e2
    exact ⟨u,r,.inl ⟨hk,by simp⟩⟩
   ·rw [List.getElem?_set_ne (Ne.symm hj)] at e2
    obtain ⟨u',r',q⟩:=hl j y v' e1 e2 e3
    refine ⟨u',r',?_⟩
    rcases q with ⟨k,e⟩ | ⟨k,c,e,z⟩
    ·refine .inl ⟨k,?_⟩
     have:y≠x:=fun e=>hj (n3 hN e1 (e ▸ hi))
     simp [this,e]
    ·exact .inr ⟨k,c,e,z.sameBut hs (cne y c e)⟩
  ·obtain ⟨w',z⟩:=I.cell y c e
   exact ⟨w',z.sameBut hs (cne y c e)⟩
  ·obtain ⟨e,n,ne,nf,d⟩:=I.pin p hp
   exact ⟨(hs.2 p.1 ne).trans e,n,ne,nf,d⟩
 ·have hfn:X.fn x=true:=by
   rcases hf with z | z
   ·exact z
   ·rw [z] at hk;cases hk
  obtain ⟨c,hc⟩:=I.ok.has x (.inl hk)
  obtain ⟨w',z⟩:=I.cell x c hc
  refine wpAny_storeName_cell I.ok.kind hk hc z (fun h' hc' hs=>?_)
  obtain ⟨oc,hoc,hocd⟩:=id z
  refine h { s with heap:=h' } ⟨I.ok,I.os,I.bare,⟨fun b o e n hb hx=>?_,fun b o e n hb hx=>?_,I.base.free,fun b o e hx=>?_,I.base.tups,I.base.frzs,I.base.tbls⟩,⟨m,hn.sameBut hs (Ne.symm (cne x c hc)),fun j y v' e1 e2 e3=>?_⟩,fun y c' e=>?_,I.free,I.freeC,fun p hp=>?_,tracked ⟨oc,hoc,I.freeC x c hc⟩ hs,by simpa using I.len⟩ ⟨c,hs,.inr hc⟩
  ·exact (hs.2 b (Nat.ne_of_lt (Nat.lt_of_lt_of_le (Heap.lt_size e) (I.ok.cab x c hfn hc)))).trans (I.base.keep b o e n hb hx)
  ·obtain ⟨sl,e1⟩:=I.base.slot b o e n hb hx
   exact ⟨sl,(hs.2 b (Nat.ne_of_lt (Nat.lt_of_lt_of_le (Heap.lt_size e) (I.ok.cab x c hfn hc)))).trans e1⟩
  ·obtain ⟨o',e1⟩:=I.base.there b o e hx
   exact ⟨o',(hs.2 b (Nat.ne_of_lt (Nat.lt_of_lt_of_le (Heap.lt_size e) (I.ok.cab x c hfn hc)))).trans e1⟩
  ·by_cases hj:j=i
   ·subst hj
    rw [hi] at e1;cases e1
    rw [List.getElem?_set_self hiσ] at e2
    cases e2
    exact ⟨u,r,.inr ⟨.inl hk,c,hc,hc'⟩⟩
   ·rw [List.getElem?_set_ne (Ne.symm hj)] at e2
    obtain ⟨u',r',q⟩:=hl j y v' e1 e2 e3
    refine ⟨u',r',?_⟩
    rcases q with q | ⟨k,c',e,z'⟩
    ·exact .inl q
    ·refine .inr ⟨k,c',e,z'.sameBut hs ?_⟩
     rintro rfl
     exact hj (n3 hN e1 (I.ok.inj _ _ _ e hc ▸ hi))
  ·by_cases hcc:c'=c
   ·subst hcc;exact ⟨_,hc'⟩
   ·obtain ⟨w2,z2⟩:=I.cell y c' e
    exact ⟨w2,z2.sameBut hs hcc⟩
  ·obtain ⟨e,n,ne,nf,d⟩:=I.pin p hp
   refine ⟨(hs.2 p.1 ?_).trans e,n,ne,nf,d⟩
   intro q
   rw [q,hoc] at e
   have q':oc=p.2:=Option.some.inj e
   exact d w' (by rw [← q'];exact hocd)
theorem jW {M:Model} {A:Around} {E:Value→Shared→Prop} {i:Nat} {x:Str} {v:V} {u:Value} {Q:Unit→Shared→Prop} (I:Inv X pins σ H s) (hN:X.N.Nodup) (hi:X.N[i]?=some x) (hx:Loc X.env.scope x) (r:RelV v u)
  (h:∀ s',Inv X pins (σ.set i (some v)) H s'→Q () s') (hf:X.fn x=true∨X.env.scope.names.lookup x=some .local:=by first | exact .inl rfl | exact .inr rfl | assumption):wpAny M A (storeName X.env x u) Q E s:=
 tY I hN hi hx r (fun s' I' _=>h s' I') hf
theorem Inv.BZ {s':Shared} {ch:List Addr} (I:Inv X pins σ H s) (ho:s'.os=s.os) (u:Un (frs X.stack) ch H H' s.heap s'.heap) (hok:HOk X.prog X.w H' s'.heap) (hg:AllBare s'.gens)
  (hch:∀ b∈ch,(b∈X.ex∨X.s₀.heap.objs.size≤b)∧b≠X.env.locals∧(∀ x c,X.env.cells.lookup x=some c→c≠b)∧∀ p∈X.pn++pins,p.1≠b):Inv X pins σ H' s':=by
 obtain ⟨h',g',d',t',o'⟩:=s'
 have e:o'=s.os:=ho
 subst e
 exact I.call (g':=g') (t':=t') (d':=d') u hok hg hch
end
abbrev XK:=Value→Option Addr→Hp→Prop
abbrev St:=List (Option V)
abbrev VK:=V→Hp→Prop
abbrev TE:=St→Hp→VK→Prop
abbrev TT:=St→Hp→(Bool→Hp→Prop)→Prop
abbrev TA:=St→Hp→(List V→Hp→Prop)→Prop
structure Ends where
 nx:St→Hp→Prop
 rt:VK
 bk:St→Hp→Prop:=fun _ _=>False
 ct:St→Hp→Prop:=fun _ _=>False
abbrev TS:=Ends→St→Hp→Prop
def EP (X:Cx) (pins:List (Addr×Obj)) (σ:St) (Q:VK) (u:Value) (s':Shared):Prop:=∃ v H',Inv X pins σ H' s'∧RelV v u∧Q v H'
def TP (X:Cx) (pins:List (Addr×Obj)) (σ:St) (Q:Bool→Hp→Prop) (b:Bool) (s':Shared):Prop:=∃ H',Inv X pins σ H' s'∧Q b H'
def AP (X:Cx) (pins:List (Addr×Obj)) (σ:St) (Q:List V→Hp→Prop) (us:List Value) (s':Shared):Prop:=∃ vs H',Inv X pins σ H' s'∧Vals vs us∧Q vs H'
def SP (X:Cx) (pins:List (Addr×Obj)) (D:Ends) (f:Flow) (s':Shared):Prop:=
 match f with
 | .next=>∃ σ' H',Inv X pins σ' H' s'∧D.nx σ' H'
 | .brk=>∃ σ' H',Inv X pins σ' H' s'∧D.bk σ' H'
 | .cont=>∃ σ' H',Inv X pins σ' H' s'∧D.ct σ' H'
 | .ret u=>∃ v σ' H',Inv X pins σ' H' s'∧RelV v u∧D.rt v H'
def PE (X:Cx) (e:Expr) (t:TE):Prop:=
 ∀ (pins:List (Addr×Obj)) (s:Shared) (σ:St) (H:Hp) (Q:VK),Inv X pins σ H s→t σ H Q→wpAny (model X.prog X.w) X.A (eval e X.env) (EP X pins σ Q) X.xe s
def PT (X:Cx) (e:Expr) (t:TT):Prop:=
 ∀ (pins:List (Addr×Obj)) (s:Shared) (σ:St) (H:Hp) (Q:Bool→Hp→Prop),Inv X pins σ H s→t σ H Q→wpAny (model X.prog X.w) X.A (isTrue e X.env (eval e X.env)) (TP X pins σ Q) X.xe s
def PW (X:Cx) (e:Expr) (t:TT):Prop:=
 ∀ (whole:Sem Value) (pins:List (Addr×Obj)) (s:Shared) (σ:St) (H:Hp) (Q:Bool→Hp→Prop),Inv X pins σ H s→t σ H Q→wpAny (model X.prog X.w) X.A (isTrue e X.env whole) (TP X pins σ Q) X.xe s
theorem PW.pt {X:Cx} {e:Expr} {t:TT} (h:PW X e t):PT X e t:=h _
def PA (X:Cx) (es:List Expr) (t:TA):Prop:=
 ∀ (pos:Pos) (pins:List (Addr×Obj)) (s:Shared) (σ:St) (H:Hp) (Q:List V→Hp→Prop),Inv X pins σ H s→t σ H Q→wpAny (model X.prog X.w) X.A (spliced (backTo pos (starEach es X.env))) (AP X pins σ Q) X.xe s
def PS (X:Cx) (st:Stmt) (t:TS):Prop:=
 ∀ (pins:List (Addr×Obj)) (s:Shared) (σ:St) (H:Hp) (D:Ends),Inv X pins σ H s→t D σ H→wpAny (model X.prog X.w) X.A (exec st X.env) (SP X pins D) X.xe s
def PSs (X:Cx) (st:List Stmt) (t:TS):Prop:=
 ∀ (pins:List (Addr×Obj)) (s:Shared) (σ:St) (H:Hp) (D:Ends),Inv X pins σ H s→t D σ H→wpAny (model X.prog X.w) X.A (execs st X.env) (SP X pins D) X.xe s
theorem thn {α:Type} {t:Sem α} {Q Q':α→Shared→Prop} {M:Model} {A:Around} {E:Value→Shared→Prop} {s:Shared} (h:wpAny M A t Q E s) (hQ:∀ a s,Q a s→Q' a s):wpAny M A t Q' E s:=wpAny_mono h hQ fun _ _ x=>x
section
variable {X:Cx}
def EK (i:Nat):TE:=fun σ H Q=>∃ v,σ[i]?=some (some v)∧Q v H
def tC (v:V):TE:=fun _ H Q=>Q v H
theorem AF {i:Nat} {x:Str} {pos:Pos} (hN:X.N[i]?=some x) (hv:Vis X.env.scope x) (hd:(x == ("__debug__":Str))=false:=by decide) (hcd:(x == ("__classdict__":Str))=false:=by decide):PE X (.Name x pos) (EK i):=by
 intro pins s σ H Q I h
 obtain ⟨v,e,h⟩:=h
 obtain ⟨m,hn,hl⟩:=I.loc
 obtain ⟨u,r,l⟩:=hl i x v hN e hv
 have fin:EP X pins σ Q u s:=⟨v,H,I,r,h⟩
 rcases l with ⟨hk,hm⟩ | ⟨hk,c,hc,hcell⟩
 ·exact wpAny_Name (wpAny_loadName_local I.ok.kind hk hn hm fin) hd
 ·rcases hk with hk | hk
  ·exact wpAny_Name (wpAny_loadName_cell I.ok.kind hk hc hcell fin) hd
  ·exact wpAny_Name (wpAny_loadName_free I.ok.kind hk hc hcell fin hcd) hd
theorem Bv {i j pos}:PE X (.Constant (.int i) j pos) (tC (.int i)):=fun _ _ _ H _ I h=>wpAny_Constant_int ⟨.int i,H,I.tok _,⟨_,rfl⟩,h⟩
theorem B2 {b j pos}:PE X (.Constant (.bool b) j pos) (tC (.bl b)):=fun _ _ _ H _ I h=>Constant_bool ⟨.bl b,H,I,rfl,h⟩
theorem AQ {j pos}:PE X (.Constant .none j pos) (tC .non):=fun _ _ _ H _ I h=>Constant_none ⟨.non,H,I,rfl,h⟩
theorem za {x j pos}:PE X (.Constant (.str x) j pos) (tC (.str x)):=fun _ _ _ H _ I h=>Calls.Constant_str ⟨.str x,H,I.tok _,⟨_,rfl⟩,h⟩
def Gl (X:Cx) (x:Str):Prop:=X.env.kindOf x=some .globalImplicit
theorem xp {E:Value→Shared→Prop} {pins:List (Addr×Obj)} {s:Shared} {σ:St} {H:Hp} {x:Str} {u:Value} {pos:Pos} {Q:Value→Shared→Prop} (I:Inv X pins σ H s) (hg:Gl X x) (hm:X.mg x=some u) (h:Q u s)
  (hd:(x == ("__debug__":Str))=false:=by decide):wpAny (model X.prog X.w) X.A (eval (.Name x pos) X.env) Q E s:=
 Calls.Name_function_global I.ok.kind hg (Calls.loadGlobal_global (by rw [I.ok.glob];exact I.mod.glob.keeps I.bk) hm h) hd
theorem cf {E:Value→Shared→Prop} {pins:List (Addr×Obj)} {s:Shared} {σ:St} {H:Hp} {x:Str} {u:Value} {pos:Pos} {Q:Value→Shared→Prop} (I:Inv X pins σ H s) (hg:Gl X x) (hm:X.mg x=none) (hv:bootBuiltins x=some u) (h:Q u s)
  (hn:x≠"__name__":=by decide) (hd:(x == ("__debug__":Str))=false:=by decide):wpAny (model X.prog X.w) X.A (eval (.Name x pos) X.env) Q E s:=by
 obtain ⟨mb,h1,h2⟩:=I.mod.blt
 exact Calls.Name_function_global I.ok.kind hg (Calls.loadGlobal_builtin (by rw [I.ok.glob];exact I.mod.glob.keeps I.bk) hm (by rw [I.ok.blt];exact h1.keeps I.bk) ((h2 x hn).trans hv) h) hd
theorem xO {x:Str} {v:V} {u:Value} {pos:Pos} (hg:Gl X x) (hm:X.mg x=none) (hv:bootBuiltins x=some u) (r:RelV v u) (hn:x≠"__name__":=by decide) (hd:(x == ("__debug__":Str))=false:=by decide):PE X (.Name x pos) (tC v):=
 fun _ _ _ H _ I h=>cf I hg hm hv ⟨v,H,I,r,h⟩ hn hd
variable {a b:Expr} {ta tb:TE} {pos:Pos}
variable {tA tB':TT} {rest:List Expr}
def DV (t u:TT):TT:=fun σ H Q=>t σ H fun c H1=>if c=true then u σ H1 Q else Q false H1
def tOr (t u:TT):TT:=fun σ H Q=>t σ H fun c H1=>if c=true then Q true H1 else u σ H1 Q
def Em (t:TT):TT:=fun σ H Q=>t σ H fun c H1=>Q (!c) H1
theorem yl (ha:PT X a tA):PW X (.BoolOp .And [a] pos) tA:=by
 intro wh pins s σ H Q I h
 refine isTrue_and (thn (ha pins s σ H Q I h) fun c s1 e=>?_)
 cases c with
 | true=>exact isTrue_and_nil e
 | false=>exact e
theorem z9 (ha:PT X a tA):PW X (.BoolOp .Or [a] pos) tA:=by
 intro wh pins s σ H Q I h
 refine isTrue_or (thn (ha pins s σ H Q I h) fun c s1 e=>?_)
 cases c with
 | false=>exact isTrue_or_nil e
 | true=>exact e
theorem BK (ha:PT X a tA) (hb:PW X (.BoolOp .And (b :: rest) pos) tB'):PW X (.BoolOp .And (a :: b :: rest) pos) (DV tA tB'):=by
 intro wh pins s σ H Q I h
 refine isTrue_and (thn (ha pins s σ H _ I h) fun c s1 ⟨H1,I1,q1⟩=>?_)
 cases c with
 | true=>exact hb wh pins s1 σ H1 Q I1 q1
 | false=>exact ⟨H1,I1,q1⟩
theorem CH (ha:PT X a tA) (hb:PW X (.BoolOp .Or (b :: rest) pos) tB'):PW X (.BoolOp .Or (a :: b :: rest) pos) (tOr tA tB'):=by
 intro wh pins s σ H Q I h
 refine isTrue_or (thn (ha pins s σ H _ I h) fun c s1 ⟨H1,I1,q1⟩=>?_)
 cases c with
 | true=>exact ⟨H1,I1,q1⟩
 | false=>exact hb wh pins s1 σ H1 Q I1 q1
theorem Bc (ha:PT X a tA):PT X (.UnaryOp .Not a pos) (Em tA):=by
 intro pins s σ H Q I h
 exact isTrue_not (ha pins s σ H (fun c H1=>Q (!c) H1) I h)
def BR (ta tb:TE):TE:=fun σ H Q=>ta σ H fun x H1=>∃ c,x=.bl c∧if c=true then tb σ H1 Q else Q (.bl false) H1
def D9 (ta tb:TE):TE:=fun σ H Q=>ta σ H fun x H1=>∃ c,x=.bl c∧if c=true then Q (.bl true) H1 else tb σ H1 Q
def CW (ta:TE):TE:=fun σ H Q=>ta σ H fun x H1=>∃ c,x=.bl c∧Q (.bl (!c)) H1
theorem yY {op} {t:TE} (h:PE X a t):PE X (.BoolOp op [a] pos) t:=fun pins s σ H Q I hw=>BoolOp_one (h pins s σ H Q I hw)
theorem Bi (ha:PE X a ta) (hb:PE X (.BoolOp .And (b :: rest) pos) tb):PE X (.BoolOp .And (a :: b :: rest) pos) (BR ta tb):=by
 intro pins s σ H Q I h
 refine BoolOp_and (thn (ha pins s σ H _ I h) fun v s1 ⟨x,H1,I1,r1,q1⟩=>?_)
 obtain ⟨c,rfl,q1⟩:=q1
 cases r1
 refine wpAny_truthy_bool ?_
 cases c with
 | true=>exact hb pins s1 σ H1 Q I1 q1
 | false=>exact ⟨.bl false,H1,I1,rfl,q1⟩
theorem Cv (ha:PE X a ta) (hb:PE X (.BoolOp .Or (b :: rest) pos) tb):PE X (.BoolOp .Or (a :: b :: rest) pos) (D9 ta tb):=by
 intro pins s σ H Q I h
 refine BoolOp_or (thn (ha pins s σ H _ I h) fun v s1 ⟨x,H1,I1,r1,q1⟩=>?_)
 obtain ⟨c,rfl,q1⟩:=q1
 cases r1
 refine wpAny_truthy_bool ?_
 cases c with
 | false=>exact hb pins s1 σ H1 Q I1 q1
 | true=>exact ⟨.bl true,H1,I1,rfl,q1⟩
theorem Bt (ha:PE X a ta):PE X (.UnaryOp .Not a pos) (CW ta):=by
 intro pins s σ H Q I h
 refine UnaryOp_ (thn (ha pins s σ H _ I h) fun v s1 ⟨x,H1,I1,r1,q1⟩=>?_)
 obtain ⟨c,rfl,q1⟩:=q1
 cases r1
 exact not_of (wpAny_truthy_bool ⟨.bl (!c),H1,I1,rfl,q1⟩)
end
def SqL (K:PySem.W.Frag) (H:Hp) (a:Addr) (xs:List V):Prop:=
 Rd H a (.lst xs) ∨
  ∃ (o:Obj) (its:Array Value) (n:Nat),K.lookup a=some o∧o.cls=.type "list"∧o.dict=none∧o.data=.seq its n∧its.size≤sizeLine∧Vals xs its.toList
def SqT (K:PySem.W.Frag) (H:Hp) (a:Addr) (xs:List V):Prop:=
 Rd H a (.tup xs) ∨
  ∃ (o:Obj) (its:Array Value) (n:Nat),K.lookup a=some o∧o.cls=.type "tuple"∧o.data=.seq its n∧its.size≤sizeLine∧Vals xs its.toList
def En:Value→Option V
 | .none=>some .non
 | .bool b=>some (.bl b)
 | .int i _=>some (.int i)
 | .str x _=>some (.str x)
 | .bytes b _=>some (.byt b)
 | .float b _=>some (.flt b)
 | .ref a=>some (.ref a)
 | .type n=>some (.ty n)
 | _=>none
theorem RelV.abs {x:V} {u:Value} (r:RelV x u):En u=some x:=by
 cases x with
 | non=>cases r;rfl
 | bl _=>cases r;rfl
 | int _=>obtain ⟨t,rfl⟩:=r;rfl
 | str _=>obtain ⟨t,rfl⟩:=r;rfl
 | byt _=>obtain ⟨t,rfl⟩:=r;rfl
 | flt _=>obtain ⟨t,rfl⟩:=r;rfl
 | ref _=>cases r;rfl
 | ty _=>cases r;rfl
theorem RelV.inj {x y:V} {u:Value} (r:RelV x u) (q:RelV y u):x=y:=Option.some.inj (r.abs.symm.trans q.abs)
theorem Vals.inj:∀ {xs ys:List V} {us:List Value},Vals xs us→Vals ys us→xs=ys
 | _,_,_,.nil,.nil=>rfl
 | _,_,_,.cons r t,.cons r' t'=>by rw [r.inj r',Vals.inj t t']
section
variable {X:Cx} {pins:List (Addr×Obj)} {σ:St} {H:Hp} {s:Shared} {a:Addr} {xs ys:List V}
theorem SqL.of {K:PySem.W.Frag} (h:H a=some (.lst xs)):SqL K H a xs:=.inl (.inl h)
theorem SqT.of {K:PySem.W.Frag} (h:H a=some (.tup xs)):SqT K H a xs:=.inl (.inl h)
theorem Inv.list (I:Inv X pins σ H s) (h:SqL X.K H a xs):∃ its:List Value,Vals xs its∧PlainL s.heap a its.toArray∧xs.length≤sizeLine:=by
 rcases h with h | ⟨o,its,n,hk,hc,hd,hs,hz,r⟩
 ·obtain ⟨z,its,n,r,e⟩:=h.ok I.hok
  exact ⟨its,r,⟨_,n,e,rfl,rfl,rfl⟩,z⟩
 ·refine ⟨its.toList,r,⟨o,n,I.kIn a o hk,hc,hd,by simpa using hs⟩,?_⟩
  have e:=r.length
  simp only [Array.length_toList] at e
  omega
theorem Inv.tuple (I:Inv X pins σ H s) (h:SqT X.K H a xs):∃ its:List Value,Vals xs its∧IsTup s.heap a its.toArray∧xs.length≤sizeLine:=by
 rcases h with h | ⟨o,its,n,hk,hc,hs,hz,r⟩
 ·obtain ⟨z,its,r,p⟩:=h.ok I.hok
  exact ⟨its,r,p,z⟩
 ·refine ⟨its.toList,r,⟨o,I.kIn a o hk,hc,n,by simpa using hs⟩,?_⟩
  have e:=r.length
  simp only [Array.length_toList] at e
  omega
theorem Inv.nM (I:Inv X pins σ H s) (h:SqL X.K H a xs) (h':SqL X.K H a ys):xs=ys:=by
 obtain ⟨its,r,⟨o,n,e,_,_,d⟩,_⟩:=I.list h
 obtain ⟨its',r',⟨o',n',e',_,_,d'⟩,_⟩:=I.list h'
 rw [e] at e';cases e'
 rw [d] at d'
 injection d' with d1 _
 have:its=its':=by simpa using congrArg Array.toList d1
 subst this
 exact r.inj r'
theorem Inv.tI (I:Inv X pins σ H s) (h:SqT X.K H a xs) (h':SqT X.K H a ys):xs=ys:=by
 obtain ⟨its,r,⟨o,e,_,n,d⟩,_⟩:=I.tuple h
 obtain ⟨its',r',⟨o',e',_,n',d'⟩,_⟩:=I.tuple h'
 rw [e] at e';cases e'
 rw [d] at d'
 injection d' with d1 _
 have:its=its':=by simpa using congrArg Array.toList d1
 subst this
 exact r.inj r'
end
abbrev Cx.gv (X:Cx) (E:Value→Shared→Prop):Cx:={ X with xe:=E }
abbrev Cx.nox (X:Cx):Cx:=X.gv fun _ _=>False
theorem Cx.Ok.gv {X:Cx} (ok:X.Ok) (E:Value→Shared→Prop):(X.gv E).Ok:=
 ⟨ok.mod,ok.kind,ok.glob,ok.blt,ok.above,ok.inj,ok.has,ok.cab,ok.hd,ok.frames,ok.stk,ok.exf,ok.bs,ok.bsz,ok.noex,ok.exfs,ok.fV,ok.frf⟩
theorem Cx.Ok.eU {X:Cx} {E:Value→Shared→Prop} (ok:(X.gv E).Ok):X.Ok:=
 ⟨ok.mod,ok.kind,ok.glob,ok.blt,ok.above,ok.inj,ok.has,ok.cab,ok.hd,ok.frames,ok.stk,ok.exf,ok.bs,ok.bsz,ok.noex,ok.exfs,ok.fV,ok.frf⟩
section
variable {X:Cx} {pins:List (Addr×Obj)} {σ:St} {H:Hp} {s:Shared} {E:Value→Shared→Prop}
theorem Inv.gv (I:Inv X pins σ H s) (E:Value→Shared→Prop):Inv (X.gv E) pins σ H s:=⟨I.ok.gv E,I.os,I.bare,I.base,I.loc,I.cell,I.free,I.freeC,I.pin,I.hok,I.len⟩
theorem Inv.eU (I:Inv (X.gv E) pins σ H s):Inv X pins σ H s:=⟨I.ok.eU,I.os,I.bare,I.base,I.loc,I.cell,I.free,I.freeC,I.pin,I.hok,I.len⟩
theorem SP.eU {D:Ends} {f:Flow} {s':Shared} (h:SP (X.gv E) pins D f s'):SP X pins D f s':=by
 cases f with
 | next=>obtain ⟨σ',H',I,q⟩:=h;exact ⟨σ',H',I.eU,q⟩
 | brk=>obtain ⟨σ',H',I,q⟩:=h;exact ⟨σ',H',I.eU,q⟩
 | cont=>obtain ⟨σ',H',I,q⟩:=h;exact ⟨σ',H',I.eU,q⟩
 | ret u=>obtain ⟨v,σ',H',I,r,q⟩:=h;exact ⟨v,σ',H',I.eU,r,q⟩
theorem PSs.nox {st:List Stmt} {t:TS} (h:PSs X.nox st t):PSs X st t:=fun pins s σ H D I hw=>
 wpAny_mono (h pins s σ H D (I.gv _) hw) (fun _ _ q=>q.eU) fun _ _ z=>False.elim z
end
section
variable {X:Cx} {st:Stmt} {rest:List Stmt} {t u:TS} {e:Expr} {te:TE} {pos:Pos}
def DM:TS:=fun D σ H=>D.nx σ H
def Ex (t u:TS):TS:=fun D σ H=>t { D with nx:=u D } σ H
theorem ye:PSs X [] DM:=fun _ _ σ H _ I h=>wpAny_execs_nil ⟨σ,H,I,h⟩
theorem vm (h1:PS X st t) (h2:PSs X rest u):PSs X (st :: rest) (Ex t u):=by
 intro pins s σ H D I h
 refine wpAny_execs_cons (thn (h1 pins s σ H { D with nx:=u D } I h) fun f s1 q=>?_)
 cases f with
 | next=>
  obtain ⟨σ',H',I',q⟩:=q
  exact h2 pins s1 σ' H' D I' q
 | ret v=>exact q
 | brk=>exact q
 | cont=>exact q
theorem xW (h1:PS X st t):PSs X [st] t:=by
 intro pins s σ H D I h
 refine wpAny_execs_cons (thn (h1 pins s σ H D I h) fun f s1 q=>?_)
 cases f with
 | next=>exact wpAny_execs_nil q
 | ret v=>exact q
 | brk=>exact q
 | cont=>exact q
theorem Inv.quiet {pins:List (Addr×Obj)} {σ:St} {H:Hp} {s:Shared} (I:Inv X pins σ H s):interactive X.env=false:=by simp [interactive,I.ok.kind]
def Cf (te:TE):TS:=fun D σ H=>te σ H fun _ H1=>D.nx σ H1
theorem xY (he:PE X e te) (hs:swapsWith e none pos.line X.env=pure false:=by rfl):PS X (.Expr e pos) (Cf te):=by
 intro pins s σ H D I h
 exact wpAny_Expr_any (thn (he pins s σ H _ I h) fun v s1 ⟨x,H1,I1,r1,q1⟩=>⟨σ,H1,I1,q1⟩) I.quiet hs
def EF (te:TE):TS:=fun D σ H=>te σ H D.rt
theorem AX (he:PE X e te):PS X (.Return (some e) pos) (EF te):=by
 intro pins s σ H D I h
 exact wpAny_Return_some (thn (he pins s σ H _ I h) fun v s1 ⟨x,H1,I1,r1,q1⟩=>⟨x,σ,H1,I1,r1,q1⟩)
def D5 (c:TT) (t u:TS):TS:=fun D σ H=>c σ H fun b H1=>if b=true then t D σ H1 else u D σ H1
theorem De {c:Expr} {a b:List Stmt} {tc:TT} (hc:PT X c tc) (ha:PSs X a t) (hb:PSs X b u):PS X (.If c a b pos) (D5 tc t u):=by
 intro pins s σ H D I h
 refine wpAny_If (thn (hc pins s σ H _ I h) fun d s1 ⟨H1,I1,q1⟩=>?_)
 cases d with
 | true=>exact ha pins s1 σ H1 D I1 q1
 | false=>exact hb pins s1 σ H1 D I1 q1
end
abbrev TG:=V→St→Hp→(St→Hp→Prop)→Prop
abbrev TGs:=List V→St→Hp→(St→Hp→Prop)→Prop
def PG (X:Cx) (target:Expr) (t:TG):Prop:=
 ∀ (pins:List (Addr×Obj)) (s:Shared) (σ:St) (H:Hp) (v:V) (u:Value) (Q:St→Hp→Prop),Inv X pins σ H s→RelV v u→t v σ H Q →
  wpAny (model X.prog X.w) X.A (assign target X.env u) (fun _ s'=>∃ σ' H',Inv X pins σ' H' s'∧Q σ' H') X.xe s
def PGs (X:Cx) (ts:List Expr) (t:TGs):Prop:=
 ∀ (pins:List (Addr×Obj)) (s:Shared) (σ:St) (H:Hp) (vs:List V) (us:List Value) (Q:St→Hp→Prop),Inv X pins σ H s→Vals vs us→t vs σ H Q →
  wpAny (model X.prog X.w) X.A (assignInOrder ((assignEach ts X.env).map (·.2)) us) (fun _ s'=>∃ σ' H',Inv X pins σ' H' s'∧Q σ' H') X.xe s
abbrev nK:=V→V→V→Hp→(Hp→Prop)→Prop
def qG (X:Cx) (t:nK):Prop:=
 ∀ (pins:List (Addr×Obj)) (s:Shared) (σ:St) (H:Hp) (o i v:V) (ov iv u:Value) (Q:Hp→Prop),Inv X pins σ H s→RelV o ov→RelV i iv→RelV v u→t o i v H Q →
  wpAny (model X.prog X.w) X.A (setItem ov iv u) (fun _ s'=>∃ H',Inv X pins σ H' s'∧Q H') X.xe s
section
variable {X:Cx} {pos:Pos}
def wk (i:Nat):TG:=fun v σ H Q=>Q (σ.set i (some v)) H
theorem yA {i:Nat} {x:Str} (hN:X.N.Nodup) (hi:X.N[i]?=some x) (hx:Loc X.env.scope x) (hf:X.fn x=true∨X.env.scope.names.lookup x=some .local:=by first | exact .inl rfl | exact .inr rfl | assumption):PG X (.Name x pos) (wk i):=by
 intro pins s σ H v u Q I r h
 exact wpAny_assign_Name (jW I hN hi hx r (fun s' I'=>⟨_,H,I',h⟩) hf)
def DT:TGs:=fun vs σ H Q=>vs=[]∧Q σ H
def DE (t:TG) (u:TGs):TGs:=fun vs σ H Q=>∃ v r,vs=v :: r∧t v σ H fun σ' H'=>u r σ' H' Q
theorem xE:PGs X [] DT:=by
 intro pins s σ H vs us Q I r h
 obtain ⟨e,h⟩:=h
 subst e
 cases r
 exact assignInOrder_nil ⟨σ,H,I,h⟩
theorem uT {e:Expr} {es:List Expr} {t:TG} {u:TGs} (h1:PG X e t) (h2:PGs X es u)
  (hs:(assignEach (e :: es) X.env).map (·.2)=assign e X.env :: (assignEach es X.env).map (·.2):=by rfl):PGs X (e :: es) (DE t u):=by
 intro pins s σ H vs us Q I r h
 obtain ⟨v,vr,e1,h⟩:=h
 subst e1
 cases r with
 | cons r rr=>
  rw [hs]
  refine assignInOrder_cons (thn (h1 pins s σ H _ _ _ I r h) fun _ s1 ⟨σ1,H1,I1,q1⟩=>?_)
  exact h2 pins s1 σ1 H1 _ _ Q I1 rr q1
def EA (K:PySem.W.Frag) (n:Nat) (t:TGs):TG:=fun v σ H Q=>∃ a xs,v=.ref a∧SqT K H a xs∧xs.length=n∧t xs σ H Q
theorem Be {es:List Expr} {k:Nat} {t:TGs} {n:Nat} (hc:X.calm=true) (h:PGs X es t)
  (hn:(assignEach es X.env).length=n:=by rfl) (hst:(assignEach es X.env).findIdx? (·.1)=none:=by rfl):PG X (.Tuple es k pos) (EA X.K n t):=by
 intro pins s σ H v u Q I r hw
 obtain ⟨a,xs,e1,hq,hl,hw⟩:=hw
 subst e1
 cases r
 obtain ⟨its,rv,ht,hz⟩:=I.tuple hq
 refine assign_Tuple_tuple (I.ok.hd hc) ht (by simp [hn,← hl,rv.length]) hst fun h' hx=>?_
 have I1:Inv X pins σ H { s with heap:=h' }:=I.kept (t':=s.toks) fun b o e=>hx b o (Nat.ne_of_lt (Heap.lt_size e)) e
 exact h pins _ σ H xs _ Q I1 (by simpa using rv) hw
def Ei (to ti:TE) (t:nK):TG:=fun v σ H Q=>to σ H fun o H1=>ti σ H1 fun i H2=>t o i v H2 fun H3=>Q σ H3
theorem BF {o i:Expr} {to ti:TE} {t:nK} (ho:PE X o to) (hi:PE X i ti) (hs:qG X t)
  (ha:∀ v,assign (.Subscript o i pos) X.env v=(do
   let ov ← holding [v] (eval o X.env)
   let iv ← holding [v,ov] (eval i X.env)
   standAt pos
   holding [v,ov,iv] (setItem ov iv v)
   release [v,ov,iv] []):=by intro _;rfl):PG X (.Subscript o i pos) (Ei to ti t):=by
 intro pins s σ H v u Q I r h
 rw [ha]
 refine wpAny_bind (wpAny_holding (thn (ho pins s σ H _ I h) fun ov s1 ⟨x,H1,I1,r1,q1⟩=>?_))
 refine wpAny_bind (wpAny_holding (thn (hi pins s1 σ H1 _ I1 q1) fun iv s2 ⟨y,H2,I2,r2,q2⟩=>?_))
 refine wpAny_bind (wpAny_standAt (wpAny_bind (wpAny_holding (thn (hs pins s2 σ H2 x y v ov iv u _ I2 r1 r2 r q2) fun _ s3 ⟨H3,I3,q3⟩=>?_))))
 exact wpAny_release ⟨σ,H3,I3,q3⟩
def Ap (te:TE) (g:TG):TS:=fun D σ H=>te σ H fun x H1=>g x σ H1 D.nx
theorem zx {tg e:Expr} {te:TE} {g:TG} (he:PE X e te) (hg:PG X tg g) (hs:swapsWithSole [tg] e pos.line X.env=pure false:=by rfl) (hw:swappedStores [tg] e X.env=pure none:=by rfl)
  (h1:(assignEach [tg] X.env).map (·.2)=[assign tg X.env]:=by rfl):PS X (.Assign [tg] e pos) (Ap te g):=by
 intro pins s σ H D I h
 refine wpAny_Assign_stores (thn (he pins s σ H _ I h) fun v s1 ⟨x,H1,I1,r1,q1⟩=>?_) hs hw
 rw [h1]
 exact thn (hg pins s1 σ H1 x v _ I1 r1 q1) fun _ s2 q=>q
theorem BN {i:Nat} {x:Str} {e:Expr} {te:TE} {pos':Pos} (hN:X.N.Nodup) (hi:X.N[i]?=some x) (hx:Loc X.env.scope x) (he:PE X e te) (hs:swapsWith e (some (.Name x pos')) pos.line X.env=pure false:=by rfl) (hf:X.fn x=true∨X.env.scope.names.lookup x=some .local:=by first | exact .inl rfl | exact .inr rfl | assumption) :
  PS X (.Assign [.Name x pos'] e pos) (Ap te (wk i)):=by
 intro pins s σ H D I h
 refine wpAny_Assign_Name (thn (he pins s σ H _ I h) fun v s1 ⟨y,H1,I1,r1,q1⟩=>?_) hs
 exact jW I1 hN hi hx r1 (fun s2 I2=>⟨_,H1,I2,q1⟩) hf
end
structure It where
 go:Nat→Hp→Prop
 yld:Nat→Hp→V→Hp→Prop
 stop:Nat→Hp→Prop
def eF (X:Cx) (pins:List (Addr×Obj)) (H:Hp) (b:Addr):Prop:=
 H b=none∧b≠X.env.locals∧b∉X.fs∧(b∈X.ex∨X.s₀.heap.objs.size≤b)∧(∀ x c,X.env.cells.lookup x=some c→c≠b)∧∀ p∈X.pn++pins,p.1≠b
theorem Inv.jS {X:Cx} {pins:List (Addr×Obj)} {σ:St} {H H':Hp} {s:Shared} {b:Addr} (I:Inv X pins σ H s) (hb:s.heap.objs.size≤b) (hn:H' b=none):eF X pins H' b:=by
 refine ⟨hn,Nat.ne_of_gt (Nat.lt_of_lt_of_le I.lt hb),I.By hb,.inr (Nat.le_trans I.sz hb),fun x c e z=>?_,fun p hp z=>?_⟩
 ·obtain ⟨v,q⟩:=I.cell x c e
  exact absurd (Nat.lt_of_lt_of_le q.lt (by rw [z];exact hb)) (Nat.lt_irrefl _)
 ·exact absurd (Nat.lt_of_lt_of_le (Heap.lt_size (I.pin p hp).1) (by rw [z];exact hb)) (Nat.lt_irrefl _)
structure Turn (P:Program) (w:World) (K:PySem.W.Frag) (tg:Expr) (J:It) (fp:List Addr) (it:Addr) (tn:Nat→Heap→Prop):Prop where
 mem:it∈fp
 obj:∀ i h,tn i h→∀ b∈fp,∃ o,h.get? b=some o∧∀ v,o.data≠.cell v
 keep:∀ i h h',tn i h→(∀ b∈fp,∀ o,h.get? b=some o→h'.get? b=some o)→tn i h'
 item:∀ (X:Cx),X.prog=P→X.w=w→X.K=K→X.calm=true→∀ (i:Nat) (pins:List (Addr×Obj)) (s:Shared) (σ:St) (H:Hp) (E:Value→Shared→Prop),Inv X pins σ H s→(∀ b∈fp,eF X pins H b)→tn i s.heap→J.go i H →
  wpAny (model P w) X.A (pyNext (.ref it)) (fun r s1=>∃ u,r=some u ∧
   wpAny (model P w) X.A (letOwnedTupleGo tg (.ref it) u) (fun _ s2=>∃ x H',Inv X pins σ H' s2∧RelV x u∧J.yld i H x H'∧tn (i+1) s2.heap∧∀ b∈fp,H' b=none) E s1) E s
 done:∀ (X:Cx),X.prog=P→X.w=w→X.K=K→X.calm=true→∀ (i:Nat) (pins:List (Addr×Obj)) (s:Shared) (σ:St) (H:Hp) (E:Value→Shared→Prop),Inv X pins σ H s→(∀ b∈fp,eF X pins H b)→tn i s.heap→J.stop i H →
  wpAny (model P w) X.A (pyNext (.ref it)) (fun r s1=>r=none∧Inv X pins σ H s1) E s
 self:∀ (A:Around) (i:Nat) (s:Shared) (Q:Value→Shared→Prop) (E:Value→Shared→Prop),tn i s.heap→Q (.ref it) s→wpAny (model P w) A (pyIter (.ref it)) Q E s
abbrev TI:=St→Hp→(It→Hp→Prop)→Prop
def PIE (X:Cx) (pins:List (Addr×Obj)) (σ:St) (tg:Expr) (R:It→Hp→Prop) (itv:Value) (s2:Shared):Prop:=
 ∃ (it:Addr) (fp:List Addr) (tn:Nat→Heap→Prop) (J:It) (H':Hp),itv=.ref it∧Inv X pins σ H' s2∧Turn X.prog X.w X.K tg J fp it tn∧tn 0 s2.heap∧(∀ b∈fp,eF X pins H' b)∧R J H'
def PI (X:Cx) (tg iter:Expr) (wi:TI):Prop:=
 ∀ (pins:List (Addr×Obj)) (s:Shared) (σ:St) (H:Hp) (R:It→Hp→Prop),Inv X pins σ H s→wi σ H R →
  wpAny (model X.prog X.w) X.A (eval iter X.env) (fun v s1=>wpAny (model X.prog X.w) X.A (pyIter v) (PIE X pins σ tg R) X.xe s1) X.xe s
theorem rm {M : Model} {A : Around} {E : Value → Shared → Prop} {s : Shared} {tg : Expr} {it : Addr} {u : Value} {o : Obj} {n : String} {vs : Array Value} {Q : Unit → Shared → Prop} (ho : s.heap.get? it = some o) (hc : o.cls = .type n) (hd : o.data = .fields vs)
    (hn : ["enumerate", "zip", "dict_itemiterator", "dict_reverseitemiterator", "odict_iterator", "itertools.zip_longest", "itertools.pairwise"].contains n = false) (hQ : Q () s) : wpAny M A (letOwnedTupleGo tg (.ref it) u) Q E s := by
  unfold letOwnedTupleGo
  cases tg <;> first
    | exact wpAny_pure hQ
    | (cases u <;> first
        | exact wpAny_pure hQ
        | (refine wpAny_bind (wpAny_load ho ?_)
           rw [hc, hd]
           show wpAny M A (if (["enumerate", "zip", "dict_itemiterator", "dict_reverseitemiterator", "odict_iterator", "itertools.zip_longest", "itertools.pairwise"].contains n && vs[0]? == some (rawInt _)) = true then _ else _) Q E s
           rw [if_neg (by intro h; rw [hn, Bool.false_and] at h; cases h)]
           exact wpAny_pure hQ))
def Itl (K:PySem.W.Frag) (a:Addr):It:=
 ⟨fun i H=>∃ xs x,SqL K H a xs∧xs[i]?=some x,fun i H x H'=>H'=H∧∀ xs,SqL K H a xs→xs[i]?=some x,fun i H=>∃ xs,SqL K H a xs∧xs.length≤i⟩
def Itt (K:PySem.W.Frag) (a:Addr):It:=
 ⟨fun i H=>∃ xs x,SqT K H a xs∧xs[i]?=some x,fun i H x H'=>H'=H∧∀ xs,SqT K H a xs→xs[i]?=some x,fun i H=>∃ xs,SqT K H a xs∧xs.length≤i⟩
def Itr (lo:Int) (n:Nat):It:=⟨fun i _=>i < n,fun i H x H'=>H'=H∧x=.int (lo+i),fun i _=>n≤i⟩
theorem s_ {P:Program} {w:World} {K:PySem.W.Frag} {tg:Expr} (a it:Addr):Turn P w K tg (Itl K a) [it] it (fun i h=>h.IsListIter it a i) where
 mem:=by simp
 obj:=fun i h st b hb=>by
  have e:b=it:=by simpa using hb
  subst e
  obtain ⟨o,e,c,d⟩:=st
  exact ⟨o,e,fun v z=>by rw [d] at z;cases z⟩
 keep:=fun i h h' st k=>st.at fun o e=>k it (by simp) o e
 item:=by
  intro X hP hw hK hc i pins s σ H E I hf st hg
  subst hP hw hK
  obtain ⟨xs,x,hq,hx⟩:=hg
  obtain ⟨its,rv,p,hz⟩:=I.list hq
  obtain ⟨u,hu,ru⟩:=rv.get hx
  obtain ⟨f0,f1,f2,f3,f4,f5⟩:=hf it (by simp)
  refine wpAny_pyNext_list_item st p.isList (x:=u) (by simpa using hu) fun h' st' sb=>?_
  have I1:Inv X pins σ H { s with heap:=h' }:=I.turned (t':=s.toks) (fun b o hb e=>(sb.2 b hb).trans e) f0 f1 f3 f4 f5
  obtain ⟨o,e,c,d⟩:=id st'
  exact ⟨u,rfl,rm (s:={ s with heap:=h' }) e c d (by decide) ⟨x,H,I1,ru,⟨rfl,fun ys hy=>by rw [I.nM hy hq];exact hx⟩,st',fun b hb=>(hf b hb).1⟩⟩
 done:=by
  intro X hP hw hK hc i pins s σ H E I hf st hg
  subst hP hw hK
  obtain ⟨xs,hq,hx⟩:=hg
  obtain ⟨its,rv,p,hz⟩:=I.list hq
  obtain ⟨f0,f1,f2,f3,f4,f5⟩:=hf it (by simp)
  have hl:=rv.length
  exact wpAny_pyNext_list_end (I.ok.hd hc) st p.isList (by simp;omega) fun h' eb=>⟨rfl,I.turned (t':=s.toks) (fun b o hb e=>eb b o hb e) f0 f1 f3 f4 f5⟩
 self:=fun _ _ _ _ _ st h=>wpAny_pyIter_listiter st h
theorem qz {P:Program} {w:World} {K:PySem.W.Frag} {tg:Expr} (a it:Addr):Turn P w K tg (Itt K a) [it] it (fun i h=>h.IsTupleIter it a i) where
 mem:=by simp
 obj:=fun i h st b hb=>by
  have e:b=it:=by simpa using hb
  subst e
  obtain ⟨o,e,c,d⟩:=st
  exact ⟨o,e,fun v z=>by rw [d] at z;cases z⟩
 keep:=fun i h h' st k=>st.at fun o e=>k it (by simp) o e
 item:=by
  intro X hP hw hK hc i pins s σ H E I hf st hg
  subst hP hw hK
  obtain ⟨xs,x,hq,hx⟩:=hg
  obtain ⟨its,rv,p,hz⟩:=I.tuple hq
  obtain ⟨u,hu,ru⟩:=rv.get hx
  obtain ⟨f0,f1,f2,f3,f4,f5⟩:=hf it (by simp)
  refine wpAny_pyNext_tuple_item st (show s.heap.IsTuple a its.toArray from p) (x:=u) (by simpa using hu) fun h' st' sb=>?_
  have I1:Inv X pins σ H { s with heap:=h' }:=I.turned (t':=s.toks) (fun b o hb e=>(sb.2 b hb).trans e) f0 f1 f3 f4 f5
  obtain ⟨o,e,c,d⟩:=id st'
  exact ⟨u,rfl,rm (s:={ s with heap:=h' }) e c d (by decide) ⟨x,H,I1,ru,⟨rfl,fun ys hy=>by rw [I.tI hy hq];exact hx⟩,st',fun b hb=>(hf b hb).1⟩⟩
 done:=by
  intro X hP hw hK hc i pins s σ H E I hf st hg
  subst hP hw hK
  obtain ⟨xs,hq,hx⟩:=hg
  obtain ⟨its,rv,p,hz⟩:=I.tuple hq
  obtain ⟨f0,f1,f2,f3,f4,f5⟩:=hf it (by simp)
  have hl:=rv.length
  exact wpAny_pyNext_tuple_end (I.ok.hd hc) st (show s.heap.IsTuple a its.toArray from p) (by simp;omega) fun h' eb=>⟨rfl,I.turned (t':=s.toks) (fun b o hb e=>eb b o hb e) f0 f1 f3 f4 f5⟩
 self:=fun _ _ _ _ _ st h=>wpAny_pyIter_tupleiter st h
theorem rQ {P:Program} {w:World} {K:PySem.W.Frag} {tg:Expr} (it:Addr) (lo:Int) (n:Nat):Turn P w K tg (Itr lo n) [it] it (fun i h=>IsRangeIter h it (lo+(i:Nat) * 1) ((n:Int) - (i:Nat)) 1) where
 mem:=by simp
 obj:=fun i h st b hb=>by
  have e:b=it:=by simpa using hb
  subst e
  exact ⟨_,st,fun v z=>by
   have z':Data.fields _=Data.cell v:=z
   cases z'⟩
 keep:=fun i h h' st k=>k it (by simp) _ st
 item:=by
  intro X hP hw hK hc i pins s σ H E I hf st hg
  subst hP hw hK
  obtain ⟨f0,f1,f2,f3,f4,f5⟩:=hf it (by simp)
  have W:=Walks.range (prog:=X.prog) (w:=X.w) (I.ok.hd hc) it lo 1 n
  refine W.item i s _ _ hg st fun v h' tk hv st' kk=>?_
  obtain ⟨t,rfl⟩:=hv
  have I1:Inv X pins σ H { s with heap:=h',toks:=tk }:=I.turned (fun b o hb e=>kk b o (by simpa using hb) e) f0 f1 f3 f4 f5
  refine ⟨_,rfl,rm (s:={ s with heap:=h',toks:=tk }) (n:="range_iterator") st' rfl rfl (by decide) ⟨.int (lo+i),H,I1,⟨t,?_⟩,⟨rfl,rfl⟩,st',fun b hb=>(hf b hb).1⟩⟩
  rw [Int.mul_one]
 done:=by
  intro X hP hw hK hc i pins s σ H E I hf st hg
  subst hP hw hK
  obtain ⟨f0,f1,f2,f3,f4,f5⟩:=hf it (by simp)
  exact wpAny_pyNext_range_end (I.ok.hd hc) st (by have:n≤i:=hg;omega) fun h' eb=>⟨rfl,I.turned (t':=s.toks) (fun b o hb e=>eb b o hb e) f0 f1 f3 f4 f5⟩
 self:=fun _ _ _ _ _ st h=>wpAny_pyIter_rangeiter st h
section
variable {X:Cx} {tg:Expr}
theorem nA {pins:List (Addr×Obj)} {σ:St} {H:Hp} {s:Shared} {R:It→Hp→Prop} {E:Value→Shared→Prop} {lo hi:Int} {t u v:Tok} {tk:Nat} (I:Inv X pins σ H s) (h1:-(2 ^ 62)≤lo) (h2:lo < 2 ^ 62) (h3:-(2 ^ 62)≤hi) (h4:hi < 2 ^ 62)
  (q:R (Itr lo (hi - lo).toNat) H):wpAny (model X.prog X.w) X.A (pyIter (.ref s.heap.objs.size)) (PIE X pins σ tg R) E { s with heap:=s.heap.push { cls:=.type "range",data:=.fields #[.int lo t,.int hi u,.int 1 v] },toks:=tk }:=by
 refine wpAny_pyIter_range (IsRange.new ..) (small_one h1 h2 h3 h4) ?_
 have I1:Inv X pins σ H { s with heap:=s.heap.push { cls:=.type "range",data:=.fields #[.int lo t,.int hi u,.int 1 v] },toks:=tk }:=I.kept fun b o e=>Heap.get?_push_of_some _ e
 refine ⟨(s.heap.push { cls:=.type "range",data:=.fields #[.int lo t,.int hi u,.int 1 v] }).objs.size,[(s.heap.push { cls:=.type "range",data:=.fields #[.int lo t,.int hi u,.int 1 v] }).objs.size],_,_,H,rfl,
  I1.kept (t':=tk) fun b o e=>Heap.get?_push_of_some _ e,rQ _ lo (hi - lo).toNat,?_,fun b hb=>?_,q⟩
 ·have e1:lo+((0:Nat):Int) * 1=lo:=by simp
  have e2:(((hi - lo).toNat:Nat):Int) - ((0:Nat):Int)=Builtin.Range.rangeSize lo hi 1:=by rw [rangeSize_one];split<;>omega
  show IsRangeIter _ _ (lo+((0:Nat):Int) * 1) ((((hi - lo).toNat:Nat):Int) - ((0:Nat):Int)) 1
  rw [e1,e2]
  exact Heap.get?_push_size _ rfl
 ·have e:b=(s.heap.push { cls:=.type "range",data:=.fields #[.int lo t,.int hi u,.int 1 v] }).objs.size:=by simpa using hb
  subst e
  exact I1.jS (Nat.le_refl _) (I1.hok.fresh (Nat.le_refl _))
def Co (ta:TA):TI:=fun σ H R=>ta σ H fun vs H1=>∃ j:Int,vs=[.int j]∧-(2 ^ 62)≤j∧j < 2 ^ 62∧R (Itr 0 j.toNat) H1
def Dq (ta:TA):TI:=fun σ H R=>ta σ H fun vs H1=>∃ i j:Int,vs=[.int i,.int j]∧(-(2 ^ 62)≤i∧i < 2 ^ 62∧-(2 ^ 62)≤j∧j < 2 ^ 62)∧R (Itr i (j - i).toNat) H1
theorem uj {a:Expr} {ta:TA} {p pos:Pos} (hg:Gl X "range") (hm:X.mg "range"=none) (ha:PA X [a] ta) (hs:starEach [a] X.env=[(false,eval a X.env)]:=by rfl):PI X tg (.Call (.Name "range" p) [a] [] pos) (Co ta):=by
 intro pins s σ H R I h
 refine Call_ (cf I hg hm boot_range (PyProof.Rows.callWith_type1 (thn (ha pos pins s σ H _ I h) fun us s1 ⟨vs,H1,I1,r1,q1⟩=>?_) hs rfl))
 obtain ⟨j,e,q1,q2,q⟩:=q1
 subst e
 cases r1 with
 | cons r rr=>
  cases rr
  obtain ⟨t,rfl⟩:=r
  exact call_range_1 (nA I1 (by omega) (by omega) q1 q2 (by simpa using q))
theorem rR {a b:Expr} {ta:TA} {p pos:Pos} (hg:Gl X "range") (hm:X.mg "range"=none) (ha:PA X [a,b] ta) (hs:starEach [a,b] X.env=[(false,eval a X.env),(false,eval b X.env)]:=by rfl) (hs2:starEach [b] X.env=[(false,eval b X.env)]:=by rfl) :
  PI X tg (.Call (.Name "range" p) [a,b] [] pos) (Dq ta):=by
 intro pins s σ H R I h
 refine Call_ (cf I hg hm boot_range (PyProof.Rows.callWith_type1 (thn (ha pos pins s σ H _ I h) fun us s1 ⟨vs,H1,I1,r1,q1⟩=>?_) (by rw [hs,hs2]) (by rw [hs2];rfl)))
 obtain ⟨i,j,e,⟨q1,q2,q3,q4⟩,q⟩:=q1
 subst e
 cases r1 with
 | cons r rr=>
  cases rr with
  | cons r' rr=>
   cases rr
   obtain ⟨t,rfl⟩:=r
   obtain ⟨t',rfl⟩:=r'
   exact call_range_2 (nA I1 q1 q2 q3 q4 q)
def DY (wi:TI) (g:TG) (tb:TS):TS:=fun D σ H=>wi σ H fun J H1=>∃ W:Nat→Nat→St→Hp→Prop,(∃ m,W 0 m σ H1)∧∀ i m σ H,W i m σ H →
 (J.stop i H∧D.nx σ H)∨(J.go i H∧∃ N:St→Hp→Prop,(∀ σ' H',N σ' H'→∃ m',m' < m∧W (i+1) m' σ' H')∧∀ x H',J.yld i H x H'→g x σ H' fun σ2 H2=>tb { D with nx:=N,ct:=N,bk:=D.nx } σ2 H2)
def ja (fp:List Addr) (h:Heap):List (Addr×Obj):=fp.filterMap fun b=>(h.get? b).map fun o=>(b,o)
theorem fu {fp:List Addr} {h:Heap} {b:Addr} {o:Obj} (hb:b∈fp) (e:h.get? b=some o):(b,o)∈ja fp h:=List.mem_filterMap.mpr ⟨b,hb,by rw [e];rfl⟩
theorem sf {fp:List Addr} {h:Heap} {p:Addr×Obj} (hp:p∈ja fp h):p.1∈fp∧h.get? p.1=some p.2:=by
 obtain ⟨b,hb,e⟩:=List.mem_filterMap.mp hp
 cases q:h.get? b with
 | none=>rw [q] at e;cases e
 | some o=>
  rw [q] at e
  have e':(b,o)=p:=Option.some.inj e
  subst e'
  exact ⟨hb,q⟩
theorem Inv.pinned {pins:List (Addr×Obj)} {σ:St} {H:Hp} {s:Shared} {fp:List Addr} (I:Inv X pins σ H s) (hf:∀ b∈fp,eF X pins H b) (ho:∀ b∈fp,∃ o,s.heap.get? b=some o∧∀ v,o.data≠.cell v):Inv X (pins++ja fp s.heap) σ H s:=
 I.lD fun p hp=>(List.mem_append.mp hp).elim (fun z=>I.pin p (List.mem_append_right _ z)) fun z=>by
  obtain ⟨hb,e⟩:=sf z
  obtain ⟨f0,f1,f2,_⟩:=hf p.1 hb
  obtain ⟨o,e',d⟩:=ho p.1 hb
  rw [e] at e';cases e'
  exact ⟨e,f0,f1,f2,d⟩
theorem Inv.fW {pins pl:List (Addr×Obj)} {σ:St} {H:Hp} {s:Shared} (I:Inv X (pins++pl) σ H s):Inv X pins σ H s:=I.lD fun p hp=>I.pin p (List.mem_append_right _ (List.mem_append_left _ hp))
theorem Bx {iter:Expr} {body:List Stmt} {wi:TI} {g:TG} {tb:TS} {pos:Pos} (hp:PassesOwn (model X.prog X.w) X.A X.env X.xe) (hc:X.calm=true) (hi:PI X tg iter wi) (hg:PG X tg g) (hb:PSs X body tb)
  (hs:∀ x,foldedSetIterable iter X.env x=pure x:=by intro _;rfl):PS X (.For tg iter body [] pos) (DY wi g tb):=by
 intro pins s σ H D I h
 refine wpAny_For (thn (hi pins s σ H _ I h) fun v s1 h1=>thn h1 fun itv s2 h2=>?_) hs
 obtain ⟨it,fp,tn,J,H2,e,I2,T,st2,f2,W,⟨m0,w0⟩,turn⟩:=h2
 subst e
 have stat:∀ {H':Hp},(∀ b∈fp,H' b=none)→∀ b∈fp,eF X pins H' b:=fun hn b hb=>⟨hn b hb,(f2 b hb).2⟩
 refine codeAny_forLoop_any (fun n s'=>∃ i σ' H',Inv X pins σ' H' s'∧tn i s'.heap∧(∀ b∈fp,H' b=none)∧W i n σ' H') ?_ m0 ⟨0,σ,H2,I2,st2,fun b hb=>(f2 b hb).1,w0⟩
 rintro n s3 ⟨i,σ3,H3,I3,st3,fr3,w3⟩
 rcases turn i n σ3 H3 w3 with ⟨stop,qn⟩ | ⟨go,N,hN,step⟩
 ·refine wpAny_passesOwn hp (thn (T.done X rfl rfl rfl hc i pins s3 σ3 H3 X.xe I3 (stat fr3) st3 stop) fun r s4 ⟨hr,I4⟩=>?_)
  subst hr
  exact wpAny_execs_nil ⟨σ3,H3,I4,qn⟩
 ·refine wpAny_passesOwn hp (thn (T.item X rfl rfl rfl hc i pins s3 σ3 H3 X.xe I3 (stat fr3) st3 go) fun r s4 ⟨u,hr,h4⟩=>?_)
  subst hr
  refine wpAny_passesOwn hp (thn h4 fun _ s5 ⟨x,H5,I5,r5,y5,st5,fr5⟩=>?_)
  have I5':=I5.pinned (stat fr5) (T.obj _ _ st5)
  refine wpAny_passesOwn hp (thn (hg _ s5 σ3 H5 x u _ I5' r5 (step x H5 y5)) fun _ s6 ⟨σ6,H6,I6,q6⟩=>?_)
  refine wpAny_passesOwn hp (thn (hb _ s6 σ6 H6 _ I6 q6) fun f s7 q7=>?_)
  have again:∀ {σ7:St} {H7:Hp},Inv X (pins++ja fp s5.heap) σ7 H7 s7→N σ7 H7→∃ m,m < n∧∃ i σ' H',Inv X pins σ' H' s7∧tn i s7.heap∧(∀ b∈fp,H' b=none)∧W i m σ' H':=fun {σ7 H7} I7 n7=>by
   obtain ⟨m',hm,w7⟩:=hN σ7 H7 n7
   refine ⟨m',hm,i+1,σ7,H7,I7.fW,T.keep _ _ _ st5 fun b hb o e=>(I7.pin (b,o) (List.mem_append_right _ (List.mem_append_right _ (fu hb e)))).1,fun b hb=>?_,w7⟩
   obtain ⟨o,e,d⟩:=T.obj _ _ st5 b hb
   exact (I7.pin (b,o) (List.mem_append_right _ (List.mem_append_right _ (fu hb e)))).2.1
  cases f with
  | next=>obtain ⟨σ7,H7,I7,n7⟩:=q7;exact again I7 n7
  | cont=>obtain ⟨σ7,H7,I7,n7⟩:=q7;exact again I7 n7
  | brk=>obtain ⟨σ7,H7,I7,q7⟩:=q7;exact ⟨σ7,H7,I7.fW,q7⟩
  | ret v=>obtain ⟨x7,σ7,H7,I7,r7,q7⟩:=q7;exact ⟨x7,σ7,H7,I7.fW,r7,q7⟩
end
abbrev R2:=V→V→Hp→VK→Prop
def OpR (X:Cx) (f:Value→Value→Sem Value) (r:R2):Prop:=
 ∀ (pins:List (Addr×Obj)) (s:Shared) (σ:St) (H:Hp) (x y:V) (v u:Value) (Q:VK),Inv X pins σ H s→RelV x v→RelV y u→r x y H Q →
  wpAny (model X.prog X.w) X.A (f v u) (EP X pins σ Q) X.xe s
def UnR (X:Cx) (f:Value→Sem Value) (r:V→Hp→VK→Prop):Prop:=
 ∀ (pins:List (Addr×Obj)) (s:Shared) (σ:St) (H:Hp) (x:V) (v:Value) (Q:VK),Inv X pins σ H s→RelV x v→r x H Q →
  wpAny (model X.prog X.w) X.A (f v) (EP X pins σ Q) X.xe s
def bI (X:Cx) (f:Value) (r:List V→Hp→VK→Prop):Prop:=
 ∀ (pins:List (Addr×Obj)) (s:Shared) (σ:St) (H:Hp) (xs:List V) (us:List Value) (Q:VK),Inv X pins σ H s→Vals xs us→r xs H Q →
  wpAny (model X.prog X.w) X.A (call f us) (EP X pins σ Q) X.xe s
def Ed (X:Cx) (r:V→Hp→(Bool→Hp→Prop)→Prop):Prop:=
 ∀ (pins:List (Addr×Obj)) (s:Shared) (σ:St) (H:Hp) (x:V) (v:Value) (Q:Bool→Hp→Prop),Inv X pins σ H s→RelV x v→r x H Q →
  wpAny (model X.prog X.w) X.A (truthy v) (TP X pins σ Q) X.xe s
def tOp (r:R2) (ta tb:TE):TE:=fun σ H Q=>ta σ H fun x H1=>tb σ H1 fun y H2=>r x y H2 Q
def tUn (r:V→Hp→VK→Prop) (ta:TE):TE:=fun σ H Q=>ta σ H fun x H1=>r x H1 Q
def rI (C:Int→Int→Prop) (g:Int→Int→V):R2:=fun x y H Q=>∃ i j,x=.int i∧y=.int j∧C i j∧Q (g i j) H
def rI0 (g:Int→Int→V):R2:=fun x y H Q=>∃ i j,x=.int i∧y=.int j∧Q (g i j) H
def rU (g:Int→V):V→Hp→VK→Prop:=fun x H Q=>∃ i,x=.int i∧Q (g i) H
section
variable {X:Cx} {a b c:Expr} {ta tb tc:TE} {pos:Pos}
theorem vi (ha:PE X a ta) (hb:PE X b tb) {pins:List (Addr×Obj)} {s:Shared} {σ:St} {H:Hp} {R:V→V→Hp→Prop} (I:Inv X pins σ H s)
  (h:ta σ H fun x H1=>tb σ H1 fun y H2=>R x y H2) {Q:Value→Shared→Prop} {f:Value→Value→Sem Value}
  (hf:∀ v u s2 x y H2,Inv X pins σ H2 s2→RelV x v→RelV y u→R x y H2→wpAny (model X.prog X.w) X.A (f v u) Q X.xe s2) :
  wpAny (model X.prog X.w) X.A (eval a X.env) (fun v s₁=>wpAny (model X.prog X.w) X.A (eval b X.env) (fun u s₂=>wpAny (model X.prog X.w) X.A (f v u) Q X.xe s₂) X.xe s₁) X.xe s:=by
 refine thn (ha pins s σ H _ I h) fun v s1 ⟨x,H1,I1,r1,q1⟩=>?_
 refine thn (hb pins s1 σ H1 _ I1 q1) fun u s2 ⟨y,H2,I2,r2,q2⟩=>?_
 exact hf v u s2 x y H2 I2 r1 r2 q2
theorem C2 {op:Operator} {r:R2} (ho:OpR X (binaryOp op) r) (ha:PE X a ta) (hb:PE X b tb):PE X (.BinOp a op b pos) (tOp r ta tb):=by
 intro pins s σ H Q I h
 exact wpAny_BinOp (vi ha hb I h fun v u s2 x y H2 I2 rx ry q=>ho pins s2 σ H2 x y v u Q I2 rx ry q)
theorem B6 {op:UnaryOp} {r:V→Hp→VK→Prop} (ho:UnR X (unaryOp op) r) (ha:PE X a ta):PE X (.UnaryOp op a pos) (tUn r ta):=by
 intro pins s σ H Q I h
 exact UnaryOp_ (thn (ha pins s σ H _ I h) fun v s1 ⟨x,H1,I1,r1,q1⟩=>ho pins s1 σ H1 x v Q I1 r1 q1)
theorem opI {f:Value→Value→Sem Value} {C:Int→Int→Prop} {g:Int→Int→Int}
  (rule:∀ (i j:Int) (t u:Tok) (s:Shared) (Q:Value→Shared→Prop) (E:Value→Shared→Prop),C i j→Q (.int (g i j) s.toks) { s with toks:=s.toks+1 }→wpAny (model X.prog X.w) X.A (f (.int i t) (.int j u)) Q E s) :
  OpR X f (rI C fun i j=>.int (g i j)):=by
 intro pins s σ H x y v u Q I rx ry h
 obtain ⟨i,j,rfl,rfl,hc,q⟩:=h
 obtain ⟨t,rfl⟩:=rx
 obtain ⟨t',rfl⟩:=ry
 exact rule i j t t' s _ _ hc ⟨.int (g i j),H,I.tok _,⟨_,rfl⟩,q⟩
theorem A0 {f:Value→Value→Sem Value} {g:Int→Int→Int}
  (rule:∀ (i j:Int) (t u:Tok) (s:Shared) (Q:Value→Shared→Prop) (E:Value→Shared→Prop),Q (.int (g i j) s.toks) { s with toks:=s.toks+1 }→wpAny (model X.prog X.w) X.A (f (.int i t) (.int j u)) Q E s) :
  OpR X f (rI0 fun i j=>.int (g i j)):=by
 intro pins s σ H x y v u Q I rx ry h
 obtain ⟨i,j,rfl,rfl,q⟩:=h
 obtain ⟨t,rfl⟩:=rx
 obtain ⟨t',rfl⟩:=ry
 exact rule i j t t' s _ _ ⟨.int (g i j),H,I.tok _,⟨_,rfl⟩,q⟩
theorem rg {f:Value→Value→Sem Value} {g:Int→Int→Bool}
  (rule:∀ (i j:Int) (t u:Tok) (s:Shared) (Q:Value→Shared→Prop) (E:Value→Shared→Prop),Q (.bool (g i j)) s→wpAny (model X.prog X.w) X.A (f (.int i t) (.int j u)) Q E s) :
  OpR X f (rI0 fun i j=>.bl (g i j)):=by
 intro pins s σ H x y v u Q I rx ry h
 obtain ⟨i,j,rfl,rfl,q⟩:=h
 obtain ⟨t,rfl⟩:=rx
 obtain ⟨t',rfl⟩:=ry
 exact rule i j t t' s _ _ ⟨.bl (g i j),H,I,rfl,q⟩
def lG (i j:Int):Prop:=0 < j∧j < 1073741824
def lF (i j:Int):Prop:=0≤j∧j≤1000000∧i.natAbs < 2 ^ 64
def gR (i j:Int):Prop:=(-(2 ^ 64) < i∧i < 2 ^ 64)∨(-(2 ^ 64) < j∧j < 2 ^ 64)
theorem gR.ok {i j:Int} (h:gR i j):IntMulOk i j:=by
 rcases h with ⟨h1,h2⟩ | ⟨h1,h2⟩
 ·exact .of_left (intBits_le_64 h1 h2)
 ·exact .of_right (intBits_le_64 h1 h2)
theorem zl:OpR X (binaryOp .Add) (rI0 fun i j=>.int (i+j)):=A0 fun _ _ _ _ _ _ _ q=>add_int q
theorem eh:OpR X (binaryOp .Sub) (rI0 fun i j=>.int (i - j)):=A0 fun _ _ _ _ _ _ _ q=>sub_int q
theorem eA:OpR X (binaryOp .Mult) (rI gR fun i j=>.int (i * j)):=opI fun _ _ _ _ _ _ _ hc q=>mul_int q hc.ok
theorem yz:OpR X (binaryOp .FloorDiv) (rI lG fun i j=>.int (i / j)):=opI fun i j _ _ _ _ _ hc q=>by
 have h1:(0:Int) < j:=hc.1
 have h2:j < 1073741824:=hc.2
 exact floordiv_int (by omega) (by rw [Int.fdiv_eq_ediv_of_nonneg i (by omega)];exact q) (.inl (PyProof.noPylong_small (by omega)))
theorem dw:OpR X (binaryOp .Mod) (rI (fun _ j=>0 < j) fun i j=>.int (i % j)):=opI fun i j _ _ _ _ _ hc q=>by
 have h1:(0:Int) < j:=hc
 exact mod_int' (by omega) (by rw [Int.fmod_eq_emod_of_nonneg i (by omega)];exact q)
theorem sJ:OpR X (binaryOp .Pow) (rI lF fun i j=>.int (i ^ j.toNat)):=opI fun _ _ _ _ _ _ _ hc q=>pow_int_small hc.1 hc.2.1 hc.2.2 q
theorem unI {f:Value→Sem Value} {g:Int→Int}
  (rule:∀ (i:Int) (t:Tok) (s:Shared) (Q:Value→Shared→Prop) (E:Value→Shared→Prop),Q (.int (g i) s.toks) { s with toks:=s.toks+1 }→wpAny (model X.prog X.w) X.A (f (.int i t)) Q E s) :
  UnR X f (rU fun i=>.int (g i)):=by
 intro pins s σ H x v Q I rx h
 obtain ⟨i,rfl,q⟩:=h
 obtain ⟨t,rfl⟩:=rx
 exact rule i t s _ _ ⟨.int (g i),H,I.tok _,⟨_,rfl⟩,q⟩
theorem t_:UnR X (unaryOp .USub) (rU fun i=>.int (-i)):=unI fun _ _ _ _ _ q=>neg_int q
end
def vD:V→V→Bool
 | .non,.non=>true | .non,.int _=>true | .int _,.non=>true | .non,.bl _=>true | .bl _,.non=>true | .non,.str _=>true | .str _,.non=>true
 | .int _,.int _=>true | .bl _,.bl _=>true | .str _,.str _=>true | .byt _,.byt _=>true
 | .int _,.str _=>true | .str _,.int _=>true | .bl _,.str _=>true | .str _,.bl _=>true
 | _,_=>false
def rEq:R2:=fun x y H Q=>vD x y=true∧Q (.bl (decide (x=y))) H
def rNe:R2:=fun x y H Q=>vD x y=true∧Q (.bl (!decide (x=y))) H
theorem pk {i j:Int}:decide (V.int i=V.int j)=(i == j):=by
 rw [Bool.eq_iff_iff]
 simp
theorem tN {i j:Bool}:decide (V.bl i=V.bl j)=(i == j):=by
 rw [Bool.eq_iff_iff]
 simp
theorem pL {i j:Str}:decide (V.str i=V.str j)=(i == j):=by
 rw [Bool.eq_iff_iff]
 simp
theorem pD {i j:Array UInt8}:decide (V.byt i=V.byt j)=(i.toList == j.toList):=by
 rw [Bool.eq_iff_iff]
 cases i
 cases j
 simp
section
variable {X:Cx} {a b c:Expr} {ta tb tc:TE} {pos:Pos}
theorem aV {pins:List (Addr×Obj)} {σ:St} {H:Hp} {s:Shared} {Q:VK} {k k':Bool} (I:Inv X pins σ H s) (q:Q (.bl k) H) (e:k=k'):EP X pins σ Q (.bool k') s:=by
 subst e
 exact ⟨.bl k,H,I,rfl,q⟩
theorem DN:OpR X (compareOp .Eq) rEq:=by
 intro pins s σ H x y v u Q I rx ry h
 obtain ⟨hs,q⟩:=h
 cases x with
 | non=>
  cases rx
  cases y with
  | non=>cases ry;exact PySem.EqNone.eq_none_none (aV I q (by simp))
  | bl j=>cases ry;exact PySem.EqNone.eq_none_bool (aV I q (by simp))
  | int j=>obtain ⟨t',rfl⟩:=ry;exact PySem.EqNone.eq_none_int (aV I q (by simp))
  | str j=>obtain ⟨t',rfl⟩:=ry;exact PySem.EqNone.eq_none_str (aV I q (by simp))
  | _=>exact absurd (show false=true from hs) Bool.false_ne_true
 | bl i=>
  cases rx
  cases y with
  | non=>cases ry;exact PySem.EqNone.eq_bool_none (aV I q (by simp))
  | bl j=>cases ry;exact eq_bool (aV I q tN)
  | str j=>obtain ⟨t',rfl⟩:=ry;exact PySem.EqMixed.eq_bool_str (aV I q (by simp))
  | _=>exact absurd (show false=true from hs) Bool.false_ne_true
 | int i=>
  obtain ⟨t,rfl⟩:=rx
  cases y with
  | non=>cases ry;exact PySem.EqNone.eq_int_none (aV I q (by simp))
  | int j=>obtain ⟨t',rfl⟩:=ry;exact eq_int (aV I q pk)
  | str j=>obtain ⟨t',rfl⟩:=ry;exact PySem.EqMixed.eq_int_str (aV I q (by simp))
  | _=>exact absurd (show false=true from hs) Bool.false_ne_true
 | str i=>
  obtain ⟨t,rfl⟩:=rx
  cases y with
  | non=>cases ry;exact PySem.EqNone.eq_str_none (aV I q (by simp))
  | bl j=>cases ry;exact PySem.EqMixed.eq_str_bool (aV I q (by simp))
  | int j=>obtain ⟨t',rfl⟩:=ry;exact PySem.EqMixed.eq_str_int (aV I q (by simp))
  | str j=>obtain ⟨t',rfl⟩:=ry;exact eq_str (aV I q pL)
  | _=>exact absurd (show false=true from hs) Bool.false_ne_true
 | byt i=>
  obtain ⟨t,rfl⟩:=rx
  cases y with
  | byt j=>obtain ⟨t',rfl⟩:=ry;exact PySem.W.eq_bytes (aV I q pD)
  | _=>exact absurd (show false=true from hs) Bool.false_ne_true
 | _=>cases y<;>exact absurd (show false=true from hs) Bool.false_ne_true
theorem Dx:OpR X (compareOp .NotEq) rNe:=by
 intro pins s σ H x y v u Q I rx ry h
 obtain ⟨hs,q⟩:=h
 cases x with
 | non=>
  cases rx
  cases y with
  | non=>cases ry;exact PySem.EqNone.ne_none_none (aV I q (by simp))
  | bl j=>cases ry;exact PySem.EqNone.ne_none_bool (aV I q (by simp))
  | int j=>obtain ⟨t',rfl⟩:=ry;exact PySem.EqNone.ne_none_int (aV I q (by simp))
  | str j=>obtain ⟨t',rfl⟩:=ry;exact PySem.EqNone.ne_none_str (aV I q (by simp))
  | _=>exact absurd (show false=true from hs) Bool.false_ne_true
 | bl i=>
  cases rx
  cases y with
  | non=>cases ry;exact PySem.EqNone.ne_bool_none (aV I q (by simp))
  | bl j=>cases ry;exact ne_bool (aV I q (congrArg not tN))
  | str j=>obtain ⟨t',rfl⟩:=ry;exact PySem.EqMixed.ne_bool_str (aV I q (by simp))
  | _=>exact absurd (show false=true from hs) Bool.false_ne_true
 | int i=>
  obtain ⟨t,rfl⟩:=rx
  cases y with
  | non=>cases ry;exact PySem.EqNone.ne_int_none (aV I q (by simp))
  | int j=>obtain ⟨t',rfl⟩:=ry;exact ne_int (aV I q (congrArg not pk))
  | str j=>obtain ⟨t',rfl⟩:=ry;exact PySem.EqMixed.ne_int_str (aV I q (by simp))
  | _=>exact absurd (show false=true from hs) Bool.false_ne_true
 | str i=>
  obtain ⟨t,rfl⟩:=rx
  cases y with
  | non=>cases ry;exact PySem.EqNone.ne_str_none (aV I q (by simp))
  | bl j=>cases ry;exact PySem.EqMixed.ne_str_bool (aV I q (by simp))
  | int j=>obtain ⟨t',rfl⟩:=ry;exact PySem.EqMixed.ne_str_int (aV I q (by simp))
  | str j=>obtain ⟨t',rfl⟩:=ry;exact ne_str (aV I q (congrArg not pL))
  | _=>exact absurd (show false=true from hs) Bool.false_ne_true
 | byt i=>
  obtain ⟨t,rfl⟩:=rx
  cases y with
  | byt j=>obtain ⟨t',rfl⟩:=ry;exact PySem.W.ne_bytes (aV I q (congrArg not pD))
  | _=>exact absurd (show false=true from hs) Bool.false_ne_true
 | _=>cases y<;>exact absurd (show false=true from hs) Bool.false_ne_true
theorem gT:OpR X (compareOp .Lt) (rI0 fun i j=>.bl (decide (i < j))):=rg fun _ _ _ _ _ _ _ q=>lt_int q
theorem gj:OpR X (compareOp .LtE) (rI0 fun i j=>.bl (decide (i≤j))):=rg fun _ _ _ _ _ _ _ q=>le_int q
theorem q0:OpR X (compareOp .Gt) (rI0 fun i j=>.bl (decide (j < i))):=rg fun _ _ _ _ _ _ _ q=>gt_int q
theorem wy:OpR X (compareOp .GtE) (rI0 fun i j=>.bl (decide (j≤i))):=rg fun _ _ _ _ _ _ _ q=>ge_int q
theorem An:OpR X (compareOp .Is) (fun x y H Q=>y=.non∧Q (.bl (decide (x=.non))) H):=by
  intro pins s σ H x y v u Q I rx ry h
  obtain ⟨rfl,q⟩:=h
  cases ry
  refine is_none_gen (aV I q ?_)
  cases x<;>first
    | (cases rx;rfl)
    | (obtain ⟨t,rfl⟩:=rx;rfl)
theorem OpR.or {f:Value→Value→Sem Value} {r r':R2} (h:OpR X f r) (h':OpR X f r'):OpR X f (fun x y H Q=>r x y H Q∨r' x y H Q):=by
 intro pins s σ H x y v u Q I rx ry q
 rcases q with q | q
 ·exact h pins s σ H x y v u Q I rx ry q
 ·exact h' pins s σ H x y v u Q I rx ry q
theorem sQ (b:Expr) {op:CmpOp} (h:op≠.In:=by decide) (h2:op≠.NotIn:=by decide):behindInMarks op b=false:=by
  have e1:(op == CmpOp.In)=false:=by cases op<;>first | rfl | exact absurd rfl h
  have e2:(op == CmpOp.NotIn)=false:=by cases op<;>first | rfl | exact absurd rfl h2
  cases b<;>simp [behindInMarks,e1,e2]
theorem xR {op:CmpOp} {r:R2} (ho:OpR X (compareOp op) r) (ha:PE X a ta) (hb:PE X b tb) (hm:behindInMarks op b=false):PE X (.Compare a [op] [b] pos) (tOp r ta tb):=by
 intro pins s σ H Q I h
 exact wpAny_Compare1 (vi ha hb I h fun v u s2 x y H2 I2 rx ry q=>ho pins s2 σ H2 x y v u Q I2 rx ry q) hm
def wm (t:TE):TT:=fun σ H Q=>t σ H fun x H'=>∃ k,x=.bl k∧Q k H'
theorem yq {op:CmpOp} {r:R2} (ho:OpR X (compareOp op) r) (ha:PE X a ta) (hb:PE X b tb) (hm:behindInMarks op b=false):PT X (.Compare a [op] [b] pos) (wm (tOp r ta tb)):=by
 intro pins s σ H Q I h
 refine wpAny_isTrue_Compare1 (thn (ha pins s σ H _ I h) fun v s1 ⟨x,H1,I1,r1,q1⟩=>thn (hb pins s1 σ H1 _ I1 q1) fun u s2 ⟨y,H2,I2,r2,q2⟩=>
  thn (ho pins s2 σ H2 x y v u _ I2 r1 r2 q2) fun c s3 ⟨z,H3,I3,r3,k,e,q3⟩=>?_) hm
 subst e
 cases r3
 exact wpAny_truthy_bool ⟨H3,I3,q3⟩
def oG (r r':R2) (ta tb tc:TE):TE:=fun σ H Q=>ta σ H fun x H1=>tb σ H1 fun y H2=>r x y H2 fun z H3=>∃ k,z=.bl k ∧
 (if k=true then tc σ H3 fun w' H4=>r' y w' H4 Q else Q (.bl false) H3)
theorem vA {op op':CmpOp} {r r':R2} (ho:OpR X (compareOp op) r) (ho':OpR X (compareOp op') r') (ha:PE X a ta) (hb:PE X b tb) (hc:PE X c tc)
  (hm:lastMarks [op,op'] [b,c]=false:=by with_unfolding_all rfl):PE X (.Compare a [op,op'] [b,c] pos) (oG r r' ta tb tc):=by
 intro pins s σ H Q I h
 refine Compare_chain (thn (ha pins s σ H _ I h) fun v s1 ⟨x,H1,I1,r1,q1⟩=>chain_link (thn (hb pins s1 σ H1 _ I1 q1) fun u s2 ⟨y,H2,I2,r2,q2⟩=>
  thn (ho pins s2 σ H2 x y v u _ I2 r1 r2 q2) fun d s3 ⟨z,H3,I3,r3,k,e,q3⟩=>?_)) hm
 subst e
 cases r3
 refine wpAny_truthy_bool ?_
 cases k with
 | false=>exact ite_ff ⟨.bl false,H3,I3,rfl,q3⟩
 | true=>exact ite_tt (chain_last (thn (hc pins s3 σ H3 _ I3 q3) fun w' s4 ⟨z',H4,I4,r4,q4⟩=>ho' pins s4 σ H4 y z' u w' Q I4 r2 r4 q4))
theorem vQ {op op':CmpOp} {r r':R2} (ho:OpR X (compareOp op) r) (ho':OpR X (compareOp op') r') (ha:PE X a ta) (hb:PE X b tb) (hc:PE X c tc)
  (hm:lastMarks [op,op'] [b,c]=false:=by with_unfolding_all rfl):PT X (.Compare a [op,op'] [b,c] pos) (wm (oG r r' ta tb tc)):=by
 intro pins s σ H Q I h
 refine isTrue_chain (thn (ha pins s σ H _ I h) fun v s1 ⟨x,H1,I1,r1,q1⟩=>test_link (thn (hb pins s1 σ H1 _ I1 q1) fun u s2 ⟨y,H2,I2,r2,q2⟩=>
  thn (ho pins s2 σ H2 x y v u _ I2 r1 r2 q2) fun d s3 ⟨z,H3,I3,r3,k,e,q3⟩=>?_)) hm
 subst e
 cases r3
 refine wpAny_truthy_bool ?_
 cases k with
 | false=>
  obtain ⟨k',e',q'⟩:=q3
  cases e'
  exact ite_ff ⟨H3,I3,q'⟩
 | true=>
  refine ite_tt (test_last (thn (hc pins s3 σ H3 _ I3 q3) fun w' s4 ⟨z',H4,I4,r4,q4⟩=>thn (ho' pins s4 σ H4 y z' u w' _ I4 r2 r4 q4) fun d' s5 ⟨z2,H5,I5,r5,k2,e2,q5⟩=>?_))
  subst e2
  cases r5
  exact wpAny_truthy_bool ⟨H5,I5,q5⟩
def vT (K:PySem.W.Frag) (x:V) (H:Hp) (k:Bool):Prop:=
 match x with
 | .non=>k=false
 | .bl b=>k=b
 | .int i=>k=(i != 0)
 | .str y=>y.length≤sizeLine∧k=((y.length:Int) != 0)
 | .byt y=>y.size≤sizeLine∧k=((y.size:Int) != 0)
 | .ref p=>(∃ xs,SqL K H p xs∧k=!xs.isEmpty)∨(∃ xs,SqT K H p xs∧k=!xs.isEmpty)∨∃ kvs,H p=some (.dK kvs)∧k=!kvs.isEmpty
 | _=>False
theorem qR {κ:Type} {kvs:List (κ×V)} {vs:List (κ×Value)} (r:KV kvs vs):(!vs.isEmpty)=!kvs.isEmpty:=by
 cases r<;>rfl
theorem kG {xs:List V} {its:List Value} (r:Vals xs its):(!its.toArray.isEmpty)=!xs.isEmpty:=by
 cases r<;>simp
theorem iX:(sizeLine:Nat) < 2 ^ 63:=by rw [sizeLine_eq];decide
theorem zk:Ed X (fun x H Q=>∃ k,vT X.K x H k∧Q k H):=by
 intro pins s σ H x v Q I rx h
 obtain ⟨k,e,q⟩:=h
 have hl:=iX
 have hs:sizeLine=16777216:=sizeLine_eq
 cases x with
 | non=>
  cases rx
  have e':k=false:=e
  subst e'
  exact truthy_none ⟨H,I,q⟩
 | bl b=>
  cases rx
  have e':k=b:=e
  subst e'
  exact wpAny_truthy_bool ⟨H,I,q⟩
 | int i=>
  obtain ⟨t,rfl⟩:=rx
  have e':k=(i != 0):=e
  subst e'
  exact PySem.P.truthy_int ⟨H,I,q⟩
 | str y=>
  obtain ⟨t,rfl⟩:=rx
  obtain ⟨hy,e'⟩:y.length≤sizeLine∧k=((y.length:Int) != 0):=e
  subst e'
  exact PySem.P.truthy_str (by omega) ⟨H,I.tok _,q⟩
 | byt y=>
  obtain ⟨t,rfl⟩:=rx
  obtain ⟨hy,e'⟩:y.size≤sizeLine∧k=((y.size:Int) != 0):=e
  subst e'
  exact PySem.W.truthy_bytes (by omega) ⟨H,I.tok _,q⟩
 | ref p=>
  cases rx
  have e':(∃ xs,SqL X.K H p xs∧k=!xs.isEmpty)∨(∃ xs,SqT X.K H p xs∧k=!xs.isEmpty)∨∃ kvs,H p=some (.dK kvs)∧k=!kvs.isEmpty:=e
  rcases e' with ⟨xs,hx,e'⟩ | ⟨xs,hx,e'⟩ | ⟨kvs,hx,e'⟩
  ·subst e'
   obtain ⟨its,r,pl,hz⟩:=I.list hx
   have hlen:=r.length
   exact wpAny_truthy_list pl.isList (by simp only [List.size_toArray];omega) ⟨H,I.tok _,by rw [kG r];exact q⟩
  ·subst e'
   obtain ⟨its,r,pl,hz⟩:=I.tuple hx
   have hlen:=r.length
   exact truthy_tuple pl (by simp only [List.size_toArray];omega) ⟨H,I.tok _,by rw [kG r];exact q⟩
  ·subst e'
   obtain ⟨hz,hS,vs,r,m⟩:kvs.length≤sizeLine∧(p == sysModules)=false∧∃ vs,KV kvs vs∧s.heap.DictOf (ba X.prog X.w) p vs:=I.hok p _ hx
   have hlen:kvs.length=vs.length:=Paired.length r
   exact wpAny_truthy_dict hS m (by omega) ⟨H,I.tok _,by rw [qR r];exact q⟩
 | _=>exact (show False from e).elim
theorem vz (ha:PE X a ta) (he:∀ whole,isTrue a X.env whole=(do let v ← whole;standAt a.pos;holding [v] (truthy v))) :
  PT X a (fun σ H Q=>ta σ H fun x H'=>∃ k,vT X.K x H' k∧Q k H'):=by
 intro pins s σ H Q I h
 exact isTrue_plain (thn (ha pins s σ H _ I h) fun v s1 ⟨x,H1,I1,r1,q1⟩=>zk pins s1 σ H1 x v Q I1 r1 q1) (he _)
theorem qe:OpR X (binaryOp .Add) (fun x y H Q=>∃ i j,x=.str i∧y=.str j∧i.length+j.length≤sizeLine∧Q (.str (i++j)) H):=by
 intro pins s σ H x y v u Q I rx ry h
 obtain ⟨i,j,rfl,rfl,hz,q⟩:=h
 obtain ⟨t,rfl⟩:=rx
 obtain ⟨t',rfl⟩:=ry
 exact add_str (fun t' tk=>⟨.str (i++j),H,I.tok _,⟨_,rfl⟩,q⟩) hz
theorem vals1 {x:V} {us:List Value} (r:Vals [x] us):∃ u,us=[u]∧RelV x u:=by
 cases r with
 | cons r1 r2=>cases r2;exact ⟨_,rfl,r1⟩
theorem vals2 {x y:V} {us:List Value} (r:Vals [x,y] us):∃ u w',us=[u,w']∧RelV x u∧RelV y w':=by
 cases r with
 | cons r1 r2=>
  cases r2 with
  | cons r3 r4=>cases r4;exact ⟨_,_,rfl,r1,r3⟩
theorem tP (hc:X.calm=true):bI X (.builtin "max") (fun xs H Q=>∃ i j,xs=[.int i,.int j]∧Q (.int (if j > i then j else i)) H):=by
 intro pins s σ H xs us Q I r h
 obtain ⟨i,j,rfl,q⟩:=h
 obtain ⟨u,w',rfl,⟨t,rfl⟩,⟨t',rfl⟩⟩:=vals2 r
 refine max_two_ints (I.ok.hd hc) fun h' tk k=>⟨_,H,I.kept k,?_,q⟩
 by_cases hj:j > i
 ·rw [if_pos hj,if_pos hj];exact ⟨_,rfl⟩
 ·rw [if_neg hj,if_neg hj];exact ⟨_,rfl⟩
theorem tm (hc:X.calm=true):bI X (.builtin "min") (fun xs H Q=>∃ i j,xs=[.int i,.int j]∧Q (.int (if j < i then j else i)) H):=by
 intro pins s σ H xs us Q I r h
 obtain ⟨i,j,rfl,q⟩:=h
 obtain ⟨u,w',rfl,⟨t,rfl⟩,⟨t',rfl⟩⟩:=vals2 r
 refine min_two_ints (I.ok.hd hc) fun h' tk k=>⟨_,H,I.kept k,?_,q⟩
 by_cases hj:j < i
 ·rw [if_pos hj,if_pos hj];exact ⟨_,rfl⟩
 ·rw [if_neg hj,if_neg hj];exact ⟨_,rfl⟩
def DU (K:PySem.W.Frag) (x:V) (H:Hp) (n:Nat):Prop:=
 match x with
 | .str y=>y.length≤sizeLine∧n=y.length
 | .byt y=>y.size≤sizeLine∧n=y.size
 | .ref p=>(∃ xs,SqL K H p xs∧n=xs.length)∨∃ xs,SqT K H p xs∧n=xs.length
 | _=>False
theorem ow:bI X (.builtin "len") (fun xs H Q=>∃ x n,xs=[x]∧DU X.K x H n∧Q (.int n) H):=by
 intro pins s σ H xs us Q I r h
 obtain ⟨x,n,rfl,e,q⟩:=h
 obtain ⟨u,rfl,rx⟩:=vals1 r
 have hl:=iX
 have hs:sizeLine=16777216:=sizeLine_eq
 cases x with
 | str y=>
  obtain ⟨t,rfl⟩:=rx
  obtain ⟨hy,e'⟩:y.length≤sizeLine∧n=y.length:=e
  subst e'
  exact len_str (by omega) ⟨.int _,H,I.tok _,⟨_,rfl⟩,q⟩
 | byt y=>
  obtain ⟨t,rfl⟩:=rx
  obtain ⟨hy,e'⟩:y.size≤sizeLine∧n=y.size:=e
  subst e'
  exact PySem.W.len_bytes (by omega) ⟨.int _,H,I.tok _,⟨_,rfl⟩,q⟩
 | ref p=>
  cases rx
  have e':(∃ xs,SqL X.K H p xs∧n=xs.length)∨∃ xs,SqT X.K H p xs∧n=xs.length:=e
  rcases e' with ⟨xs,hx,e'⟩ | ⟨xs,hx,e'⟩
  ·subst e'
   obtain ⟨its,r',pl,hz⟩:=I.list hx
   have hlen:=r'.length
   exact Calls.call_len_list pl.isList (by simp only [List.size_toArray];omega) ⟨.int xs.length,H,I.tok _,⟨_,by simp only [List.size_toArray];rw [hlen]⟩,q⟩
  ·subst e'
   obtain ⟨its,r',pl,hz⟩:=I.tuple hx
   have hlen:=r'.length
   exact len_tuple pl (by simp only [List.size_toArray];omega) ⟨.int xs.length,H,I.tok _,⟨_,by simp only [List.size_toArray];rw [hlen]⟩,q⟩
 | _=>exact (show False from e).elim
end
structure uZ (h:Heap) (x dx C:Addr) (mA:Str→Option Value):Prop where
 obj:h.get? x=some (PySem.W.instObj C dx)
 ns:h.Ns1 dx mA
 ne:dx≠x
theorem sh {h:Heap} {dx:Addr} {mA:Str→Option Value} (n:h.Ns1 dx mA):∃ od,h.get? dx=some od∧∀ name,PySem.W.lookIn name od=some (mA name):=by
 obtain ⟨o,es,ep,ho,hd,hk,_,hm⟩:=n
 refine ⟨o,ho,fun name=>?_⟩
 have e:=hm name
 unfold nsFind findBy at e
 rw [← Array.find?_toList] at e
 unfold PySem.W.lookIn
 rw [hd]
 dsimp only
 split
 ·rename_i y q
  rw [q] at e
  exact congrArg some e
 ·rename_i q
  rw [q] at e
  have a:es.toList.any (·.refKey)=false:=by
   rw [List.any_eq_false]
   intro y hy
   obtain ⟨z,t,hkey⟩:=hk y (Array.mem_toList_iff.mp hy)
   simp [DictEntry.refKey,hkey]
  have a':¬es.toList.any (·.refKey)=true:=by rw [a];exact Bool.false_ne_true
  rw [if_neg a']
  exact congrArg some e
theorem uZ.look {h:Heap} {x dx C:Addr} {mA:Str→Option Value} (I:uZ h x dx C mA):∃ od,PySem.W.InstAt h x (PySem.W.instObj C dx) C (some od)∧∀ name,PySem.W.lookIn name od=some (mA name):=
 let ⟨od,ho,hl⟩:=sh I.ns
 ⟨od,⟨I.obj,rfl,rfl,ho⟩,hl⟩
theorem eG.some_of {v:V} {o:Option Value} (r:eG (some v) o):∃ u,o=some u∧RelV v u:=by
 cases o with
 | none=>exact (show False from r).elim
 | some u=>exact ⟨u,rfl,r⟩
section
variable {P:Program} {w:World} {H H':Hp} {h h':Heap} {a C dx:Addr} {fs fs':List (Str×V)}
theorem yH (hok:HOk P w H h) (e:H a=some (.ins C dx fs)):∃ mA,uZ h a dx C mA∧(∀ f,eG (fs.lookup f) (mA f))∧PySem.Within mA (fs.map (·.1))∧fs.length≤1000∧H dx=some (.own a):=by
 obtain ⟨d,z,ne,ob,mA,n,r,q⟩:=(show bz P w H h a (.ins C dx fs) from hok a _ e)
 exact ⟨mA,⟨ob,n,ne⟩,r,q,z,d⟩
end
structure Cls (K:PySem.W.Frag) (C:Addr):Prop where
 pg:PySem.W.plainGet K C Str.empty=true
 hd:PySem.W.hasDictIn K C=true
 po:PySem.W.plainOver K C=true
 sa:PySem.W.findIn K (.ref C) "__setattr__"=some (some (.builtin "object.__setattr__"))
theorem Cls.get {K:PySem.W.Frag} {C:Addr} (c:Cls K C) (f:Str):PySem.W.plainGet K C f=true:=c.pg
structure Con (K:PySem.W.Frag) (C:Addr) (f:Str) (v:V) (u:Value):Prop where
 at_:PySem.W.findIn K (.ref C) f=some (some u)
 rel:RelV v u
 get:PySem.W.specialIn K u "__get__"=some none
 cp:PySem.W.copiedNames.contains f=false
structure Meth (K:PySem.W.Frag) (C:Addr) (m:Str) (f:Addr):Prop where
 at_:PySem.W.findIn K (.ref C) m=some (some (.ref f))
 fn:PySem.W.isFn K (.ref f)=true
 kp:PySem.W.keepIn K (.ref f)=true
section
variable {X:Cx} {pins:List (Addr×Obj)} {σ:St} {H:Hp} {s:Shared} {A:Around} {E:Value→Shared→Prop} {Q:Value→Shared→Prop} {c:Value} {b:Bool}
inductive eI (K:PySem.W.Frag) (H:Hp):V→Value→Prop where
 | non:eI K H .non (.type "NoneType")
 | bl (x:Bool):eI K H (.bl x) (.type "bool")
 | int (i:Int):eI K H (.int i) (.type "int")
 | str (x:Str):eI K H (.str x) (.type "str")
 | flt (x:UInt64):eI K H (.flt x) (.type "float")
 | lst {a:Addr} {xs:List V} (e:H a=some (.lst xs)):eI K H (.ref a) (.type "list")
 | frz {a:Addr} {o:Obj} {xs:List V} (e:H a=some (.frz o (.lst xs))):eI K H (.ref a) (.type "list")
 | tup {a:Addr} {xs:List V} (e:H a=some (.tup xs)):eI K H (.ref a) (.type "tuple")
 | dK {a:Addr} {kvs:List (Key×V)} (e:H a=some (.dK kvs)):eI K H (.ref a) (.type "dict")
 | dT {a:Addr} {kvs:List (List Key×V)} (e:H a=some (.dT kvs)):eI K H (.ref a) (.type "dict")
 | ins {a C dx:Addr} {fs:List (Str×V)} (e:H a=some (.ins C dx fs)) (cl:Cls K C) (ha:PySem.W.findIn K (.ref C) "__class__"=some (some (.builtin "object.__class__")))
   (hn:PySem.W.specialIn K (.builtin "object.__class__") "__get__"=some (some (.builtin "getset_descriptor.__get__"))) (htk:PySem.W.takesIn K (.builtin "object.__class__")=some true)
   (hm:PySem.W.mroIn K C (.type "object")=some true):eI K H (.ref a) (.ref C)
theorem sR {x:V} {u t:Value} (I:Inv X pins σ H s) (rx:RelV x u) (ty:eI X.K H x t) (e:PySem.W.kitOne X.K t c=some b) (h:∀ tk,Q (.bool b) { s with toks:=tk }) :
  wpAny (model X.prog X.w) A (call (.builtin "isinstance") [u,c]) Q E s:=by
 cases ty with
 | non=>cases (show u=Value.none from rx);exact PySem.W.kia_one PySem.W.kitx_none I.kIn True.intro e (fun z=>nomatch z) h
 | bl y=>cases (show u=Value.bool y from rx);exact PySem.W.kia_one PySem.W.kitx_bool I.kIn True.intro e (fun z=>nomatch z) h
 | int i=>obtain ⟨t,q⟩:=(show ∃ t,u=Value.int i t from rx);cases q;exact PySem.W.kia_one PySem.W.kitx_int I.kIn True.intro e (fun z=>nomatch z) h
 | str y=>obtain ⟨t,q⟩:=(show ∃ t,u=Value.str y t from rx);cases q;exact PySem.W.kia_one PySem.W.kitx_str I.kIn True.intro e (fun z=>nomatch z) h
 | flt y=>obtain ⟨t,q⟩:=(show ∃ t,u=Value.float y t from rx);cases q;exact PySem.W.kia_one PySem.W.kitx_float I.kIn True.intro e (fun z=>nomatch z) h
 | @lst a xs ea=>
  cases (show u=Value.ref a from rx)
  obtain ⟨_,_,n,_,h1⟩:=(show bz X.prog X.w H s.heap a (.lst xs) from I.hok a _ ea)
  exact PySem.W.kia_one PySem.W.kitx_list I.kIn ⟨_,h1,rfl⟩ e (fun z=>nomatch z) h
 | @frz a ob xs ea=>
  cases (show u=Value.ref a from rx)
  obtain ⟨_,_,_,n,_,h1⟩:=(show bz X.prog X.w H s.heap a (.frz ob (.lst xs)) from I.hok a _ ea)
  exact PySem.W.kia_one PySem.W.kitx_list I.kIn ⟨_,h1,rfl⟩ e (fun z=>nomatch z) h
 | @tup a xs ea=>
  cases (show u=Value.ref a from rx)
  obtain ⟨_,_,_,p⟩:=(show bz X.prog X.w H s.heap a (.tup xs) from I.hok a _ ea)
  obtain ⟨o,h1,h2,_⟩:=p
  exact PySem.W.kia_one PySem.W.kitx_tuple I.kIn ⟨o,h1,h2⟩ e (fun z=>nomatch z) h
 | @dK a kvs ea=>
  cases (show u=Value.ref a from rx)
  obtain ⟨_,_,vs,_,p⟩:=(show bz X.prog X.w H s.heap a (.dK kvs) from I.hok a _ ea)
  obtain ⟨o,es,ep,h1,h2,_⟩:=p
  exact PySem.W.kia_one PySem.W.kitx_dict I.kIn ⟨o,h1,h2.1⟩ e (fun z=>nomatch z) h
 | @dT a kvs ea=>
  cases (show u=Value.ref a from rx)
  obtain ⟨_,_,xs,_,o,es,ep,h1,h2,_⟩:=(show bz X.prog X.w H s.heap a (.dT kvs) from I.hok a _ ea)
  exact PySem.W.kia_one PySem.W.kitx_dict I.kIn ⟨o,h1,h2.1⟩ e (fun z=>nomatch z) h
 | @ins a C dx fs ea cl ha hn htk hm=>
  cases (show u=Value.ref a from rx)
  obtain ⟨mA,O,_⟩:=yH I.hok ea
  obtain ⟨od,J,_⟩:=O.look
  exact PySem.W.kia_one (PySem.W.kitx_own (cl.get _) cl.hd ha hn htk hm) I.kIn J e (fun z=>nomatch z) h
end
structure cE (k:Nat) (A:Around):Prop where
 hd:A.handled=none
 dp:A.depth+3 * k+5 < recursionLimit
 un:A.units+16 * k+200 < cLine
theorem cE.mono {j k:Nat} {A:Around} (r:cE k A) (h:j≤k):cE j A:=⟨r.hd,by have:=r.dp;omega,by have:=r.un;omega⟩
theorem cE.deeper {k:Nat} {A:Around} (r:cE (k+1) A) (env:Env):cE k (A.deeper env):=
 ⟨r.hd,by have:=r.dp;show A.depth+1+3 * k+5 < _;omega,by have:=r.un;show A.units+3+16 * k+200 < _;omega⟩
theorem cE.depth {k:Nat} {A:Around} (r:cE k A):A.depth < recursionLimit:=by have:=r.dp;omega
theorem cE.units {k:Nat} {A:Around} (r:cE k A):A.units+64 < cLine:=by have:=r.un;omega
def DX:TA:=fun _ H Q=>Q [] H
def Dj (ta:TE) (tr:TA):TA:=fun σ H Q=>ta σ H fun x H1=>tr σ H1 fun xs H2=>Q (x :: xs) H2
section
variable {X:Cx} {e:Expr} {es:List Expr} {te:TE} {t:TA} {pos:Pos}
theorem fU:PA X [] DX:=fun _ _ _ _ H Q I h=>Calls.spliced_nil ⟨[],H,I,.nil,h⟩
theorem dR (ha:PE X e te) (hr:PA X es t) (hs:starEach (e :: es) X.env=(false,eval e X.env) :: starEach es X.env:=by rfl):PA X (e :: es) (Dj te t):=by
 intro pos pins s σ H Q I h
 rw [hs]
 show wpAny _ _ (spliced ((false,eval e X.env) :: backTo pos (starEach es X.env))) _ _ s
 refine Calls.spliced_cons (thn (ha pins s σ H _ I h) fun u s1 ⟨x,H1,I1,r1,q1⟩=>?_)
 exact thn (hr pos pins s1 σ H1 _ I1 q1) fun us s2 ⟨xs,H2,I2,r2,q2⟩=>⟨x :: xs,H2,I2,.cons r1 r2,q2⟩
def EI (t:TA):TE:=fun σ H Q=>t σ H fun xs H1=>xs.length≤sizeLine∧∀ p,H1 p=none→Q (.ref p) (upd H1 p (.tup xs))
def D7 (t:TA):TE:=fun σ H Q=>t σ H fun xs H1=>xs.length≤sizeLine∧∀ p,H1 p=none→Q (.ref p) (upd H1 p (.lst xs))
theorem AO {x1} (h:PA X es t):PE X (.Tuple es x1 pos) (EI t):=by
 intro pins s σ H Q I hq
 refine wpAny_Tuple_spliced (thn (h pos pins s σ H _ I hq) fun us s1 ⟨xs,H1,I1,r,z,q⟩=>⟨by rw [← r.length];exact z,?_⟩)
 have hf:H1 s1.heap.objs.size=none:=I1.hok.fresh (Nat.le_refl _)
 refine ⟨.ref s1.heap.objs.size,upd H1 s1.heap.objs.size (.tup xs),I1.laid (t':=s1.toks) (fun b u e=>Heap.get?_push_of_some _ e) (Nat.le_refl _) ?_,rfl,q _ hf⟩
 exact ⟨z,us,r,⟨_,Heap.get?_push_size _ rfl,rfl,_,rfl⟩⟩
theorem rV (h:PA X es t):PE X (.List es pos) (D7 t):=by
 intro pins s σ H Q I hq
 refine wpAny_List_spliced (thn (h pos pins s σ H _ I hq) fun us s1 ⟨xs,H1,I1,r,z,q⟩=>⟨by rw [← r.length];exact z,?_⟩)
 have hf:H1 s1.heap.objs.size=none:=I1.hok.fresh (Nat.le_refl _)
 refine ⟨.ref s1.heap.objs.size,upd H1 s1.heap.objs.size (.lst xs),I1.laid (t':=s1.toks) (fun b u e=>Heap.get?_push_of_some _ e) (Nat.le_refl _) ?_,rfl,q _ hf⟩
 exact ⟨z,us,0,r,Heap.get?_push_size _ rfl⟩
end
abbrev Sp:=List V→Hp→VK→XK→Prop
abbrev CXT:=List Env→Hp→Shared→XK→Value→Shared→Prop
structure qE (P:Program) (w:World) (K:PySem.W.Frag) (mg:Str→Option Value) (base:Heap) (A:Around) (outer:List Env) (s:Shared) (H:Hp):Prop where
 frames:A.frames=some outer
 mod:Mod K mg base
 bs:∀ b o,base.get? b=some o→s.heap.get? b=some o∧H b=none
 bsz:base.objs.size≤s.heap.objs.size
 fV:s.heap.FunFrames base outer
 frf:∀ b∈frs outer,H b=none
 hok:HOk P w H s.heap
 bare:AllBare s.gens
def CE (outer:List Env) (P:Program) (w:World) (H:Hp) (s:Shared) (Q:VK) (u:Value) (s':Shared):Prop:=
 ∃ v H',s'.os=s.os∧AllBare s'.gens∧Un (frs outer) [] H H' s.heap s'.heap∧HOk P w H' s'.heap∧RelV v u∧Q v H'
def CR (CX:CXT) (outer:List Env) (P:Program) (w:World) (H:Hp) (s:Shared) (Q:VK) (E:XK) (r:Result) (s':Shared):Prop:=
 match r with
 | .ok (.ret u)=>CE outer P w H s Q u s'
 | .ok _=>False
 | .error e=>CX outer H s E e s'
structure eB (P:Program) (w:World) (K:PySem.W.Frag) (mg:Str→Option Value) (base:Heap) (CX:CXT) (k:Nat) (f:Addr) (fd:FuncData) (ps:List Str) (sp:Sp):Prop where
 len:∀ vs H Q E,sp vs H Q E→vs.length=ps.length
 run:∀ (A:Around) (outer:List Env) (s:Shared) (H:Hp) (args:Args) (us:List Value) (vs:List V) (Q:VK) (E:XK),cE k A→qE P w K mg base A outer s H→BindsTo s fd args (ps.zip us)→Vals vs us→sp vs H Q E →
  codeAny (model P w) A (.call (.ref f) args) (CR CX outer P w H s Q E) s
theorem eB.imp {P:Program} {w:World} {K:PySem.W.Frag} {mg:Str→Option Value} {base:Heap} {CX:CXT} {k:Nat} {f:Addr} {fd:FuncData} {ps:List Str} {sp sp':Sp} (F:eB P w K mg base CX k f fd ps sp)
  (h:∀ vs H Q E,sp' vs H Q E→sp vs H Q E):eB P w K mg base CX k f fd ps sp':=
 ⟨fun vs H Q E q=>F.len vs H Q E (h _ _ _ _ q),fun A outer s H args us vs Q E hr he hb hv hs=>F.run A outer s H args us vs Q E hr he hb hv (h _ _ _ _ hs)⟩
section
variable {X:Cx} {pins:List (Addr×Obj)} {σ:St} {H:Hp} {s s':Shared}
theorem Inv.Ef (I:Inv X pins σ H s):qE X.prog X.w X.K X.mg X.base X.A X.stack s H:=
 ⟨I.ok.frames,I.ok.mod,I.bs,Nat.le_trans I.ok.bsz I.sz,I.stack,I.p9,I.hok,I.bare⟩
theorem Inv.after {Q:VK} {u:Value} (I:Inv X pins σ H s) (h:CE X.stack X.prog X.w H s Q u s'):EP X pins σ Q u s':=by
 obtain ⟨v,H',os,bare,un,hok,r,q⟩:=h
 obtain ⟨hh,g,d,t,os'⟩:=s'
 obtain rfl:os'=s.os:=os
 exact ⟨v,H',I.call (h':=hh) (g':=g) (d':=d) (t':=t) (ch:=[]) un hok bare (fun b z=>absurd z (by simp)),r,q⟩
end
def Cw (sp:Sp) (dvs:List V) (E:XK) (t:TA):TE:=fun σ H Q=>t σ H fun vs H1=>sp (vs++dvs) H1 Q E
def Binds (K:PySem.W.Frag) (fd:FuncData) (ps:List Str) (ds:List Value):Prop:=
 ∀ (s:Shared) (us:List Value),K.In s.heap→(us++ds).length=ps.length→BindsTo s fd ⟨us,[]⟩ (ps.zip (us++ds))
theorem Binds.all {K:PySem.W.Frag} {fd:FuncData} {ps:List Str} (h:∀ us:List Value,us.length=ps.length→bindArgs fd ⟨us,[]⟩=pure (ps.zip us)):Binds K fd ps []:=fun s us _ hl=>by
 rw [List.append_nil] at hl ⊢
 exact .of_eq (h us hl)
def Passes (CX:CXT) (X:Cx) (E:XK):Prop:=∀ (pins:List (Addr×Obj)) (σ:St) (H:Hp) (s:Shared) (e:Value) (s':Shared),Inv X pins σ H s→CX X.stack H s E e s'→X.xe e s'
section
variable {X:Cx} {CX:CXT} {k:Nat} {f C:Addr} {fd:FuncData} {ps:List Str} {sp:Sp} {dvs:List V} {ds:List Value} {E:XK} {x m:Str} {p pos apos:Pos} {e o:Expr} {es:List Expr} {ta:TE} {t:TA}
theorem AB {pins:List (Addr×Obj)} {σ:St} {H:Hp} {s:Shared} {Q:VK} {us:List Value} {vs:List V} (F:eB X.prog X.w X.K X.mg X.base CX k f fd ps sp) (hr:cE k X.A) (hb:Binds X.K fd ps ds) (hd:Vals dvs ds) (hx:Passes CX X E)
  (I:Inv X pins σ H s) (r:Vals vs us) (h:sp (vs++dvs) H Q E):wpAny (model X.prog X.w) X.A (call (.ref f) us) (EP X pins σ Q) X.xe s:=by
 have r2:Vals (vs++dvs) (us++ds):=r.append hd
 have hl:(us++ds).length=ps.length:=by rw [← r2.length];exact F.len _ _ _ _ h
 refine wpAny_call (codeAny_mono (F.run X.A X.stack s H ⟨us,[]⟩ (us++ds) (vs++dvs) Q E hr I.Ef (hb s us I.kIn hl) r2 h) fun r s' hq=>?_)
 cases r with
 | error e=>exact hx pins σ H s e s' I hq
 | ok fl=>
  cases fl with
  | ret u=>exact I.after hq
  | next=>exact False.elim hq
  | brk=>exact False.elim hq
  | cont=>exact False.elim hq
theorem xu (F:eB X.prog X.w X.K X.mg X.base CX k f fd ps sp) (hr:cE k X.A) (hg:Gl X x) (hm:X.mg x=some (.ref f)) (hk:PySem.W.keepIn X.K (.ref f)=true) (hb:Binds X.K fd ps ds) (hd:Vals dvs ds) (hx:Passes CX X E)
  (ha:PA X (e :: es) t) (hdb:(x == ("__debug__":Str))=false:=by decide) (he:starEach (e :: es) X.env=(false,eval e X.env) :: starEach es X.env:=by rfl) (hpl:(backTo pos (starEach es X.env)).any (·.1)=false:=by rfl) :
  PE X (.Call (.Name x p) (e :: es) [] pos) (Cw sp dvs E t):=by
 intro pins s σ H Q I h
 refine wpAny_Call_Name_kw (xp I hg hm ?_ hdb)
 refine PySem.W.callWith_K (h₀:=X.base) I.ok.mod.kin hk (thn (ha pos pins s σ H _ I h) fun us s1 ⟨vs,H1,I1,r,q⟩=>⟨I1.kIn,?_⟩) he hpl
 exact AB F hr hb hd hx I1 r q
structure Mk (K:PySem.W.Frag) (C f:Addr):Prop where
 makes:PySem.W.makesIn K C=true
 init:PySem.W.findIn K (.ref C) "__init__"=some (some (.ref f))
 fn:PySem.W.isFn K (.ref f)=true
 kp:PySem.W.keepIn K (.ref C)=true
end
section
variable {X:Cx} {CX:CXT} {k:Nat} {f C:Addr} {fd:FuncData} {ps ks:List Str} {sp:Sp} {E:XK} {x m:Str} {p pos apos kpos:Pos} {e o:Expr} {es:List Expr} {kws:List Keyword} {te ta:TE} {t tk:TA} {nm:Option Str}
structure EL (K:PySem.W.Frag) (fd:FuncData) (ps ks:List Str) (g:List Value→List Value→List Value) (gV:List V→List V→List V):Prop where
 to:∀ (s:Shared) (us ws:List Value),K.In s.heap→(g us ws).length=ps.length→BindsTo s fd ⟨us,ks.zip ws⟩ (ps.zip (g us ws))
 rel:∀ {vs:List V} {us:List Value} {zs:List V} {ws:List Value},Vals vs us→Vals zs ws→Vals (gV vs zs) (g us ws)
variable {g:List Value→List Value→List Value} {gV:List V→List V→List V}
end
structure gE (N P:List Str) (sc:Scope):Prop where
 kind:sc.kind=.function
 co:sc.isCoroutine=false
 gen:sc.isGenerator=false
 nd:N.Nodup
 pre:N.take P.length=P
 par:∀ x∈P,sc.names.lookup x=some .local∨sc.names.lookup x=some .cell
 nofree:∀ y∈sc.names,y.2≠.free
theorem l5 {kindOf:Str→Option NameKind} {x:Str}:∀ {binds:List (Str×Value)} {m:Str→Option Value},(∀ v,(x,v)∉binds)→bindL kindOf binds m x=m x
 | [],_,_=>rfl
 | (n,v) :: r,m,h=>by
  unfold bindL
  rw [l5 fun w hw=>h w (List.mem_cons_of_mem _ hw)]
  split
  ·have:x≠n:=by rintro rfl;exact h v List.mem_cons_self
   simp [this]
  ·rfl
theorem l9 {kindOf:Str→Option NameKind} {x:Str}:∀ {binds:List (Str×Value)} {m:Str→Option Value},(∀ v,(x,v)∉binds)→bindC kindOf binds m x=m x
 | [],_,_=>rfl
 | (n,v) :: r,m,h=>by
  unfold bindC
  rw [l9 fun w hw=>h w (List.mem_cons_of_mem _ hw)]
  split
  ·rfl
  ·have:x≠n:=by rintro rfl;exact h v List.mem_cons_self
   simp [this]
theorem ma {kindOf:Str→Option NameKind} {x:Str} {v:Value}:∀ {P:List Str} {vs:List Value} {i:Nat} {m:Str→Option Value},P.Nodup→P[i]?=some x→vs[i]?=some v→kindOf x=some .local →
  bindL kindOf (P.zip vs) m x=some v
 | [],_,_,_,_,h,_,_=>by simp at h
 | _ :: _,[],_,_,_,_,h,_=>by simp at h
 | p :: P,w :: vs,0,m,nd,h1,h2,hk=>by
  simp at h1 h2;subst h1;subst h2
  show bindL kindOf ((p,w) :: P.zip vs) m p=_
  unfold bindL
  rw [l5 fun v hv=>(List.nodup_cons.mp nd).1 (List.of_mem_zip hv).1,if_pos hk]
  simp
 | p :: P,w :: vs,i+1,m,nd,h1,h2,hk=>by
  show bindL kindOf ((p,w) :: P.zip vs) m x=_
  unfold bindL
  exact ma (i:=i) (List.nodup_cons.mp nd).2 (by simpa using h1) (by simpa using h2) hk
theorem l_ {kindOf:Str→Option NameKind} {x:Str} {v:Value}:∀ {P:List Str} {vs:List Value} {i:Nat} {m:Str→Option Value},P.Nodup→P[i]?=some x→vs[i]?=some v→kindOf x≠some .local →
  bindC kindOf (P.zip vs) m x=some v
 | [],_,_,_,_,h,_,_=>by simp at h
 | _ :: _,[],_,_,_,_,h,_=>by simp at h
 | p :: P,w :: vs,0,m,nd,h1,h2,hk=>by
  simp at h1 h2;subst h1;subst h2
  show bindC kindOf ((p,w) :: P.zip vs) m p=_
  unfold bindC
  rw [l9 fun v hv=>(List.nodup_cons.mp nd).1 (List.of_mem_zip hv).1,if_neg hk]
  simp
 | p :: P,w :: vs,i+1,m,nd,h1,h2,hk=>by
  show bindC kindOf ((p,w) :: P.zip vs) m x=_
  unfold bindC
  exact l_ (i:=i) (List.nodup_cons.mp nd).2 (by simpa using h1) (by simpa using h2) hk
def start (N:List Str) (vs:List V):St:=vs.map some++List.replicate (N.length - vs.length) none
def jg (CX:CXT) (P:Program) (w:World) (K:PySem.W.Frag) (mg:Str→Option Value) (base:Heap) (N:List Str) (qual:Str) (scope:Scope) (f:Addr) (cd:Value) (A:Around) (outer:List Env) (s:Shared) (H:Hp) (E:XK):Cx where
 prog:=P
 w:=w
 K:=K
 mg:=mg
 base:=base
 A:=A.deeper (envOfC qual scope s.heap.objs.size f cd)
 N:=N
 s₀:=s
 H₀:=H
 env:=envOfC qual scope s.heap.objs.size f cd
 outer:=outer
 stack:=envOfC qual scope s.heap.objs.size f cd :: outer
 ex:=[]
 calm:=true
 fn:=fun _=>true
 pn:=[]
 xe:=fun e s'=>wpAny (model P w) (A.deeper (envOfC qual scope s.heap.objs.size f cd)) (leaving (envOfC qual scope s.heap.objs.size f cd) e) (fun _ s''=>CX outer H s E e s'') (fun e' s''=>CX outer H s E e' s'') s'
theorem oJ {sc:Scope} {n:Nat} {x:Str} (h:sc.names.lookup x=some .cell):∃ c,(cellsFrom n sc.names []).lookup x=some c:=by
 have q:=PySem.W.cellsFrom_some sc.names n [] (.inl h)
 exact Option.isSome_iff_exists.mp q
theorem ug {CX:CXT} {P:Program} {w:World} {K:PySem.W.Frag} {mg:Str→Option Value} {base:Heap} {N ps:List Str} {qual:Str} {scope:Scope} {f:Addr} {cd:Value} {A:Around} {outer:List Env} {s s1:Shared} {H:Hp} {E:XK} {us:List Value} {vs:List V}
  (S:gE N ps scope) (hd:A.handled=none) (e0:qE P w K mg base A outer s H) (hl:vs.length=ps.length) (r:Vals vs us)
  (x:InCallC s s.heap.objs.size (bindL (envOfC qual scope s.heap.objs.size f cd).kindOf (ps.zip us) fun _=>none) (cellsFrom (s.heap.objs.size+1) scope.names []) (bindC (envOfC qual scope s.heap.objs.size f cd).kindOf (ps.zip us) fun _=>none) s1) :
  Inv (jg CX P w K mg base N qual scope f cd A outer s H E) [] (start N vs) H s1:=by
 have hpl:ps.length≤N.length:=by have:=congrArg List.length S.pre;rw [List.length_take] at this;omega
 obtain ⟨h1,tk,rfl,hk⟩:=x.done
 have noA:∀ b:Addr,b∉(jg CX P w K mg base N qual scope f cd A outer s H E).ex:=fun b z=>absurd (show b∈([]:List Addr) from z) (by simp)
 refine ⟨⟨e0.mod,S.kind,rfl,rfl,Nat.le_refl _,fun y z c h1 h2=>?_,fun y hy=>?_,fun y c _ h=>?_,fun _=>hd,Around.frames_deeper e0.frames,.inr ⟨rfl,rfl⟩,fun b z=>absurd z (noA b),e0.bs,e0.bsz,fun b _ _=>noA b,fun b z=>absurd z (noA b),e0.fV,e0.frf⟩,
  rfl,e0.bare,Un.kept hk,⟨_,x.toInCall.ns,fun i y v h1 h2 h3=>?_⟩,fun y c h=>⟨_,x.cell y c h⟩,e0.hok.fresh (Nat.le_refl _),fun y c h=>?_,fun p hp=>absurd (show p∈([]:List (Addr×Obj)) from hp) (by simp),e0.hok.kept hk,?_⟩
 ·exact name_of_addr x.apart (PySem.mem_of_lookup h1) (PySem.mem_of_lookup h2)
 ·have hy:scope.names.lookup y=some .cell∨scope.names.lookup y=some .free:=hy
  rcases hy with hy | hy
  ·exact oJ hy
  ·exact absurd rfl (S.nofree _ (PySem.mem_of_lookup hy))
 ·exact Nat.le_of_lt (x.above y c (PySem.mem_of_lookup h))
 ·have hi:i < vs.length:=by
   unfold start at h2
   by_cases hi:i < vs.length
   ·exact hi
   ·rw [List.getElem?_append_right (by simpa using hi)] at h2
    rw [List.getElem?_replicate] at h2
    split at h2<;>cases h2
  have ha:vs[i]?=some v:=by
   unfold start at h2
   rw [List.getElem?_append_left (by simpa using hi),List.getElem?_map] at h2
   cases e:vs[i]? with
   | none=>rw [e] at h2;cases h2
   | some a=>rw [e] at h2;cases h2;rfl
  obtain ⟨u,hu,rv⟩:=r.get ha
  have hp:ps[i]?=some y:=by
   rw [← S.pre,List.getElem?_take_of_lt (by omega)];exact h1
  have ndP:ps.Nodup:=by rw [← S.pre];exact S.nd.sublist (List.take_sublist _ _)
  refine ⟨u,rv,?_⟩
  rcases S.par y (List.mem_of_getElem? hp) with k | k
  ·exact .inl ⟨k,ma ndP hp hu k⟩
  ·obtain ⟨c,e⟩:=oJ (n:=s.heap.objs.size+1) k
   refine .inr ⟨.inl k,c,e,?_⟩
   have q:=x.cell y c e
   rw [l_ ndP hp hu (by show scope.names.lookup y≠_;rw [k];decide)] at q
   exact q
 ·exact e0.hok.fresh (Nat.le_of_lt (x.above y c (PySem.mem_of_lookup h)))
 ·unfold start
  show _=N.length
  rw [List.length_append,List.length_map,List.length_replicate]
  omega
theorem CJ {CX:CXT} {P:Program} {w:World} {K:PySem.W.Frag} {mg:Str→Option Value} {base:Heap} {k:Nat} {f:Addr} {name qual:Str} {params:Arguments} {body:List Stmt} {scope:Scope} {dV kV doc pm cdv ct oc:Value} {an od:Option Addr}
  {osl:Array (Option Value)} {N ps:List Str} {sp:Sp} (lk:K.lookup f=some ⟨oc,od,.func (PySem.W.fnOf name qual params body scope dV kV doc pm an cdv ct),osl⟩) (hcd:PySem.W.codeIn K cdv qual=true) (S:gE N ps scope)
  (len:∀ vs H Q E,sp vs H Q E→vs.length=ps.length)
  (hbody:∀ (A:Around) (outer:List Env) (s:Shared) (H:Hp) (vs:List V) (Q:VK) (E:XK),cE k (A.deeper (envOfC qual scope s.heap.objs.size f cdv))→sp vs H Q E →
   ∃ t,PSs (jg CX P w K mg base N qual scope f cdv A outer s H E) body t∧t { nx:=fun _ H'=>Q .non H',rt:=Q } (start N vs) H) :
  eB P w K mg base CX (k+1) f (PySem.W.fnOf name qual params body scope dV kV doc pm an cdv ct) ps sp:=by
 refine ⟨len,fun A outer s H args us vs Q E hr e0 hb r hsp=>?_⟩
 have hl:=len _ _ _ _ hsp
 have KX:K.In s.heap:=e0.mod.kin.keeps fun b o e=>(e0.bs b o e).1
 have lim:s.heap.NoLimit:=e0.mod.nolimit.keeps fun b o e=>(e0.bs b o e).1
 have hkind:∀ y∈ps.zip us,scope.names.lookup y.1=some .local∨(scope.names.lookup y.1=some .cell∧((cellsFrom (s.heap.objs.size+1) scope.names []).lookup y.1).isSome=true):=fun ⟨n,v⟩ hy=>by
  rcases S.par n (List.of_mem_zip hy).1 with q | q
  ·exact .inl q
  ·exact .inr ⟨q,PySem.W.cellsFrom_some _ _ _ (.inl q)⟩
 refine codeAny_call_function hr.depth (KX _ _ lk) rfl S.co S.gen rfl (PySem.W.codeRec_of KX hcd) (hb _ _ _ _ ?_)
 refine wpAny_newFunctionEnv_cells S.kind hkind fun env he s1 x=>?_
 subst he
 refine ⟨lim.keeps x.toInCall.keep,codeAny_func ?_⟩
 obtain ⟨t,ht,hq⟩:=hbody A outer s H vs Q E (hr.deeper _) hsp
 have I:Inv (jg CX P w K mg base N qual scope f cdv A outer s H E) [] (start N vs) H s1:=ug S hr.hd e0 hl r x
 refine wpAny_mono (ht [] s1 (start N vs) H _ I hq) (fun fl s' hs=>?_) fun e s' hs=>hs
 have fin:∀ {σ':St} {H':Hp} {v:V} {u:Value},Inv (jg CX P w K mg base N qual scope f cdv A outer s H E) [] σ' H' s'→RelV v u→Q v H'→CE outer P w H s Q u s':=
  fun {σ' H' v u} J rv q=>⟨v,H',J.os,J.bare,J.base,J.hok,rv,q⟩
 cases fl with
 | ret u=>
  obtain ⟨v,σ',H',J,rv,q⟩:=hs
  exact fin J rv q
 | next=>
  obtain ⟨σ',H',J,q⟩:=hs
  exact fin (v:=V.non) (u:=Value.none) J rfl q
 | brk=>
  obtain ⟨_,_,_,q⟩:=hs
  exact False.elim q
 | cont=>
  obtain ⟨_,_,_,q⟩:=hs
  exact False.elim q
section
variable {X:Cx} {x:Str} {p pos:Pos} {e:Expr} {es:List Expr} {t:TA} {id T:String} {r:List V→Hp→VK→Prop}
def tCB (r:List V→Hp→VK→Prop) (t:TA):TE:=fun σ H Q=>t σ H fun vs H1=>r vs H1 Q
theorem vv (hc:bI X (.builtin id) r) (hg:Gl X x) (hm:X.mg x=none) (hv:bootBuiltins x=some (.builtin id)) (ha:PA X (e :: es) t) (hn:x≠"__name__":=by decide) (hdb:(x == ("__debug__":Str))=false:=by decide)
  (he:starEach (e :: es) X.env=(false,eval e X.env) :: starEach es X.env:=by rfl) (hpl:(backTo pos (starEach es X.env)).any (·.1)=false:=by rfl):PE X (.Call (.Name x p) (e :: es) [] pos) (tCB r t):=by
 intro pins s σ H Q I h
 refine wpAny_Call_Name_kw (cf I hg hm hv ?_ hn hdb)
 exact PyProof.Rows.callWith_builtin1 (thn (ha pos pins s σ H _ I h) fun us s1 ⟨vs,H1,I1,r1,q1⟩=>hc pins s1 σ H1 vs us Q I1 r1 q1) he hpl
theorem tV (hc:bI X (.type T) r) (hg:Gl X x) (hm:X.mg x=none) (hv:bootBuiltins x=some (.type T)) (ha:PA X (e :: es) t) (hn:x≠"__name__":=by decide) (hdb:(x == ("__debug__":Str))=false:=by decide)
  (he:starEach (e :: es) X.env=(false,eval e X.env) :: starEach es X.env:=by rfl) (hpl:(backTo pos (starEach es X.env)).any (·.1)=false:=by rfl):PE X (.Call (.Name x p) (e :: es) [] pos) (tCB r t):=by
 intro pins s σ H Q I h
 refine wpAny_Call_Name_kw (cf I hg hm hv ?_ hn hdb)
 exact PyProof.Rows.callWith_type1 (thn (ha pos pins s σ H _ I h) fun us s1 ⟨vs,H1,I1,r1,q1⟩=>hc pins s1 σ H1 vs us Q I1 r1 q1) he hpl
end
end L2
namespace HT
open PySem PyProof.Rows
section
variable {prog:Program} {w:World} {A:Around} {E:Value→Shared→Prop} {s:Shared}
theorem yh {t b:Addr} {vs ws:List Value} {Q:Value→Shared→Prop} (ht:IsTup s.heap t vs.toArray) (hb:IsTup s.heap b ws.toArray) (hv:vs≠[])
  (h1:ws=[]→Q (.ref t) s) (h2:ws≠[]→Q (.ref s.heap.objs.size) { s with heap:=s.heap.push { cls:=.type "tuple",data:=.seq (vs++ws).toArray } })
  (hsz:vs.length+ws.length≤sizeLine):wpAny (model prog w) A (binaryOp .Add (.ref t) (.ref b)) Q E s:=by
 obtain ⟨⟨cls,dd,data,sl⟩,ho,hc,n,hd⟩:=id ht
 obtain ⟨⟨cls2,dd2,data2,sl2⟩,ho2,hc2,n2,hd2⟩:=id hb
 simp only at hc hd hc2 hd2
 subst hc hd hc2 hd2
 have e:vs.toArray++ws.toArray=(vs++ws).toArray:=by simp
 by_cases hw:ws=[]
 ·exact concat_meets ⟨_,ho,rfl⟩ ⟨_,ho2,rfl⟩ noFill_tuple_add seq_tuple_add PySem.F.slot_tuple_add PySem.F.entry_tuple_add (PySem.F.args_tuple_add_2 _ _)
   (tuple_addW1 t b vs.toArray ws.toArray n n2 dd dd2 sl sl2 (by simpa using hv) (by simp [hw])) ⟨ho,ho2,h1 hw⟩
 ·refine concat_meets ⟨_,ho,rfl⟩ ⟨_,ho2,rfl⟩ noFill_tuple_add seq_tuple_add PySem.F.slot_tuple_add PySem.F.entry_tuple_add (PySem.F.args_tuple_add_2 _ _)
   (tuple_addW2 t b vs.toArray ws.toArray n n2 dd dd2 sl sl2 (by simpa using hv) (by simpa using hw) (by rw [List.size_toArray,List.size_toArray];exact hsz)) ⟨ho,ho2,?_⟩
  rw [e]
  exact h2 hw
def sIx (n d:Nat):Option Int→Nat
 | none=>d
 | some v=>if v < 0 then (v+(n:Int)).toNat else min v.toNat n
theorem j5 (n d:Nat):sIx n d none=d:=rfl
theorem gG (n d k:Nat):sIx n d (some (k:Int))=min k n:=by
 show (if (k:Int) < 0 then ((k:Int)+(n:Int)).toNat else min (k:Int).toNat n)=min k n
 rw [if_neg (by omega),Int.toNat_natCast]
theorem As (n d:Nat) (hd:d≤n) (o:Option Int):sIx n d o≤n:=by
 cases o with
 | none=>exact hd
 | some v=>
  show (if v < 0 then (v+(n:Int)).toNat else min v.toNat n)≤n
  by_cases hv:v < 0
  ·rw [if_pos hv];omega
  ·rw [if_neg hv];exact Nat.min_le_right _ _
theorem pS (v:Int) (n d:Nat):(if v < 0 then max (v+(n:Int)) 0 else min v (n:Int))=((sIx n d (some v):Nat):Int):=by
 show (if v < 0 then max (v+(n:Int)) 0 else min v (n:Int))=(((if v < 0 then (v+(n:Int)).toNat else min v.toNat n):Nat):Int)
 by_cases hv:v < 0
 ·simp only [if_pos hv];omega
 ·simp only [if_neg hv];omega
theorem qi (lo hi:Option Int) (n:Nat):Builtin.Slice.sliceAdjust lo hi 1 (n:Int)=(((sIx n 0 lo:Nat):Int),((sIx n n hi:Nat):Int)):=by
 have h1:¬((1:Int) < 0):=by omega
 unfold Builtin.Slice.sliceAdjust
 simp only [h1,if_false]
 refine Prod.ext ?_ ?_
 ·cases lo with
  | none=>rfl
  | some v=>exact pS v n 0
 ·cases hi with
  | none=>rfl
  | some v=>exact pS v n n
theorem qX (i j:Nat):Builtin.Slice.slicePlaces (i:Int) (j:Int) 1=j - i:=by
 unfold Builtin.Slice.slicePlaces
 have h1:(1:Int) > 0:=by omega
 simp only [h1,if_true,Int.ediv_one]
 split<;>omega
theorem kC {v:Value} {o:Option Int} {Q:Option Int→Shared→Prop} (p:IsPart v o) (h:Q o s):wpAny (model prog w) A (Builtin.Slice.slicePartIndex v) Q E s:=by
 cases p with
 | none=>exact slicePart_none h
 | int i t=>exact slicePart_int h
theorem fS {sl:Addr} {vl vu:Value} {lo hi:Option Int} {n:Nat} {Q:Int×Int×Nat→Shared→Prop} (hs:s.heap.IsSliceOf sl vl vu .none) (pl:IsPart vl lo) (pu:IsPart vu hi)
  (h:Q (((sIx n 0 lo:Nat):Int),1,sIx n n hi - sIx n 0 lo) s):wpAny (model prog w) A (Builtin.Slice.sliceApplied (.ref sl) (pure (n:Int))) Q E s:=by
 obtain ⟨os,hos,hcs,hds⟩:=id hs
 unfold Builtin.Slice.sliceApplied Builtin.Slice.sliceFields
 refine wpAny_bind (wpAny_bind (wpAny_field hos hds (x:=vl) rfl (wpAny_bind (wpAny_field hos hds (x:=vu) rfl (wpAny_bind (wpAny_field hos hds (x:=.none) rfl (wpAny_pure ?_)))))))
 refine wpAny_bind (slicePart_none ?_)
 show wpAny _ _ (if ((1:Int) == 0)=true then _ else _) _ _ s
 rw [if_neg (by decide)]
 refine wpAny_bind (kC pl (wpAny_bind (kC pu (wpAny_bind (wpAny_pure ?_)))))
 show wpAny _ _ (match Builtin.Slice.sliceAdjust lo hi 1 (n:Int) with | (lo,hi)=>pure (lo,(1:Int),Builtin.Slice.slicePlaces lo hi 1)) _ _ s
 rw [qi lo hi n]
 show wpAny _ _ (pure (((sIx n 0 lo:Nat):Int),(1:Int),Builtin.Slice.slicePlaces ((sIx n 0 lo:Nat):Int) ((sIx n n hi:Nat):Int) 1)) _ _ s
 rw [qX]
 exact wpAny_pure h
theorem vw (xs:Array Value) (i k:Nat):((List.range k).filterMap fun (m:Nat)=>xs[((i:Int)+(m:Int) * 1).toNat]?).toArray=((xs.toList.drop i).take k).toArray:=by
 have e:(fun (m:Nat)=>xs[((i:Int)+(m:Int) * 1).toNat]?)=fun m=>xs[i+m]?:=by
  funext m
  have:((i:Int)+(m:Int) * 1).toNat=i+m:=by omega
  rw [this]
 rw [e]
 have:=pick_run xs i k
 rw [List.filterMap_map] at this
 have e2:((fun x=>xs[x]?) ∘ fun x=>i+x)=fun m=>xs[i+m]?:=rfl
 rw [e2] at this
 rw [this]
theorem jD {t sl:Addr} {items:Array Value} {vl vu:Value} {lo hi:Option Int} {Q:Value→Shared→Prop} (ht:IsTup s.heap t items) (hs:s.heap.IsSliceOf sl vl vu .none) (pl:IsPart vl lo) (pu:IsPart vu hi)
    (hw:¬(sIx items.size 0 lo=0∧sIx items.size items.size hi=items.size))
    (h:Q (.ref s.heap.objs.size) { s with heap:=s.heap.push { cls:=.type "tuple",data:=.seq ((items.toList.drop (sIx items.size 0 lo)).take (sIx items.size items.size hi - sIx items.size 0 lo)).toArray } })
    (hsz:items.size≤sizeLine):wpAny (model prog w) A (getItem (.ref t) (.ref sl)) Q E s:=by
  have htake:sizeOk (.seq ((items.toList.drop (sIx items.size 0 lo)).take (sIx items.size items.size hi - sIx items.size 0 lo)).toArray):=by
    show ((items.toList.drop (sIx items.size 0 lo)).take (sIx items.size items.size hi - sIx items.size 0 lo)).toArray.size≤sizeLine
    rw [List.size_toArray,List.length_take,List.length_drop,Array.length_toList]
    omega
  have hj:sIx items.size items.size hi≤items.size:=As _ _ (Nat.le_refl _) hi
  obtain ⟨os,hos,hcs,hds⟩:=id hs
  have hTs:s.TypeIs (.ref sl) "slice":=⟨os,hos,hcs⟩
  unfold getItem
  try with_reducible refine wpAny_holding ?_
  first | refine wpAny_bind (wpAny_pure ?_) | skip
  refine wpAny_bind (wpAny_sequenceKey ht.typeIs (by decide) ?_)
  refine wpAny_bind (wpAny_callSpecial?_slot (name:=Str.ofString "__getitem__") ht.typeIs PyProof.Rows.slot_tuple_getitem
    (wpAny_call_entry PyProof.Rows.slot_tuple_getitem ht.typeIs entry_tuple_getitem ?_ (args_tuple_getitem _ _)))
  show wpAny _ _ (Builtin.Tuple.tupleItemsOf (.ref t)>>=_) _ _ s
  refine wpAny_bind (tupleItemsOf_ ht ?_)
  refine wpAny_bind (wpAny_typeOf hTs ?_)
  rw [if_pos (by decide)]
  refine wpAny_bind (fS hs pl pu ?_)
  have hno:¬((((sIx items.size 0 lo:Nat):Int) == 0 && (1:Int) == 1 && (sIx items.size items.size hi - sIx items.size 0 lo) == items.size)=true):=by
    intro q
    rw [Bool.and_eq_true,Bool.and_eq_true] at q
    have q1:((sIx items.size 0 lo:Nat):Int)=0:=eq_of_beq q.1.1
    have q2:sIx items.size items.size hi - sIx items.size 0 lo=items.size:=eq_of_beq q.2
    exact hw ⟨by omega,by omega⟩
  show wpAny _ _ (if (((sIx items.size 0 lo:Nat):Int) == 0 && (1:Int) == 1 && (sIx items.size items.size hi - sIx items.size 0 lo) == items.size)=true then _ else _) _ _ s
  rw [if_neg hno,vw]
  first
    | exact wpAny_bind (m:=Builtin.Tuple.tupleExact _) (wpAny_newObj_type (wpAny_pure ⟨_,rfl,wpAny_pure h⟩) htake)
    | exact wpAny_bind (m:=Builtin.Tuple.tupleExact _) (wpAny_newObj_type (wpAny_bind (wpAny_pure (wpAny_pure ⟨_,rfl,wpAny_pure h⟩))) htake)
    | exact wpAny_bind (wpAny_bind (m:=Builtin.Tuple.tupleExact _) (wpAny_newObj_type (wpAny_pure (wpAny_pure ⟨_,rfl,wpAny_pure h⟩)) htake))
    | exact wpAny_bind (wpAny_bind (m:=Builtin.Tuple.tupleExact _) (wpAny_newObj_type (wpAny_pure ⟨_,rfl,wpAny_pure h⟩) htake))
end
end HT
namespace L2
open PySem PySem.Spec PyProof.Rows
abbrev TO:=St→Hp→(Option Int→Hp→Prop)→Prop
def PO (X:Cx) (e:Option Expr) (t:TO):Prop:=
 ∀ (pins:List (Addr×Obj)) (s:Shared) (σ:St) (H:Hp) (Q:Option Int→Hp→Prop),Inv X pins σ H s→t σ H Q →
  wpAny (model X.prog X.w) X.A (evalPart e X.env) (fun u s'=>∃ o H',Inv X pins σ H' s'∧IsPart u o∧Q o H') X.xe s
def xq:TO:=fun _ H Q=>Q none H
def Dr (t:TE):TO:=fun σ H Q=>t σ H fun x H1=>∃ i,x=.int i∧Q (some i) H1
theorem intsAre_of {ns:List Int}:∀ {us:List Value},Vals (ns.map V.int) us→IntsAre us ns:=by
 induction ns with
 | nil=>intro us r;rw [List.map_nil] at r;cases r;exact .nil
 | cons n ns ih=>
  intro us r
  rw [List.map_cons] at r
  cases r with
  | cons r1 r2=>
   obtain ⟨t,e⟩:=r1
   subst e
   exact .cons n t (ih r2)
section
variable {X:Cx} {e:Expr} {te:TE} {lo hi:Option Expr} {tl th:TO} {pos p2:Pos}
theorem xS:PO X none xq:=by
 intro pins s σ H Q I h
 rw [evalPart_none]
 exact wpAny_pure ⟨none,H,I,.none,h⟩
theorem yu (h:PE X e te):PO X (some e) (Dr te):=by
 intro pins s σ H Q I hw
 rw [evalPart_some]
 refine thn (h pins s σ H _ I hw) fun u s1 ⟨x,H1,I1,r1,q1⟩=>?_
 obtain ⟨i,rfl,q⟩:=q1
 obtain ⟨t,rfl⟩:=r1
 exact ⟨some i,H1,I1,.int i t,q⟩
def SlR (X:Cx) (r:V→Option Int→Option Int→Hp→VK→Prop):Prop:=
 ∀ (pins:List (Addr×Obj)) (s:Shared) (σ:St) (H:Hp) (x:V) (v vl vu:Value) (lo hi:Option Int) (sl:Addr) (Q:VK),Inv X pins σ H s→RelV x v→s.heap.IsSliceOf sl vl vu .none→IsPart vl lo→IsPart vu hi→r x lo hi H Q →
  ∃ T id,typeLookup (.type T) "__getitem__"=pure (some (.builtin id))∧s.TypeIs v T∧wpAny (model X.prog X.w) X.A (getItem v (.ref sl)) (EP X pins σ Q) X.xe s
def tSl (r:V→Option Int→Option Int→Hp→VK→Prop) (te:TE) (tl th:TO):TE:=fun σ H Q=>te σ H fun x H1=>tl σ H1 fun l H2=>th σ H2 fun u H3=>r x l u H3 Q
theorem og {r:V→Option Int→Option Int→Hp→VK→Prop} (hr:SlR X r) (he:PE X e te) (hl:PO X lo tl) (hu:PO X hi th):PE X (.Subscript e (.Slice lo hi none p2) pos) (tSl r te tl th):=by
 intro pins s σ H Q I h
 refine Subscript_ (thn (he pins s σ H _ I h) fun v s1 ⟨x,H1,I1,r1,q1⟩=>?_)
 refine wpAny_Slice (thn (hl pins s1 σ H1 _ I1 q1) fun vl s2 ⟨l,H2,I2,pl,q2⟩=>thn (hu pins s2 σ H2 _ I2 q2) fun vu s3 ⟨u,H3,I3,pu,q3⟩=>?_)
 rw [evalPart_none]
 refine wpAny_pure ?_
 have I4:Inv X pins σ H3 { s3 with heap:=s3.heap.push { cls:=.type "slice",data:=.fields #[vl,vu,.none] } }:=I3.kept (t':=s3.toks) fun b ob q=>Heap.get?_push_of_some _ q
 obtain ⟨T,id,hT,ht,hg⟩:=hr pins { s3 with heap:=s3.heap.push { cls:=.type "slice",data:=.fields #[vl,vu,.none] } } σ H3 x v vl vu l u s3.heap.objs.size Q I4 r1 (Heap.IsSliceOf.new ..) pl pu q3
 show wpAny (model X.prog X.w) X.A (subscriptTail e (.Slice lo hi none p2) v (.ref s3.heap.objs.size)) (EP X pins σ Q) X.xe { s3 with heap:=s3.heap.push { cls:=.type "slice",data:=.fields #[vl,vu,.none] } }
 exact tail_any (ops:=[.ref s3.heap.objs.size,v]) ht hT hg (by with_unfolding_all rfl)
def fK (xs:List V) (lo hi:Option Int):List V:=(xs.drop (HT.sIx xs.length 0 lo)).take (HT.sIx xs.length xs.length hi - HT.sIx xs.length 0 lo)
theorem jG (xs:List V) (lo hi:Option Int):(fK xs lo hi).length≤xs.length:=by
 unfold fK
 rw [List.length_take,List.length_drop]
 omega
def Er (K:PySem.W.Frag):V→Option Int→Option Int→Hp→VK→Prop:=fun x lo hi H Q=>∃ a xs,x=.ref a∧SqT K H a xs ∧
 ¬(HT.sIx xs.length 0 lo=0∧HT.sIx xs.length xs.length hi=xs.length)∧∀ p,H p=none→Q (.ref p) (upd H p (.tup (fK xs lo hi)))
theorem Aw:SlR X (Er X.K):=by
 intro pins s σ H x v vl vu lo hi sl Q I rx hs pl pu h
 obtain ⟨a,xs,rfl,hx,hw,q⟩:=h
 cases rx
 obtain ⟨its,r,ht,hz⟩:=I.tuple hx
 have hlen:its.toArray.size=xs.length:=by rw [List.size_toArray];exact r.length.symm
 refine ⟨"tuple",_,PyProof.Rows.slot_tuple_getitem.lookup,ht.typeIs,?_⟩
 refine HT.jD ht hs pl pu (by rw [hlen];exact hw) ?_ (by rw [hlen];exact hz)
 rw [hlen]
 refine ⟨.ref s.heap.objs.size,_,I.laid (t':=s.toks) (o:=.tup (fK xs lo hi)) (fun b ob q=>Heap.get?_push_of_some _ q) (Nat.le_refl _) ?_,rfl,q _ (I.hok.fresh (Nat.le_refl _))⟩
 exact ⟨Nat.le_trans (jG xs lo hi) hz,_,(r.drop (HT.sIx xs.length 0 lo)).take (HT.sIx xs.length xs.length hi - HT.sIx xs.length 0 lo),IsTup.new _ _⟩
def DC (K:PySem.W.Frag):R2:=fun x y H Q=>∃ a b xs ys,x=.ref a∧y=.ref b∧SqT K H a xs∧SqT K H b ys∧xs≠[]∧xs.length+ys.length≤sizeLine ∧
 (ys=[]→Q (.ref a) H)∧(ys≠[]→∀ p,H p=none→Q (.ref p) (upd H p (.tup (xs++ys))))
theorem Vals.jo {xs:List V} {us:List Value} (r:Vals xs us):us=[]↔xs=[]:=by
 cases r with
 | nil=>simp
 | cons _ _=>simp
theorem yL:OpR X (binaryOp .Add) (DC X.K):=by
 intro pins s σ H x y v u Q I rx ry h
 obtain ⟨a,b,xs,ys,rfl,rfl,ha,hb,hx,hz,q1,q2⟩:=h
 cases rx
 cases ry
 obtain ⟨its,r1,p1,_⟩:=I.tuple ha
 obtain ⟨its2,r2,p2,_⟩:=I.tuple hb
 refine HT.yh p1 p2 (fun z=>hx (r1.jo.mp z)) (fun z=>⟨.ref a,H,I,rfl,q1 (r2.jo.mp z)⟩) (fun z=>?_) (by rw [← r1.length,← r2.length];exact hz)
 refine ⟨.ref s.heap.objs.size,_,I.laid (t':=s.toks) (o:=.tup (xs++ys)) (fun b ob q=>Heap.get?_push_of_some _ q) (Nat.le_refl _) ?_,rfl,q2 (fun w=>z (r2.jo.mpr w)) _ (I.hok.fresh (Nat.le_refl _))⟩
 exact ⟨by rw [List.length_append];exact hz,_,r1.append r2,IsTup.new _ _⟩
end
def ixN (n:Nat) (i:Int):Option Nat:=if 0≤i then (if i < n then some i.toNat else none) else if -(n:Int)≤i then some (i+n).toNat else none
def atI {α:Type} (xs:List α) (i:Int):Option α:=(ixN xs.length i).bind fun j=>xs[j]?
theorem pJ {n:Nat} {i:Int} {j:Nat} (h:ixN n i=some j):seqIndex? i n=some j∧j < n∧-(n:Int)≤i∧i < n:=by
 unfold ixN at h
 by_cases h0:0≤i
 ·rw [if_pos h0] at h
  by_cases h1:i < n
  ·rw [if_pos h1] at h
   have e:i.toNat=j:=Option.some.inj h
   exact ⟨by rw [seqIndex_of h0 h1,e],by omega,by omega,h1⟩
  ·rw [if_neg h1] at h;cases h
 ·rw [if_neg h0] at h
  by_cases h1:-(n:Int)≤i
  ·rw [if_pos h1] at h
   have e:(i+n).toNat=j:=Option.some.inj h
   exact ⟨by rw [seqIndex_neg (by omega) h1,e],by omega,h1,by omega⟩
  ·rw [if_neg h1] at h;cases h
theorem pq {α:Type} {xs:List α} {i:Int} {v:α} (h:atI xs i=some v):∃ j,seqIndex? i xs.length=some j∧xs[j]?=some v∧j < xs.length∧-(xs.length:Int)≤i∧i < xs.length:=by
 unfold atI at h
 cases e:ixN xs.length i with
 | none=>rw [e] at h;cases h
 | some j=>
  rw [e] at h
  obtain ⟨h1,h2,h3,h4⟩:=pJ e
  exact ⟨j,h1,h,h2,h3,h4⟩
def pH (b:Expr):Prop:=∀ o i,subscripted b false o i=operate [o,i] (getItem o i)
def IxR (X:Cx) (r:R2):Prop:=
 ∀ (value slice:Expr) (pins:List (Addr×Obj)) (s:Shared) (σ:St) (H:Hp) (x y:V) (v u:Value) (Q:VK),Inv X pins σ H s→RelV x v→RelV y u→r x y H Q →
  subscripted slice false v u=operate [v,u] (getItem v u)→wpAny (model X.prog X.w) X.A (subscriptTail value slice v u) (EP X pins σ Q) X.xe s
section
variable {X:Cx} {a b:Expr} {ta tb:TE} {pos:Pos}
theorem Cq {r:R2} (hr:IxR X r) (ha:PE X a ta) (hb:PE X b tb) (hs:pH b):PE X (.Subscript a b pos) (tOp r ta tb):=by
 intro pins s σ H Q I h
 exact Subscript_ (vi ha hb I h fun v u s2 x y H2 I2 rx ry q=>hr a b pins s2 σ H2 x y v u Q I2 rx ry q (hs _ _))
def Ee (K:PySem.W.Frag):R2:=fun x y H Q=>∃ p xs i v,x=.ref p∧y=.int i∧SqL K H p xs∧atI xs i=some v∧Q v H
def Ew (K:PySem.W.Frag):R2:=fun x y H Q=>∃ p xs i v,x=.ref p∧y=.int i∧SqT K H p xs∧atI xs i=some v∧Q v H
theorem yP:IxR X (Ee X.K):=by
 intro value slice pins s σ H x y v u Q I rx ry h hs
 obtain ⟨p,xs,i,z,rfl,rfl,hq,he,q⟩:=h
 cases rx
 obtain ⟨t,rfl⟩:=ry
 obtain ⟨its,r,pl,hz⟩:=I.list hq
 obtain ⟨j,h1,h2,h3,h4,h5⟩:=pq he
 obtain ⟨w,ew,rw'⟩:=r.get h2
 have hl:=r.length
 have hn:=iX
 have fin:EP X pins σ Q w s:=⟨z,H,I,rw',q⟩
 by_cases h0:0≤i
 ·have hj:i.toNat=j:=by
   rw [seqIndex_of h0 h5] at h1
   exact Option.some.inj h1
  exact item_listR pl.isList h0 (by omega) (by rw [hj];simpa using ew) fin hs
 ·have hj:(i+(its.toArray.size:Int)).toNat=j:=by
   rw [seqIndex_neg (by omega) h4] at h1
   rw [List.size_toArray,← hl]
   exact Option.some.inj h1
  exact subscriptTail_builtinR (x:=w) pl.isList.typeIs slot_list_getitem.lookup
   (wpAny_getItem_list_neg (Q:=fun r s'=>r=w∧EP X pins σ Q r s') pl.isList (by omega) (by rw [List.size_toArray]<;>omega) (by omega) (by rw [hj];simpa using ew) ⟨rfl,fin⟩) hs
theorem zR:IxR X (Ew X.K):=by
 intro value slice pins s σ H x y v u Q I rx ry h hs
 obtain ⟨p,xs,i,z,rfl,rfl,hq,he,q⟩:=h
 cases rx
 obtain ⟨t,rfl⟩:=ry
 obtain ⟨its,r,pl,hz⟩:=I.tuple hq
 obtain ⟨j,h1,h2,h3,h4,h5⟩:=pq he
 obtain ⟨w,ew,rw'⟩:=r.get h2
 have hl:=r.length
 have hn:=iX
 have fin:EP X pins σ Q w s:=⟨z,H,I,rw',q⟩
 exact subscriptTail_builtinR (x:=w) pl.typeIs slot_tuple_getitem.lookup
  (getItem_tuple (j:=j) (Q:=fun r s'=>r=w∧EP X pins σ Q r s') pl (by omega) (by omega) (by rw [List.size_toArray,← hl];exact h1) (by simpa using ew) ⟨rfl,fin⟩) hs
theorem qv (its:List Value) (n j:Nat) (u:Value):Obj.mapSeq (·.setIfInBounds j u) { cls:=.type "list",data:=.seq its.toArray n }={ cls:=.type "list",data:=.seq (its.set j u).toArray n }:=by
 simp [Obj.mapSeq]
theorem Inv.lst {pins:List (Addr×Obj)} {σ:St} {H:Hp} {s:Shared} {p:Addr} {xs:List V} (I:Inv X pins σ H s) (h:H p=some (.lst xs)) :
  ∃ (its:List Value) (n:Nat),Vals xs its∧s.heap.get? p=some { cls:=.type "list",data:=.seq its.toArray n }∧xs.length≤sizeLine:=by
 obtain ⟨z,its,n,r,e⟩:=I.hok p _ h
 exact ⟨its,n,r,e,z⟩
theorem Inv.Aa {pins:List (Addr×Obj)} {σ:St} {H:Hp} {s:Shared} {p:Addr} {xs ys:List V} {its its':List Value} {n n':Nat} {f:Obj→Obj} (I:Inv X pins σ H s) (h:H p=some (.lst xs))
  (ho:s.heap.get? p=some { cls:=.type "list",data:=.seq its.toArray n }) (hf:f { cls:=.type "list",data:=.seq its.toArray n }={ cls:=.type "list",data:=.seq its'.toArray n' }) (r:Vals ys its') (hz:ys.length≤sizeLine) (t:Nat) :
  Inv X pins σ (upd H p (.lst ys)) { s with heap:=s.heap.update p f,toks:=t }:=by
 have e:(s.heap.update p f).get? p=some { cls:=.type "list",data:=.seq its'.toArray n' }:=by
  rw [Heap.get?_update_self f ho (by rw [hf]<;>rfl),hf]
 refine I.write (x:=p) (e:=p) (by rw [h];trivial) (.inl rfl) (fun b u hb q=>(Heap.get?_update_other _ _ (Ne.symm hb)).trans q) ⟨_,e⟩ ?_
 exact ⟨hz,its',n',r,e⟩
def rl:V→V→V→Hp→(Hp→Prop)→Prop:=fun o i v H Q=>∃ p xs k j,o=.ref p∧i=.int k∧H p=some (.lst xs)∧ixN xs.length k=some j∧Q (upd H p (.lst (xs.set j v)))
theorem set_list:qG X rl:=by
 intro pins s σ H o i v ov iv u Q I ro ri rv h
 obtain ⟨p,xs,k,j,rfl,rfl,hp,hj,q⟩:=h
 cases ro
 obtain ⟨t,rfl⟩:=ri
 obtain ⟨its,n,r,ho,hz⟩:=I.lst hp
 obtain ⟨h1,h2,h3,h4⟩:=pJ hj
 have hl:=r.length
 have hn:=iX
 have I':Inv X pins σ (upd H p (.lst (xs.set j v))) { s with heap:=s.heap.update p (Obj.mapSeq (·.setIfInBounds j u)) }:=
  I.Aa hp ho (qv its n j u) (r.set rv j) (by rw [List.length_set];exact hz) s.toks
 by_cases h0:0≤k
 ·have hk:k.toNat=j:=by
   rw [seqIndex_of h0 h4] at h1
   exact Option.some.inj h1
  exact PySem.W.ki_setAt ho h0 (by omega) (by rw [List.size_toArray,← hl];exact h4) (by rw [hk];exact ⟨_,I',q⟩)
 ·have hk:(k+(its.toArray.size:Int)).toNat=j:=by
   rw [seqIndex_neg (by omega) h3] at h1
   rw [List.size_toArray,← hl]
   exact Option.some.inj h1
  exact PySem.W.ki_setBack ho (by omega) (by rw [List.size_toArray,← hl];exact h3) (by omega) (by rw [hk];exact ⟨_,I',q⟩)
theorem nv (lo hi:Option Int) (n:Nat):(sliceBounds lo hi none n).1=((HT.sIx n 0 lo:Nat):Int)∧(sliceBounds lo hi none n).2.1=((HT.sIx n n hi:Nat):Int)∧(sliceBounds lo hi none n).2.2=1:=by
 refine ⟨?_,?_,rfl⟩
 ·cases lo with
  | none=>simp [sliceBounds,HT.sIx]
  | some i=>
   simp only [sliceBounds,HT.sIx,Option.getD_none,show (1:Int) > 0 by decide,if_true]
   by_cases h:i < 0
   ·simp only [h,if_true]<;>omega
   ·simp only [h,if_false]<;>omega
 ·cases hi with
  | none=>simp [sliceBounds,HT.sIx]
  | some i=>
   simp only [sliceBounds,HT.sIx,Option.getD_none,show (1:Int) > 0 by decide,if_true]
   by_cases h:i < 0
   ·simp only [h,if_true]<;>omega
   ·simp only [h,if_false]<;>omega
theorem mv (its:List Value) (lo hi:Option Int):slicePick its.toArray lo hi none=((its.drop (HT.sIx its.length 0 lo)).take (HT.sIx its.length its.length hi - HT.sIx its.length 0 lo)).toArray:=by
 obtain ⟨h1,h2,h3⟩:=nv lo hi its.toArray.size
 unfold slicePick
 rw [h1,h2,h3]
 simp only [sliceRange_one,pick_run,List.size_toArray]<;>rfl
def Eu (K:PySem.W.Frag):V→Option Int→Option Int→Hp→VK→Prop:=fun x lo hi H Q=>∃ a xs,x=.ref a∧SqL K H a xs∧∀ p,H p=none→Q (.ref p) (upd H p (.lst (fK xs lo hi)))
theorem pN:SlR X (Eu X.K):=by
 intro pins s σ H x v vl vu lo hi sl Q I rx hs pl pu h
 obtain ⟨a,xs,rfl,hx,q⟩:=h
 cases rx
 obtain ⟨its,r,ht,hz⟩:=I.list hx
 have hlen:=r.length
 refine ⟨"list",_,slot_list_getitem.lookup,ht.isList.typeIs,?_⟩
 refine wpAny_getItem_list_slice ht.isList hs pl pu .none (by simp) ?_ (by rw [List.size_toArray]<;>omega)
 rw [mv,← hlen]
 refine ⟨.ref s.heap.objs.size,_,I.laid (t':=s.toks) (o:=.lst (fK xs lo hi)) (fun b ob q=>Heap.get?_push_of_some _ q) (Nat.le_refl _) ?_,rfl,q _ (I.hok.fresh (Nat.le_refl _))⟩
 exact ⟨Nat.le_trans (jG xs lo hi) hz,_,0,(r.drop (HT.sIx xs.length 0 lo)).take (HT.sIx xs.length xs.length hi - HT.sIx xs.length 0 lo),Heap.get?_push_size _ rfl⟩
def dE:V→Bool
 | .non=>true
 | .bl _=>true
 | .int _=>true
 | .str _=>true
 | _=>false
def eqV:V→V→Bool
 | .non,.non=>true
 | .bl a,.bl b=>a == b
 | .bl a,.int b=>(if a then 1 else 0) == b
 | .int a,.bl b=>a == (if b then 1 else 0)
 | .int a,.int b=>a == b
 | .str a,.str b=>a == b
 | _,_=>false
theorem iO {A:Around} {s:Shared} {y x:V} {u v:Value} (ry:RelV y u) (rx:RelV x v) (fy:dE y=true) (fx:dE x=true):SeqAt.EqAt A s u v (eqV y x):=by
 cases y with
 | non=>
  cases ry
  cases x with
  | non=>cases rx;exact SeqAt.EqAt.same _
  | bl b=>cases rx;exact SeqAt.EqAt.none_bool b
  | int b=>obtain ⟨t,rfl⟩:=rx;exact SeqAt.EqAt.none_int b t
  | str b=>obtain ⟨t,rfl⟩:=rx;exact SeqAt.EqAt.none_str b t
  | _=>exact absurd (show false=true from fx) Bool.false_ne_true
 | bl a=>
  cases ry
  cases x with
  | non=>cases rx;exact SeqAt.EqAt.bool_none a
  | bl b=>cases rx;exact SeqAt.EqAt.bool_bool a b
  | int b=>obtain ⟨t,rfl⟩:=rx;exact SeqAt.EqAt.bool_int a b t
  | str b=>obtain ⟨t,rfl⟩:=rx;exact SeqAt.EqAt.bool_str a b t
  | _=>exact absurd (show false=true from fx) Bool.false_ne_true
 | int a=>
  obtain ⟨t',rfl⟩:=ry
  cases x with
  | non=>cases rx;exact SeqAt.EqAt.int_none a t'
  | bl b=>cases rx;exact SeqAt.EqAt.int_bool a t' b
  | int b=>obtain ⟨t,rfl⟩:=rx;exact SeqAt.EqAt.int_int a t' b t
  | str b=>obtain ⟨t,rfl⟩:=rx;exact SeqAt.EqAt.int_str a t' b t
  | _=>exact absurd (show false=true from fx) Bool.false_ne_true
 | str a=>
  obtain ⟨t',rfl⟩:=ry
  cases x with
  | non=>cases rx;exact SeqAt.EqAt.str_none a t'
  | bl b=>cases rx;exact SeqAt.EqAt.str_bool a t' b
  | int b=>obtain ⟨t,rfl⟩:=rx;exact SeqAt.EqAt.str_int a t' b t
  | str b=>obtain ⟨t,rfl⟩:=rx;exact SeqAt.EqAt.str_str a t' b t
  | _=>exact absurd (show false=true from fx) Bool.false_ne_true
 | _=>exact absurd (show false=true from fy) Bool.false_ne_true
def eqU (x:V) (u:Value):Bool:=match u with
 | .none=>eqV .non x
 | .bool b=>eqV (.bl b) x
 | .int i _=>eqV (.int i) x
 | .str z _=>eqV (.str z) x
 | _=>false
theorem sY {x y:V} {u:Value} (r:RelV y u) (f:dE y=true):eqU x u=eqV y x:=by
 cases y with
 | non=>cases r;rfl
 | bl b=>cases r;rfl
 | int i=>obtain ⟨t,rfl⟩:=r;rfl
 | str z=>obtain ⟨t,rfl⟩:=r;rfl
 | _=>exact absurd (show false=true from f) Bool.false_ne_true
theorem gC {x:V}:∀ {xs:List V} {us:List Value},Vals xs us→xs.all dE=true→us.any (eqU x)=xs.any fun y=>eqV y x
 | _,_,.nil,_=>rfl
 | y :: xs,u :: us,.cons r t,f=>by
  rw [List.all_cons,Bool.and_eq_true] at f
  rw [List.any_cons,List.any_cons,sY r f.1,gC t f.2]
theorem fG {A:Around} {s:Shared} {x:V} {v:Value} (rx:RelV x v) (fx:dE x=true):∀ {xs:List V} {us:List Value},Vals xs us→xs.all dE=true→∀ u∈us,SeqAt.EqAt A s u v (eqU x u)
 | _,_,.nil,_=>fun u hu=>by cases hu
 | y :: xs,u :: us,.cons r t,f=>fun u' hu=>by
  rw [List.all_cons,Bool.and_eq_true] at f
  rcases List.mem_cons.mp hu with rfl | hu
  ·rw [sY r f.1];exact iO r rx f.1 fx
  ·exact fG rx fx t f.2 u' hu
def inV (x:V) (xs:List V):Bool:=xs.any fun y=>eqV y x
def rIn (K:PySem.W.Frag) (neg:Bool):R2:=fun x y H Q=>∃ p xs,y=.ref p∧(SqL K H p xs∨SqT K H p xs)∧dE x=true∧xs.all dE=true∧Q (.bl (if neg then !inV x xs else inV x xs)) H
theorem l6:OpR X (compareOp .In) (rIn X.K false):=by
 intro pins s σ H x y v u Q I rx ry h
 obtain ⟨p,xs,rfl,hq,fx,fs,q⟩:=h
 cases ry
 rcases hq with hq | hq
 ·obtain ⟨its,r,pl,hz⟩:=I.list hq
  refine SeqAt.in_listAt (eqU x) pl.isList (fun w hw=>fG rx fx r fs w (by simpa using hw)) ⟨.bl _,H,I,rfl,?_⟩
  rw [show its.toArray.any (eqU x)=its.any (eqU x) by simp,gC r fs]
  exact q
 ·obtain ⟨its,r,pl,hz⟩:=I.tuple hq
  refine SeqAt.in_tupleAt (eqU x) pl (fun w hw=>fG rx fx r fs w (by simpa using hw)) ⟨.bl _,H,I,rfl,?_⟩
  rw [show its.toArray.any (eqU x)=its.any (eqU x) by simp,gC r fs]
  exact q
theorem iU:OpR X (compareOp .NotIn) (rIn X.K true):=by
 intro pins s σ H x y v u Q I rx ry h
 obtain ⟨p,xs,rfl,hq,fx,fs,q⟩:=h
 cases ry
 rcases hq with hq | hq
 ·obtain ⟨its,r,pl,hz⟩:=I.list hq
  refine SeqAt.notIn_listAt (eqU x) pl.isList (fun w hw=>fG rx fx r fs w (by simpa using hw)) ⟨.bl _,H,I,rfl,?_⟩
  rw [show its.toArray.any (eqU x)=its.any (eqU x) by simp,gC r fs]
  exact q
 ·obtain ⟨its,r,pl,hz⟩:=I.tuple hq
  refine SeqAt.notIn_tupleAt (eqU x) pl (fun w hw=>fG rx fx r fs w (by simpa using hw)) ⟨.bl _,H,I,rfl,?_⟩
  rw [show its.toArray.any (eqU x)=its.any (eqU x) by simp,gC r fs]
  exact q
theorem bI.or {f:Value} {r r':List V→Hp→VK→Prop} (h:bI X f r) (h':bI X f r'):bI X f (fun xs H Q=>r xs H Q∨r' xs H Q):=by
 intro pins s σ H xs us Q I rs q
 rcases q with q | q
 ·exact h pins s σ H xs us Q I rs q
 ·exact h' pins s σ H xs us Q I rs q
theorem iP:bI X (.type "list") (fun xs H Q=>∃ p ys,xs=[.ref p]∧(SqL X.K H p ys∨SqT X.K H p ys)∧∀ l,H l=none→Q (.ref l) (upd H l (.lst ys))):=by
 intro pins s σ H xs us Q I r h
 obtain ⟨p,ys,rfl,hq,q⟩:=h
 obtain ⟨u,rfl,rx⟩:=vals1 r
 cases rx
 have fin:∀ (its:List Value),Vals ys its→ys.length≤sizeLine→∀ (h':Heap) (c':Nat),(∀ b o',s.heap.get? b=some o'→h'.get? b=some o') →
   h'.get? s.heap.objs.size=some { cls:=.type "list",dict:=none,data:=.seq its.toArray c',slots:=#[] }→EP X pins σ Q (.ref s.heap.objs.size) { s with heap:=h' }:=fun its r' hz h' c' kp e=>
  ⟨.ref s.heap.objs.size,_,I.laid (t':=s.toks) kp (Nat.le_refl _) (show bz X.prog X.w _ h' _ (.lst ys) from ⟨hz,its,c',r',e⟩),rfl,q _ (I.hok.fresh (Nat.le_refl _))⟩
 rcases hq with hq | hq
 ·obtain ⟨its,r',pl,hz⟩:=I.list hq
  have hlen:=r'.length
  obtain ⟨o,ho,hc,n,hd⟩:=pl.isList
  exact call_list_seq p (.inl rfl) ho hc hd (fun h' c' kp e=>fin its r' hz h' c' kp e) (by simp only [List.size_toArray]<;>omega)
 ·obtain ⟨its,r',pl,hz⟩:=I.tuple hq
  have hlen:=r'.length
  obtain ⟨o,ho,hc,n,hd⟩:=pl
  exact call_list_seq p (.inr rfl) ho hc hd (fun h' c' kp e=>fin its r' hz h' c' kp e) (by simp only [List.size_toArray]<;>omega)
theorem ir:bI X (.type "tuple") (fun xs H Q=>∃ p ys,xs=[.ref p]∧((SqL X.K H p ys∧∀ l,H l=none→Q (.ref l) (upd H l (.tup ys)))∨(SqT X.K H p ys∧Q (.ref p) H))):=by
 intro pins s σ H xs us Q I r h
 obtain ⟨p,ys,rfl,h⟩:=h
 obtain ⟨u,rfl,rx⟩:=vals1 r
 cases rx
 rcases h with ⟨hq,q⟩ | ⟨hq,q⟩
 ·obtain ⟨its,r',pl,hz⟩:=I.list hq
  have hlen:=r'.length
  refine call_tuple_list pl.isList (fun h' kp=>?_) (by simp only [List.size_toArray]<;>omega)
  have I1:Inv X pins σ H { s with heap:=h' }:=I.kept (t':=s.toks) kp
  have I2:Inv X pins σ (upd H h'.objs.size (.tup ys)) { s with heap:=h'.push { cls:=.type "tuple",data:=.seq its.toArray } }:=
   I1.laid (t':=s.toks) (fun b o e=>Heap.get?_push_of_some _ e) (Nat.le_refl _) (show bz X.prog X.w _ _ _ (.tup ys) from ⟨hz,its,r',IsTup.new _ _⟩)
  exact ⟨.ref h'.objs.size,_,I2,rfl,q _ (I1.hok.fresh (Nat.le_refl _))⟩
 ·obtain ⟨its,r',pl,hz⟩:=I.tuple hq
  exact call_tuple_same pl ⟨.ref p,H,I,rfl,q⟩
def tyV (K:PySem.W.Frag) (T:String) (x:V) (H:Hp):Prop:=match x with
 | .str _=>T="str"
 | .int _=>T="int"
 | .ref p=>(T="list"∧∃ xs,SqL K H p xs)∨(T="tuple"∧∃ o,K.lookup p=some o∧o.cls=.type "tuple"∧o.dict=none) ∨
   (T="dict"∧((∃ kvs,H p=some (.dK kvs))∨∃ kvs,H p=some (.dT kvs)))∨(T="set"∧∃ S n,H p=some (.set S n))
 | _=>False
theorem sD {pins:List (Addr×Obj)} {σ:St} {H:Hp} {s:Shared} {T:String} {x:V} {v:Value} (I:Inv X pins σ H s) (r:RelV x v) (ty:tyV X.K T x H) :
  s.TypeIs v T∧∀ a,v=.ref a→∃ ob,s.heap.get? a=some ob∧ob.dict=none:=by
 cases x with
 | str z=>
  obtain ⟨t,rfl⟩:=r
  cases (show T="str" from ty)
  exact ⟨typeIs_str s z t,fun _ e=>nomatch e⟩
 | int i=>
  obtain ⟨t,rfl⟩:=r
  cases (show T="int" from ty)
  exact ⟨typeIs_int s i t,fun _ e=>nomatch e⟩
 | ref p=>
  cases r
  rcases ty with ⟨rfl,xs,hq⟩ | ⟨rfl,o,hk,hc,hd⟩ | ⟨rfl,hk⟩ | ⟨rfl,S,n,hk⟩
  ·obtain ⟨its,_,pl,_⟩:=I.list hq
   refine ⟨pl.isList.typeIs,fun a e=>?_⟩
   cases e
   obtain ⟨o,n,e,c,hd,_⟩:=pl
   exact ⟨o,e,hd⟩
  ·refine ⟨⟨o,I.kIn p o hk,hc⟩,fun a e=>?_⟩
   cases e
   exact ⟨o,I.kIn _ o hk,hd⟩
  ·have z:∃ o,s.heap.get? p=some o∧o.ExactDict:=by
    rcases hk with ⟨kvs,hk⟩ | ⟨kvs,hk⟩
    ·obtain ⟨_,_,_,_,o,_,_,e,ex,_⟩:=I.hok p _ hk
     exact ⟨o,e,ex⟩
    ·obtain ⟨_,_,_,_,o,_,_,e,ex,_⟩:=I.hok p _ hk
     exact ⟨o,e,ex⟩
   obtain ⟨o,e,ex⟩:=z
   refine ⟨⟨o,e,ex.1⟩,fun a e2=>?_⟩
   cases e2
   exact ⟨o,e,ex.2.1⟩
  ·obtain ⟨o,_,_,_,e,ex,_⟩:=I.hok p _ hk
   refine ⟨⟨o,e,ex.1⟩,fun a e2=>?_⟩
   cases e2
   exact ⟨o,e,ex.2.1⟩
 | _=>exact False.elim ty
variable {o e:Expr} {es:List Expr} {to:TE} {t:TA} {name:Str} {apos cpos:Pos} {T id:String} {r:V→List V→Hp→VK→Prop}
end
def MtM (X:Cx) (id:String) (r:V→List V→Hp→VK→Prop):Prop:=
 ∀ (pins:List (Addr×Obj)) (s:Shared) (σ:St) (H:Hp) (x:V) (xs:List V) (v:Value) (us:List Value) (Q:VK),Inv X pins σ H s→RelV x v→Vals xs us→r x xs H Q →
  wpAny (model X.prog X.w) X.A (call (.builtin id) (v :: us)) (EP X pins σ Q) X.xe s
theorem Vals.one:∀ {x:V} {us:List Value},Vals [x] us→∃ u,us=[u]∧RelV x u
 | _,_,.cons r .nil=>⟨_,rfl,r⟩
theorem Vals.two:∀ {x y:V} {us:List Value},Vals [x,y] us→∃ u v,us=[u,v]∧RelV x u∧RelV y v
 | _,_,_,.cons r (.cons q .nil)=>⟨_,_,rfl,r,q⟩
theorem Vals.eraseIdx:∀ {xs:List V} {us:List Value} (i:Nat),Vals xs us→Vals (xs.eraseIdx i) (us.eraseIdx i)
 | _,_,_,.nil=>.nil
 | _,_,0,.cons _ t=>t
 | _,_,i+1,.cons r t=>.cons r (Vals.eraseIdx i t)
theorem lY {α:Type}:∀ (l:List α) (i:Nat),(l.eraseIdx i).length≤l.length
 | [],_=>Nat.le_refl _
 | _ :: _,0=>Nat.le_succ _
 | _ :: r,i+1=>Nat.succ_le_succ (lY r i)
section
variable {X:Cx} {pins:List (Addr×Obj)} {σ:St} {H:Hp} {s:Shared} {l b:Addr} {xs ys zs:List V}
theorem Inv.zC {its its':List Value} {n:Nat} {f:Array Value→Array Value} {t':Nat} (I:Inv X pins σ H s) (hH:H l=some (.lst xs))
  (e:s.heap.get? l=some { cls:=.type "list",data:=.seq its.toArray n }) (hf:f its.toArray=its'.toArray) (hv:Vals ys its') (hz:ys.length≤sizeLine) :
  Inv X pins σ (upd H l (.lst ys)) { s with heap:=s.heap.update l (Obj.mapSeq f),toks:=t' }:=by
 have q:=PySem.IsL.update e f
 rw [hf] at q
 refine I.write (x:=l) (e:=l) (by rw [hH];exact trivial) (.inl rfl) (fun b' u hb hu=>(Heap.get?_update_other s.heap (Obj.mapSeq f) (Ne.symm hb)).trans hu) ⟨_,q⟩ ?_
 exact ⟨hz,its',_,hv,q⟩
theorem Inv.ED {its:List Value} {t':Nat} (I:Inv X pins σ H s) (hv:Vals ys its) (hz:ys.length≤sizeLine) :
  Inv X pins σ (upd H s.heap.objs.size (.lst ys)) { s with heap:=s.heap.push { cls:=.type "list",data:=.seq its.toArray },toks:=t' }:=
 I.laid (fun _ _ q=>Heap.get?_push_of_some _ q) (Nat.le_refl _) ⟨hz,its,0,hv,Heap.get?_push_size _ rfl⟩
theorem Inv.fresh (I:Inv X pins σ H s):H s.heap.objs.size=none:=I.hok.fresh (Nat.le_refl _)
theorem Inv.qp (I:Inv X pins σ H s) (hH:H l=some (.lst xs)):xs.length≤sizeLine∧∃ (its:List Value) (n:Nat),Vals xs its∧xs.length=its.length∧s.heap.get? l=some { cls:=.type "list",data:=.seq its.toArray n }:=by
 obtain ⟨z,its,n,r,e⟩:=I.hok l _ hH
 exact ⟨z,its,n,r,r.length,e⟩
theorem nk {n:Nat} (h:n≤sizeLine):Builtin.List.listTooLong n=false:=by
 unfold Builtin.List.listTooLong
 exact decide_eq_false (by omega)
end
section
variable {X:Cx}
def yg:V→List V→Hp→VK→Prop:=fun x vs H Q=>∃ l xs y,x=.ref l∧vs=[y]∧H l=some (.lst xs)∧xs.length < sizeLine∧Q .non (upd H l (.lst (xs++[y])))
theorem mr:MtM X "list.append" yg:=by
 intro pins s σ H x vs v us Q I rx rv h
 obtain ⟨l,xs,y,rfl,rfl,hH,hz,q⟩:=h
 cases rx
 obtain ⟨u,rfl,ru⟩:=rv.one
 obtain ⟨z,its,n,r,hl,e⟩:=I.qp hH
 refine call_meets F.slot_list_append ⟨_,e,rfl⟩ F.entry_list_append (F.args_list_append_2 _ _) (PySem.list_append l its.toArray n u (by rw [List.size_toArray];omega)) ⟨e,?_⟩
 refine ⟨.non,_,I.zC (its':=its++[u]) hH e (by simp) (r.append (.cons ru .nil)) ?_,rfl,q⟩
 rw [List.length_append,List.length_singleton]
 omega
def sP:V→List V→Hp→VK→Prop:=fun x vs H Q=>∃ l xs i k y,x=.ref l∧vs=[.int i]∧H l=some (.lst xs)∧-(2 ^ 63)≤i∧i < 2 ^ 63∧seqIndex? i xs.length=some k∧xs[k]?=some y∧Q y (upd H l (.lst (xs.eraseIdx k)))
theorem nq:MtM X "list.pop" sP:=by
 intro pins s σ H x vs v us Q I rx rv h
 obtain ⟨l,xs,i,k,y,rfl,rfl,hH,h1,h2,hk,hy,q⟩:=h
 cases rx
 obtain ⟨u,rfl,ru⟩:=rv.one
 obtain ⟨t,rfl⟩:=ru
 obtain ⟨z,its,n,r,hl,e⟩:=I.qp hH
 obtain ⟨w,hw,rw'⟩:=r.get hy
 refine call_meets F.slot_list_pop ⟨_,e,rfl⟩ F.entry_list_pop (F.args_list_pop_2 _ _)
  (MeetsSeq.list_pop_at l its.toArray n i t k w (fitsIndex_both h1 h2) (by rw [List.size_toArray,← hl];exact hk) (by rw [← Array.getElem?_toList];exact hw) (by rw [List.size_toArray];omega)) ⟨e,?_⟩
 refine ⟨y,_,I.zC (its':=its.eraseIdx k) hH e ?_ (r.eraseIdx k) ?_,rw',q⟩
 ·show its.toArray.eraseIdxIfInBounds k=(its.eraseIdx k).toArray
  rw [List.eraseIdxIfInBounds_toArray]
 ·have:=lY xs k
  omega
def Et:R2:=fun x y H Q=>∃ l b xs zs,x=.ref l∧y=.ref b∧H l=some (.lst xs)∧H b=some (.lst zs)∧xs.length+zs.length≤sizeLine∧∀ p,H p=none→Q (.ref p) (upd H p (.lst (xs++zs)))
theorem AH:OpR X (binaryOp .Add) Et:=by
 intro pins s σ H x y v u Q I rx ry h
 obtain ⟨l,b,xs,zs,rfl,rfl,hH,hB,hz,q⟩:=h
 cases rx
 cases ry
 obtain ⟨z,its,n,r,hl,e⟩:=I.qp hH
 obtain ⟨z2,its2,n2,r2,hl2,e2⟩:=I.qp hB
 refine PySem.P.add_list e e2 ?_ (by rw [List.size_toArray,List.size_toArray];omega)
 have ea:its.toArray++its2.toArray=(its++its2).toArray:=by simp
 rw [ea]
 exact ⟨.ref _,_,I.ED (t':=s.toks) (r.append r2) (by rw [List.length_append];omega),rfl,q _ I.fresh⟩
end
section
variable {prog:Program} {w:World} {A:Around} {E:Value→Shared→Prop} {s:Shared}
theorem rM {a c n:Nat} (hac:a≤c) (hc:c≤n):sliceBounds (some (a:Int)) (some (c:Int)) none n=((a:Int),(c:Int),1):=by
 simp only [sliceBounds,Option.getD_none]
 have h1:¬((a:Int) < 0):=by omega
 have h2:¬((c:Int) < 0):=by omega
 simp only [h1,h2,if_false,show (1:Int) > 0 by decide,if_true]
 congr 1
 ·omega
 ·congr 1;omega
set_option maxRecDepth 100000 in
theorem yV {l b sl : Addr} {items new : Array Value} {n n2 : Nat} {vl vu : Value} {a c : Nat} {Q : Unit → Shared → Prop}
    (e : s.heap.get? l = some { cls := .type "list", data := .seq items n }) (e2 : s.heap.get? b = some { cls := .type "list", data := .seq new n2 }) (hne : l ≠ b)
    (hs : s.heap.IsSliceOf sl vl vu .none) (pl : IsPart vl (some (a : Int))) (pu : IsPart vu (some (c : Int))) (hac : a ≤ c) (hc : c ≤ items.size)
    (hsz : items.size + new.size ≤ sizeLine) (h : Q () { s with heap := s.heap.update l (Obj.mapSeq fun xs => xs.extract 0 a ++ new ++ xs.extract c xs.size) }) :
    wpAny (model prog w) A (setItem (.ref l) (.ref sl) (.ref b)) Q E s := by
  have hl : s.heap.IsList l items := PySem.IsL.isList e
  have hb : s.heap.IsList b new := PySem.IsL.isList e2
  obtain ⟨os, hos, hcs, hds⟩ := id hs
  have hTs : s.TypeIs (.ref sl) "slice" := ⟨os, hos, hcs⟩
  have hstep : ¬ ((rawPart none == rawInt 0) = true) := Bool.false_ne_true
  have hsame : Builtin.List.listSameRef (.ref l) (.ref b) = false := by
    unfold Builtin.List.listSameRef
    exact beq_eq_false_iff_ne.mpr hne
  have hmax : (max (a : Int) (c : Int)).toNat = c := by omega
  have hz' : ((fun xs : Array Value => xs.extract 0 a ++ new ++ xs.extract c xs.size) items).size ≤ sizeLine + 1 := by
    simp only [Array.size_append, Array.size_extract]
    omega
  unfold setItem
  try with_reducible refine wpAny_holding ?_
  first | refine wpAny_bind (wpAny_pure ?_) | skip
  refine wpAny_bind (wpAny_sequenceKey hl.typeIs (by decide) ?_)
  refine wpAny_bind (wpAny_callSpecial?_slot (name := Str.ofString "__setitem__") hl.typeIs slot_list_setitem
    (wpAny_call_entry slot_list_setitem hl.typeIs entry_list_setitem ?_ (args_list_setitem _ _ _)))
  show wpAny _ _ (Builtin.List.listSubscript? (.ref sl) >>= _) _ _ s
  refine wpAny_bind ?_
  unfold Builtin.List.listSubscript?
  refine wpAny_bind (wpAny_specialOf hTs slice_no_index ?_)
  simp only [Option.isNone_none, if_true]
  refine wpAny_pure ?_
  show wpAny _ _ (typeOf (.ref sl) >>= _) _ _ s
  refine wpAny_bind (wpAny_typeOf hTs ?_)
  first
    | rw [if_neg (by decide)]
    | refine PySem.W.KFB.if_not (by decide) ?_
  rw [listSliceParts_eq]
  refine wpAny_bind (wpAny_bind (wpAny_field hos hds (x := .none) rfl (wpAny_bind (wpAny_listPart .none ?_))))
  rw [if_neg hstep]
  refine wpAny_bind (wpAny_field hos hds (x := vl) rfl (wpAny_bind (wpAny_listPart pl ?_)))
  refine wpAny_bind (wpAny_field hos hds (x := vu) rfl (wpAny_bind (wpAny_listPart pu (wpAny_pure ?_))))
  first
    | simp only [hsame, Bool.false_eq_true, if_false]
    | refine PySem.W.KFB.if_not hsame ?_
    | (dsimp only
       rw [if_neg (by rw [hsame]; exact Bool.false_ne_true)])
  refine wpAny_bind (m := Builtin.List.listAllItems (.ref b) "must assign iterable to extended slice") ?_
  unfold Builtin.List.listAllItems
  refine wpAny_bind (wpAny_typeOf hb.typeIs ?_)
  first
    | refine PySem.W.KFB.if_so (by decide) ?_
    | rw [if_pos (by decide)]
    | simp only [beq_self_eq_true, Bool.true_or, if_true]
  unfold Builtin.List.listItems
  refine wpAny_bind (wpAny_seqItems e2 rfl (wpAny_pure ?_))
  refine wpAny_bind (wpAny_bind (wpAny_seqItems e rfl (wpAny_pure ?_)))
  refine wpAny_bind (wpAny_of_eq ((sliceIndices_raw (some (a : Int)) (some (c : Int)) none items.size (by simp)).trans (congrArg (pure : Int × Int × Int → Sem (Int × Int × Int)) (rM hac hc))) ?_)
  show wpAny _ _ (if ((1 : Int) == 1) = true then _ else _) _ _ s
  rw [if_pos (by decide)]
  refine wpAny_bind (wpAny_rule ?_)
  first
    | simp only [nk hsz, Bool.false_eq_true, if_false]
    | refine PySem.W.KFB.if_not (nk hsz) ?_
  first | refine wpAny_bind (wpAny_pure ?_) | skip
  show wpAny _ _ (updateSeq l (fun xs => xs.extract 0 ((a : Int)).toNat ++ new ++ xs.extract (max (a : Int) (c : Int)).toNat xs.size) >>= _) _ _ s
  rw [hmax, Int.toNat_natCast]
  refine wpAny_bind (wpAny_updateSeq (hz := Nat.le_trans (Nat.le_add_right _ _) hsz) (_hz' := hz') e rfl ?_)
  refine wpAny_bind (wpAny_letGo ?_)
  first
    | exact wpAny_bind (wpAny_pure (wpAny_pure ⟨.none, rfl, wpAny_pure h⟩))
    | exact wpAny_pure ⟨.none, rfl, wpAny_pure h⟩
end
end L2
namespace Att
open PySem PySem.W PySem.Calls PyProof.Rows
theorem ku {P:Params} {h:Heap}:∀ (ns:List Int) (vs:List Value),WellAll P h vs (ns.map WData.int)→IntsAre vs ns:=by
 intro ns
 induction ns with
 | nil=>
  intro vs w
  rw [List.map_nil] at w
  cases w
  exact .nil
 | cons n ns ih=>
  intro vs w
  rw [List.map_cons] at w
  cases w with
  | cons a b=>
   cases a
   exact .cons _ _ (ih _ b)
theorem sS {l:OpenLaw} {n:Nat} (hn:l.most=some n) {P:Params} {h:Heap} {args:List WData} {vals:List Value}
    (hpre:l.row.toRowW.claim.pre args=true) (hwl:WellAll P h vals args) :
    ∃ a vs ns,vals=[Value.ref a]∧args=[WData.list (ns.map WData.int)]∧h.get? a=some { cls:=.type "list",data:=.seq vs.toArray }∧IntsAre vs ns∧ns.length≤n:=by
  have hsh:WShape.hasAll [] args [.list .int]=true:=(pre_splitW hpre).1
  have hc:l.pre.holds [] { args:=args }=true:=(pre_splitW hpre).2
  obtain ⟨d,r,rfl,h1,h2⟩:=hasAllW_cons hsh
  obtain rfl:=hasAllW_nil h2
  obtain ⟨xs,rfl,h3⟩:=hasW_list h1
  obtain ⟨ns,rfl⟩:=items_int h3
  have hlen:ns.length≤n:=by
    unfold OpenLaw.pre at hc
    have h4:(WTm.not (.lt (.lit (.int (n:Int))) (.len (.arg 0)))).holds [] { args:=[.list (ns.map .int)] }=true:=by
      have h4:=(holds_andW hc).1
      rw [hn] at h4
      exact h4
    have h5:=condW_of h4 (w_not (w_lt w_lit (w_len_list (w_arg rfl))))
    rw [List.length_map] at h5
    refine Nat.le_of_not_lt fun q=>?_
    have q':(n:Int) < ((ns.length:Nat):Int):=by omega
    first
      | (rw [decide_eq_true q'] at h5;exact absurd h5 (by decide))
      | (simp at h5;omega)
  cases hwl with
  | cons w1 w2=>
    cases w2
    cases w1 with
    | list ho hall=>exact ⟨_,_,ns,rfl,rfl,ho,ku ns _ hall,hlen⟩
theorem tS (l:OpenLaw) (args:List WData):l.row.toRowW.claim.post args (.bool true) args=true:=
 postW_of (r:=l.row.toRowW) (X:=(true == true))
  (show WShape.has [] (.bool true) .bool=true by first | rfl | decide | simp [WShape.has,WShape.arms,WShape.armsAll])
  (show (WTm.eq .res (.lit (.bool true))).value [] { args:=args,res:=some (.bool true),after:=args }=some (.bool (true == true)) from w_eq_bool (w_res rfl) w_lit) rfl
theorem pb {l:OpenLaw} {n:Nat} {q:Program} {loose:List Str} {XP:(Str→Option Value)→Heap→Prop} {YP:World→Heap→Prop} {d:DefRec}
  (hn:l.most=some n) (hdf:d.params.defaults=[])
  (call:∀ (w:World) (s₀ s₁:Shared) (mg mb:Str→Option Value) (fa:Addr) (o:Obj) (pm cd doc:Value) (a:Addr) (vs:List Value) (ns:List Int),
   Ground q loose [] XP w s₀ mg mb s₁.heap→YP w s₁.heap →
   s₁.heap.get? fa=some o→o.data=.func (docDef d.name d.params d.body d.scope pm cd doc)→s₁.heap.CodeRec cd d.name→mg d.name=some (.ref fa) →
   s₁.heap.get? a=some { cls:=.type "list",data:=.seq vs.toArray }→IntsAre vs ns→ns.length≤n→s₁.gens=#[] →
   codeAny (model l.prog w) callerA (.call (.ref fa) ⟨[.ref a],[]⟩) (fun r s'=>r=.ok (.ret (.bool true))∧OldK s₁.heap s'.heap∧s'.os=s₁.os∧AllBare s'.gens) s₁) :
  WalkO q loose XP YP l.row.toRowW d [] (fun f vs=>PySem.call f vs):=by
 intro w s₀ s₁ mg mb G Y fa o pm cd doc dV kV ho hd hcd hD hmg hg args vals as hpre hlay hrd hwl hlo
 obtain rfl:dV=.none:=Dflts.none hD hdf
 obtain rfl:kV=.none:=Dflts.noKw hD
 obtain ⟨a,vs,ns,rfl,rfl,hobj,hints,hlen⟩:=sS hn hpre hwl
 refine enter_call (codeAny_mono (call w s₀ s₁ mg mb fa o pm cd doc a vs ns G Y ho (fd_plain hd) hcd hmg hobj hints hlen hg) fun r s' hq=>?_)
 obtain ⟨rfl,h2,h3,h4⟩:=hq
 exact ⟨.inl ⟨.bool true,.bool true,[],rfl,fun _=>rfl,.bool true,tS l _,fun _=>⟨List.Pairwise.nil,fun _ hm=>(nomatch hm)⟩⟩,h2,h3,h4⟩
end Att
namespace L2
open PySem PySem.Spec PyProof.Rows
theorem gc:∀ {vs:List Value} {ns:List Int},IntsAre vs ns→Vals (ns.map V.int) vs
 | _,_,.nil=>.nil
 | _,_,.cons n t h=>.cons ⟨t,rfl⟩ (gc h)
def vF (H:Hp):Prop:=∀ b,H b=none∨∃ o xs,H b=some (.frz o (.lst xs))
theorem vK {P:Program} {w:World} {K:PySem.W.Frag} {mg mb:Str→Option Value} {CX:CXT} {k:Nat} {fa a:Addr} {fd:FuncData} {x:Str} {sp:Sp} {s₁:Shared} {vs:List Value} {ns:List Int}
  (KX:K.In s₁.heap) (hns:s₁.heap.Ns mainGlobals mg) (hb:s₁.heap.Ns builtinsNs mb) (hbb:∀ x:Str,x≠"__name__"→mb x=bootBuiltins x) (hlim:s₁.heap.NoLimit) (hg:s₁.gens=#[])
  (ha:s₁.heap.get? a=some { cls:=.type "list",data:=.seq vs.toArray }) (hi:IntsAre vs ns) (hl:ns.length≤sizeLine) (hr:cE k callerA)
  (F:∀ base:Heap,K.In base→base.Ns mainGlobals mg→eB P w K mg base CX k fa fd [x] sp) (hbind:∀ (s:Shared) (u:Value),BindsTo s fd ⟨[u],[]⟩ [(x,u)])
  (hsp:∀ H:Hp,vF H→SqL K H a (ns.map V.int)→sp [.ref a] H (fun v _=>v=.bl true) fun _ _ _=>False)
  (hCX:∀ H e s',CX [] H s₁ (fun _ _ _=>False) e s'→False) :
  codeAny (model P w) callerA (.call (.ref fa) ⟨[.ref a],[]⟩) (fun r s'=>r=.ok (.ret (.bool true))∧OldK s₁.heap s'.heap∧s'.os=s₁.os∧AllBare s'.gens) s₁:=by
 have rv:=gc hi
 have lenV:=hi.length
 have core:∀ H:Hp,vF H→SqL K H a (ns.map V.int)→HOk P w H s₁.heap→(∀ b,H b≠none→b=a)→(H a≠none→K.lookup a=none) →
   codeAny (model P w) callerA (.call (.ref fa) ⟨[.ref a],[]⟩) (fun r s'=>r=.ok (.ret (.bool true))∧OldK s₁.heap s'.heap∧s'.os=s₁.os∧AllBare s'.gens) s₁:=by
  intro H hO hS hok hA hK
  have base_of:∀ {b:Addr} {o:Obj},s₁.heap.get? b=some o→H b=none→(ik s₁.heap H).get? b=some o:=fun e n=>vn e n
  have noA:∀ {b:Addr} {o:Obj} {es:Array DictEntry} {ep:Nat},s₁.heap.get? b=some o→o.data=.dict es ep→H b=none:=fun {b o es ep} e d=>by
   cases q:H b with
   | none=>rfl
   | some u=>
    have e':b=a:=hA b (by rw [q];simp)
    subst e'
    rw [ha] at e;cases e
    have d':Data.seq vs.toArray _=Data.dict es ep:=d
    cases d'
  have nsK:∀ {b:Addr} {m:Str→Option Value},s₁.heap.Ns b m→(ik s₁.heap H).Ns b m:=fun {b m} ⟨o,es,ep,e,d,r⟩=>⟨o,es,ep,base_of e (noA e d),d,r⟩
  have hKb:K.In (ik s₁.heap H):=fun b o e=>base_of (KX b o e) (by
   cases q:H b with
   | none=>rfl
   | some u=>
    have e':b=a:=hA b (by rw [q];simp)
    subst e'
    rw [hK (by rw [q];simp)] at e;cases e)
  have hM:Mod K mg (ik s₁.heap H):=⟨hKb,nsK hns,⟨mb,nsK hb,hbb⟩,let ⟨mc,h1,h2⟩:=hlim;⟨mc,nsK h1,h2⟩⟩
  have e0:qE P w K mg (ik s₁.heap H) callerA [] s₁ H:=⟨rfl,hM,fun b o e=>yf e,Nat.le_of_eq (rX _ _),trivial,fun b hb=>absurd (show b∈([]:List Addr) from hb) (by simp),hok,.of_eq hg⟩
  refine codeAny_mono ((F _ hKb (nsK hns)).run callerA [] s₁ H ⟨[.ref a],[]⟩ [.ref a] [.ref a] _ _ hr e0 (hbind s₁ (.ref a)) (.cons rfl .nil) (hsp H hO hS)) fun r s' h=>?_
  cases r with
  | error e=>exact (hCX H e s' h).elim
  | ok fl=>
   cases fl with
   | next=>exact False.elim h
   | brk=>exact False.elim h
   | cont=>exact False.elim h
   | ret u=>
    obtain ⟨v,H',os,bare,un,hok',r',q⟩:=h
    have q':v=.bl true:=q
    subst q'
    obtain rfl:u=Value.bool true:=r'
    refine ⟨rfl,OldK.of_keep fun b o e=>?_,os,bare⟩
    cases q:H b with
    | none=>exact un.keep b o e q (by intro z;exact absurd (show b∈([]:List Addr) from z) (by simp)) (by simp)
    | some u=>
     rcases hO b with z | ⟨ob,xs,z⟩
     ·rw [q] at z;cases z
     ·have z2:=un.frzs b ob _ z
      obtain ⟨e1,_⟩:=hok b _ z
      obtain ⟨e2,_⟩:=hok' b _ z2
      rw [e] at e1;cases e1
      exact e2
 cases hk:K.lookup a with
 | some o=>
  have e:=KX a o hk
  rw [ha] at e
  cases e
  refine core (fun _=>none) (fun _=>.inl rfl) (.inr ⟨_,vs.toArray,_,hk,rfl,rfl,rfl,by rw [List.size_toArray,lenV];exact hl,by simpa using rv⟩) (fun b u z=>by have z':(none:Option HO)=some u:=z;cases z') (fun b z=>absurd rfl z) fun z=>absurd rfl z
 | none=>
  refine core (fun b=>if b=a then some (.frz { cls:=.type "list",data:=.seq vs.toArray } (.lst (ns.map V.int))) else none) (fun b=>?_) (.inl (.inr ⟨{ cls:=.type "list",data:=.seq vs.toArray },if_pos rfl⟩)) (fun b u z=>?_) (fun b z=>?_) fun _=>hk
  ·by_cases hb:b=a
   ·exact .inr ⟨_,_,if_pos hb⟩
   ·exact .inl (if_neg hb)
  ·by_cases hb:b=a
   ·have z':=(if_pos hb).symm.trans z
    cases z'
    subst hb
    exact ⟨ha,by rw [List.length_map];exact hl,vs,_,rv,ha⟩
   ·have z':=(if_neg hb).symm.trans z
    cases z'
  ·by_cases hb:b=a
   ·exact hb
   ·exact absurd (if_neg hb) z
theorem yD {l:PySem.W.OpenLaw} {n k:Nat} {q:Program} {loose:List Str} {XP:(Str→Option Value)→Heap→Prop} {YP:World→Heap→Prop} {d:DefRec} {K:Params→PySem.W.Frag} {CX:World→CXT} {sp:World→Sp} {x:Str}
  (hn:l.most=some n) (hn2:n≤sizeLine) (hdf:d.params.defaults=[]) (hr:cE k callerA)
  (hY:∀ (w:World) (h:Heap),YP w h→(K w.params).In h)
  (F:∀ (w:World) (mg:Str→Option Value) (fa:Addr) (h:Heap),(K w.params).In h→h.Ns mainGlobals mg→mg d.name=some (.ref fa) →
   ∃ fd:FuncData,(∀ (s:Shared) (u:Value),BindsTo s fd ⟨[u],[]⟩ [(x,u)]) ∧
    ∀ base:Heap,(K w.params).In base→base.Ns mainGlobals mg→eB l.prog w (K w.params) mg base (CX w) k fa fd [x] (sp w))
  (hsp:∀ (w:World) (H:Hp) (a:Addr) (ns:List Int),ns.length≤n→vF H→SqL (K w.params) H a (ns.map V.int)→sp w [.ref a] H (fun v _=>v=.bl true) fun _ _ _=>False)
  (hCX:∀ (w:World) (H:Hp) (s:Shared) (e:Value) (s':Shared),CX w [] H s (fun _ _ _=>False) e s'→False) :
  PySem.W.WalkO q loose XP YP l.row.toRowW d [] (fun f vs=>PySem.call f vs):=by
 refine Att.pb hn hdf fun w s₀ s₁ mg mb fa o pm cd doc a vs ns G Y ho hd hcd hmg hobj hints hlen hg=>?_
 have KX:=hY w _ Y
 obtain ⟨fd,hb,hF⟩:=F w mg fa _ KX G.T.g hmg
 exact vK KX G.T.g G.T.b G.T.builtins G.T.nolimit hg hobj hints (Nat.le_trans hlen hn2) hr hF hb (fun H hO hS=>hsp w H a ns hlen hO hS) fun H e s'=>hCX w H s₁ e s'
def gJ (s:Stmt):Arguments:=match s with
 | .FunctionDef _ a _ _ _ _ _ _ _ _=>a
 | _=>{ posonlyargs:=[],args:=[],vararg:=none,kwonlyargs:=[],kw_defaults:=[],kwarg:=none,defaults:=[] }
def dO (s:Stmt):List Stmt:=match s with
 | .FunctionDef _ _ b _ _ _ _ _ _ _=>b
 | _=>[]
def bM (s:Stmt):Scope:=match s with
 | .FunctionDef _ _ _ _ _ _ sc _ _ _=>sc
 | _=>{ kind:=.function,names:=[],isGenerator:=false,isCoroutine:=false }
abbrev CX0:CXT:=fun _ _ _ _ _ _=>False
abbrev E0:XK:=fun _ _ _=>False
theorem CU {X:Cx}:Passes CX0 X E0:=fun _ _ _ _ _ _ _ h=>h.elim
structure Fun (K:PySem.W.Frag) (x qual:Str) (st:Stmt) (f:Addr) (fd:FuncData):Prop where
 ex:∃ (oc:Value) (od:Option Addr) (kV doc pm:Value) (an:Option Addr) (cdv ct:Value) (osl:Array (Option Value)),
  fd=PySem.W.fnOf x qual (gJ st) (dO st) (bM st) .none kV doc pm an cdv ct∧K.lookup f=some ⟨oc,od,.func fd,osl⟩∧PySem.W.codeIn K cdv qual=true
 kp:PySem.W.keepIn K (.ref f)=true
section
variable {P:Program} {w:World} {K:PySem.W.Frag} {mg:Str→Option Value} {base:Heap}
theorem Fun.ok {x qual:Str} {st:Stmt} {f:Addr} {fd:FuncData} {N ps:List Str} {k:Nat} {sp:Sp} (F:Fun K x qual st f fd) (S:gE N ps (bM st)) (len:∀ vs H Q E,sp vs H Q E→vs.length=ps.length)
  (hbody:∀ (cdv:Value) (A:Around) (outer:List Env) (s:Shared) (H:Hp) (vs:List V) (Q:VK) (E:XK),cE k (A.deeper (envOfC qual (bM st) s.heap.objs.size f cdv))→sp vs H Q E →
   ∃ t,PSs (jg CX0 P w K mg base N qual (bM st) f cdv A outer s H E).nox (dO st) t∧t { nx:=fun _ H'=>Q .non H',rt:=Q } (start N vs) H):eB P w K mg base CX0 (k+1) f fd ps sp:=by
 obtain ⟨oc,od,kV,doc,pm,an,cdv,ct,osl,rfl,lk,hcd⟩:=F.ex
 refine CJ lk hcd S len fun A outer s H vs Q E hr hsp=>?_
 obtain ⟨t,h,q⟩:=hbody cdv A outer s H vs Q E hr hsp
 exact ⟨t,h.nox,q⟩
theorem Br {x qual:Str} {st:Stmt} {f:Addr} {oc:Value} {od an:Option Addr} {osl:Array (Option Value)} {kV doc pm cdv ct:Value} (l:K.lookup f=some ⟨oc,od,.func (PySem.W.fnOf x qual (gJ st) (dO st) (bM st) .none kV doc pm an cdv ct),osl⟩)
  (c:PySem.W.codeIn K cdv qual=true) (k:PySem.W.keepIn K (.ref f)=true):Fun K x qual st f (PySem.W.fnOf x qual (gJ st) (dO st) (bM st) .none kV doc pm an cdv ct):=⟨⟨oc,od,kV,doc,pm,an,cdv,ct,osl,rfl,l,c⟩,k⟩
end
theorem jd {n:Nat} (h:n≤1000):n < sizeLine:=Nat.lt_of_le_of_lt h (by decide)
def dr (H H':Hp):Prop:=∀ b o,H b=some o→H' b=some o
def fO (env:Env):List (Str×NameKind)→List (Str×Addr)→List (Str×Addr)
 | [],acc=>acc
 | (n,k) :: r,acc=>fO env r (if k == .free then (n,(env.cells.lookup n).getD 0) :: acc else acc)
theorem gm {scope:Scope} {env:Env} (h:∀ y∈scope.names,y.2=.free→∃ c,env.cells.lookup y.1=some c):closureFor scope env=pure (fO env scope.names []):=by
 have all:∀ (l:List (Str×NameKind)) (acc:List (Str×Addr)),(∀ y∈l,y.2=.free→∃ c,env.cells.lookup y.1=some c) →
   (forIn l acc fun (x:Str×NameKind) (r:List (Str×Addr))=>match x with
    | (name,kind)=>if (kind == NameKind.free)=true then (do let a ← cellOf env name;pure (ForInStep.yield ((name,a) :: r))) else pure (ForInStep.yield r):Sem (List (Str×Addr)))=pure (fO env l acc):=by
  intro l
  induction l with
  | nil=>intro acc _;rfl
  | cons y r ih=>
   intro acc hl
   obtain ⟨n,k⟩:=y
   have hr:∀ y∈r,y.2=.free→∃ c,env.cells.lookup y.1=some c:=fun y hy=>hl y (List.mem_cons_of_mem _ hy)
   rw [List.forIn_cons]
   by_cases hk:k=.free
   ·subst hk
    obtain ⟨c,hc⟩:=hl _ List.mem_cons_self rfl
    have e:cellOf env n=pure c:=by unfold cellOf;rw [show env.cells.lookup n=some c from hc]
    simp only [beq_self_eq_true,if_true,e,pure_bind]
    rw [ih _ hr]
    simp only [fO,beq_self_eq_true,if_true,show env.cells.lookup n=some c from hc,Option.getD_some]
   ·have hb:(k == NameKind.free)=false:=by simpa using hk
    simp only [hb,Bool.false_eq_true,if_false,pure_bind]
    rw [ih _ hr]
    simp only [fO,hb,Bool.false_eq_true,if_false]
 have q:=all scope.names [] h
 unfold closureFor
 simp only [bind_pure] at q ⊢
 exact q
theorem m7 {env:Env}:∀ {l:List (Str×NameKind)} {acc:List (Str×Addr)} {x:Str} {c:Addr},(∀ y∈l,y.2=.free→∃ c,env.cells.lookup y.1=some c) →
  (∀ x c,(x,c)∈acc→env.cells.lookup x=some c)→(x,c)∈fO env l acc→env.cells.lookup x=some c
 | [],_,_,_,_,ha,h=>ha _ _ h
 | (n,k) :: r,acc,x,c,hl,ha,h=>by
  refine m7 (l:=r) (fun y hy=>hl y (List.mem_cons_of_mem _ hy)) (fun x c hm=>?_) h
  by_cases hk:(k == NameKind.free)=true
  ·rw [if_pos hk] at hm
   rcases List.mem_cons.mp hm with e | e
   ·cases e
    obtain ⟨c',hc⟩:=hl _ List.mem_cons_self (by simpa using hk)
    have hc':env.cells.lookup n=some c':=hc
    rw [hc'];rfl
   ·exact ha _ _ e
  ·rw [if_neg hk] at hm;exact ha _ _ hm
theorem cQ {env:Env} {l:List (Str×NameKind)} {x:Str} {c:Addr} (hl:∀ y∈l,y.2=.free→∃ c,env.cells.lookup y.1=some c) (h:(fO env l []).lookup x=some c):env.cells.lookup x=some c:=
 m7 hl (fun _ _ z=>absurd z (by simp)) (PySem.mem_of_lookup h)
theorem jP {env:Env}:∀ {l:List (Str×NameKind)} {acc:List (Str×Addr)} {x:Str},((x,NameKind.free)∈l∨∃ c,(x,c)∈acc)→∃ c,(x,c)∈fO env l acc
 | [],_,_,h=>h.elim (fun z=>absurd z (by simp)) fun z=>z
 | (n,k) :: r,acc,x,h=>by
  refine jP (l:=r) ?_
  rcases h with h | ⟨c,h⟩
  ·rcases List.mem_cons.mp h with e | e
   ·cases e
    exact .inr ⟨_,by rw [if_pos (by simp)];exact List.mem_cons_self⟩
   ·exact .inl e
  ·by_cases hk:(k == NameKind.free)=true
   ·exact .inr ⟨c,by rw [if_pos hk];exact List.mem_cons_of_mem _ h⟩
   ·exact .inr ⟨c,by rw [if_neg hk];exact h⟩
theorem dj {β:Type}:∀ {l:List (Str×β)} {x:Str} {c:β},(x,c)∈l→∃ c',l.lookup x=some c'
 | [],_,_,h=>nomatch h
 | (n,d) :: r,x,c,h=>by
  rw [List.lookup_cons]
  cases e:x == n with
  | true=>exact ⟨d,rfl⟩
  | false=>
   rcases List.mem_cons.mp h with q | q
   ·cases q;simp at e
   ·exact dj q
def bA (X:Cx) (scope:Scope) (N:List Str) (C:Addr) (s:Shared) (H:Hp) (fp:List Addr):Cx:=
 { X with N:=N,s₀:=s,H₀:=H,env:=compEnvC scope (fO X.env scope.names []) C X.env,outer:=X.stack,ex:=fp,fn:=fun _=>false,pn:=[],xe:=fun _ _=>False }
structure dc (esc scope:Scope) (EN N:List Str) (k:Nat):Prop where
 kind:scope.kind=.function
 nocell:∀ y∈scope.names,y.2≠.cell
 names:∀ y∈scope.names,y.2=.local→scope.names.lookup y.1=some .local
 frees:∀ y∈scope.names,y.2=.free→esc.names.lookup y.1=some .cell∨esc.names.lookup y.1=some .free
 len:N.length=k+EN.length
 nm:(((N.drop k).zip EN).all fun p=>(decide (p.1=p.2) && decide (scope.names.lookup p.1=some .free)) || decide (scope.names.lookup p.1=none))=true
theorem cb {scope:Scope} {env:Env} {x:Str} {k:NameKind}:∀ {l:List (Str×NameKind)},
  (l.map fun (n,k)=>if (k == NameKind.free && env.scope.kind == .function && env.kindOf n == some .cell) then (n,NameKind.cell) else (n,k)).lookup x=some k →
  l.lookup x=some k∨(l.lookup x=some .free∧k=.cell∧env.kindOf x=some .cell)
 | [],h=>by simp at h
 | (n,k') :: r,h=>by
  have ih:=@cb scope env x k r
  cases hx:x == n with
  | true=>
   have e:x=n:=by simpa using hx
   subst e
   by_cases hc:(k' == NameKind.free && env.scope.kind == .function && env.kindOf x == some .cell)=true
   ·simp only [List.map_cons,if_pos hc,List.lookup_cons,hx] at h
    cases h
    have hc2:(k'=.free∧env.scope.kind=.function)∧env.kindOf x=some .cell:=by simpa using hc
    exact .inr ⟨by simp [List.lookup_cons,hc2.1.1],rfl,hc2.2⟩
   ·simp only [List.map_cons,if_neg hc,List.lookup_cons,hx] at h
    exact .inl (by simpa [List.lookup_cons] using h)
  | false=>
   have h':(r.map fun (n,k)=>if (k == NameKind.free && env.scope.kind == .function && env.kindOf n == some .cell) then (n,NameKind.cell) else (n,k)).lookup x=some k:=by
    by_cases hc:(k' == NameKind.free && env.scope.kind == .function && env.kindOf n == some .cell)=true
    ·simpa only [List.map_cons,if_pos hc,List.lookup_cons,hx] using h
    ·simpa only [List.map_cons,if_neg hc,List.lookup_cons,hx] using h
   rw [List.lookup_cons,hx]
   exact ih h'
theorem i_ {scope:Scope} {env:Env} {x:Str}:∀ {l:List (Str×NameKind)},l.lookup x=some .free →
  (l.map fun (n,k)=>if (k == NameKind.free && env.scope.kind == .function && env.kindOf n == some .cell) then (n,NameKind.cell) else (n,k)).lookup x=some .cell ∨
  (l.map fun (n,k)=>if (k == NameKind.free && env.scope.kind == .function && env.kindOf n == some .cell) then (n,NameKind.cell) else (n,k)).lookup x=some .free
 | [],h=>by simp at h
 | (n,k') :: r,h=>by
  have ih:=@i_ scope env x r
  cases hx:x == n with
  | true=>
   by_cases hc:(k' == NameKind.free && env.scope.kind == .function && env.kindOf n == some .cell)=true
   ·exact .inl (by simp only [List.map_cons,if_pos hc,List.lookup_cons,hx])
   ·refine .inr ?_
    simp only [List.map_cons,if_neg hc,List.lookup_cons,hx]
    simpa only [List.lookup_cons,hx] using h
  | false=>
   have h':r.lookup x=some .free:=by simpa only [List.lookup_cons,hx] using h
   by_cases hc:(k' == NameKind.free && env.scope.kind == .function && env.kindOf n == some .cell)=true
   ·simpa only [List.map_cons,if_pos hc,List.lookup_cons,hx] using ih h'
   ·simpa only [List.map_cons,if_neg hc,List.lookup_cons,hx] using ih h'
section
variable {X:Cx} {pins:List (Addr×Obj)} {σ:St} {H:Hp} {s:Shared} {scope:Scope} {N:List Str} {k:Nat} {fp:List Addr}
theorem dc.cells (S:dc X.env.scope scope X.N N k) (ok:X.Ok):∀ y∈scope.names,y.2=.free→∃ c,X.env.cells.lookup y.1=some c:=fun y hy hf=>ok.has y.1 (S.frees y hy hf)
theorem Inv.yT {h4:Heap} {tk:Nat} (I:Inv X pins σ H s) (S:dc X.env.scope scope X.N N k) (hf:∀ b∈fp,eF X pins H b) (hlt:∀ b∈fp,b < s.heap.objs.size) (hn:h4.Ns s.heap.objs.size fun _=>none) (hk:∀ b o,s.heap.get? b=some o→h4.get? b=some o) :
  Inv (bA X scope N s.heap.objs.size s H fp) [] (List.replicate k none++σ) H { s with heap:=h4,toks:=tk }:=by
 have hcells:=S.cells I.ok
 have noA:∀ p:Addr×Obj,p∈(bA X scope N s.heap.objs.size s H fp).pn++[]→False:=fun p hp=>absurd (show p∈([]:List (Addr×Obj)) from hp) (by simp)
 refine ⟨⟨I.ok.mod,S.kind,I.ok.glob,I.ok.blt,Nat.le_refl _,fun y z c h1 h2=>?_,fun y hy=>?_,fun y c h=>?_,I.ok.hd,I.ok.frames,.inl rfl,fun b hb=>?_,I.bs,Nat.le_trans I.ok.bsz I.sz,fun b o e hb=>?_,fun b hb hz=>?_,I.stack,I.p9⟩,
  rfl,I.bare,Un.kept hk,⟨_,hn,fun i y v h1 h2 h3=>?_⟩,fun y c h=>?_,I.hok.fresh (Nat.le_refl _),fun y c h=>?_,fun p hp=>(noA p hp).elim,I.hok.kept hk,?_⟩
 ·exact I.ok.inj y z c (cQ hcells h1) (cQ hcells h2)
 ·have hy:(relabel scope X.env).names.lookup y=some .cell∨(relabel scope X.env).names.lookup y=some .free:=hy
  have hfree:scope.names.lookup y=some .free:=by
   rcases hy with q | q
   ·rcases cb (scope:=scope) q with q | ⟨q,_⟩
    ·exact absurd rfl (S.nocell _ (PySem.mem_of_lookup q))
    ·exact q
   ·rcases cb (scope:=scope) q with q | ⟨q,z,_⟩
    ·exact q
    ·cases z
  obtain ⟨c,hc⟩:=jP (env:=X.env) (l:=scope.names) (acc:=[]) (.inl (PySem.mem_of_lookup hfree))
  exact dj hc
 ·exact absurd h (by show ¬(false=true);decide)
 ·obtain ⟨f0,f1,f2,f3,f4,f5⟩:=hf b hb
  exact ⟨Nat.ne_of_lt (hlt b hb),fun x c h=>f4 x c (cQ hcells h)⟩
 ·obtain ⟨f0,f1,f2,f3,f4,f5⟩:=hf b hb
  rcases f3 with q | q
  ·exact I.ok.noex b o e q
  ·exact absurd (Nat.lt_of_lt_of_le (Heap.lt_size (I.ok.bs b o e).1) q) (Nat.lt_irrefl _)
 ·obtain ⟨f0,f1,f2,f3,f4,f5⟩:=hf b hb
  rcases List.mem_cons.mp (I.kH b hz) with z | z
  ·exact f1 z
  ·exact f2 z
 ·
  have hi:k≤i:=by
   refine Nat.le_of_not_lt fun q=>?_
   rw [List.getElem?_append_left (by simpa using q),List.getElem?_replicate] at h2
   split at h2<;>cases h2
  obtain ⟨j,rfl⟩:=Nat.exists_eq_add_of_le hi
  have h2':σ[j]?=some (some v):=by
   rw [List.getElem?_append_right (by simp)] at h2
   simpa using h2
  have hy:(relabel scope X.env).names.lookup y=some .local∨(relabel scope X.env).names.lookup y=some .cell∨(relabel scope X.env).names.lookup y=some .free:=h3
  have hjn:j < X.N.length:=by
   have:=(List.getElem?_eq_some_iff.mp h2').1
   rw [I.len] at this
   exact this
  have hyn:N[k+j]?=some y:=h1
  have hnm:=List.all_eq_true.mp S.nm (y,X.N[j]) (by
   refine List.mem_iff_getElem?.mpr ⟨j,?_⟩
   rw [List.getElem?_zip_eq_some]
   exact ⟨by rw [List.getElem?_drop];exact hyn,by simp [hjn]⟩)
  have hvis:scope.names.lookup y≠none:=by
   rcases hy with q | q | q
   ·rcases cb (scope:=scope) q with q | ⟨q,_⟩<;>rw [q]<;>simp
   ·rcases cb (scope:=scope) q with q | ⟨q,_⟩<;>rw [q]<;>simp
   ·rcases cb (scope:=scope) q with q | ⟨q,_⟩<;>rw [q]<;>simp
  have hnm2:y=X.N[j]∧scope.names.lookup y=some .free:=by
   rcases (Bool.or_eq_true _ _).mp hnm with q | q
   ·exact ⟨of_decide_eq_true ((Bool.and_eq_true _ _).mp q).1,of_decide_eq_true ((Bool.and_eq_true _ _).mp q).2⟩
   ·exact absurd (of_decide_eq_true q) hvis
  obtain ⟨hyj,hfree⟩:=hnm2
  have hk2:=S.frees _ (PySem.mem_of_lookup hfree) rfl
  have hvis2:Vis X.env.scope y:=.inr hk2
  obtain ⟨m,hm,hl⟩:=I.loc
  obtain ⟨u,ru,lk⟩:=hl j y v (by rw [hyj];simp [hjn]) h2' hvis2
  refine ⟨u,ru,?_⟩
  rcases lk with ⟨q,_⟩ | ⟨_,c,hc,hcell⟩
  ·rcases hk2 with z | z
   ·exact absurd (q.symm.trans (show X.env.kindOf y=some .cell from z)) (by simp)
   ·exact absurd (q.symm.trans (show X.env.kindOf y=some .free from z)) (by simp)
  ·refine .inr ⟨i_ (scope:=scope) hfree,c,?_,hcell.keeps hk⟩
   obtain ⟨c',hc'⟩:=jP (env:=X.env) (l:=scope.names) (acc:=[]) (.inl (PySem.mem_of_lookup hfree))
   obtain ⟨c2,hc2⟩:=dj hc'
   have q:=cQ hcells hc2
   rw [hc] at q;cases q
   exact hc2
 ·obtain ⟨v,q⟩:=I.cell y c (cQ hcells h)
  exact ⟨v,q.keeps hk⟩
 ·exact I.freeC y c (cQ hcells h)
 ·show (List.replicate k none++σ).length=N.length
  rw [List.length_append,List.length_replicate,S.len,I.len]
end
section
variable {prog:Program} {w:World} {A:Around} {R:Result→Shared→Prop} {s:Shared}
theorem fD {env:Env} {R:Value→Shared→Prop}:∀ (x:Value) (s':Shared),False→notedBy (model prog w) A env R x s':=fun _ _ h=>h.elim
theorem ny {elt target iter:Expr} {ifs:List Expr} {scope:Scope} {pos:Pos} {it acc:Value} {env:Env} (I:Nat→Shared→Prop)
  (turn:∀ n s,I n s→wpAny (model prog w) A (pyNext it) (fun r s₁=>match r with
   | none=>R (.ok .next) s₁
   | some v=>wpAny (model prog w) A (letOwnedTupleGo target it v) (fun _ s₁'=>wpAny (model prog w) A (assign target env v) (fun _ s₂=>
     wpAny (model prog w) A (forIn ifs true fun c r=>if r=true then do let ok ← isTrue c env (eval c env);pure (ForInStep.yield ok) else pure (ForInStep.yield r)) (fun ok s₃=>
      if ok=true then wpAny (model prog w) A (eval elt env) (fun x s₄=>
       wpAny (model prog w) A (call (.builtin "list.append") [acc,x]) (fun _ s₅=>∃ m,m < n∧I m s₅) (fun _ _=>False) s₄) (fun _ _=>False) s₃
      else ∃ m,m < n∧I m s₃) (fun _ _=>False) s₂) (fun _ _=>False) s₁') (fun _ _=>False) s₁) (fun _ _=>False) s)
  (n:Nat) (h:I n s) :
  codeAny (model prog w) A (.compLoop (.ListComp elt [⟨target,iter,ifs,0⟩] scope pos) 0 it acc env) R s:=by
 refine codeAny_loop rfl I (fun n s hI=>?_) n h
 show wpAny _ A ((compTurn (.ListComp elt [⟨target,iter,ifs,0⟩] scope pos) 0 it acc env).onRaise (fun x=>do noteFrame x env;theTreesLotGoes x)) _ _ s
 refine wpAny_noted ?_
 rw [compTurn_list]
 refine wpAny_bind (wpAny_standAt (wpAny_bind (wpAny_mono (turn n s hI) (fun r s₁ h₁=>?_) fD)))
 cases r with
 | none=>exact wpAny_pure h₁
 | some v=>
  refine wpAny_bind (wpAny_mono h₁ (fun _ s₁' h₁'=>?_) fD)
  refine wpAny_bind (wpAny_mono h₁' (fun _ s₂ h₂=>wpAny_bind (wpAny_mono h₂ (fun ok s₃ h₃=>?_) fD)) fD)
  cases ok with
  | false=>exact wpAny_pure ⟨rfl,h₃⟩
  | true=>
   exact wpAny_bind (wpAny_bind (wpAny_mono h₃ (fun x s₄ h₄=>wpAny_bind (wpAny_mono h₄ (fun _ s₅ h₅=>wpAny_pure (wpAny_pure ⟨rfl,h₅⟩)) fD)) fD))
end
def PTs (X:Cx) (ifs:List Expr) (t:TT):Prop:=
 ∀ (pins:List (Addr×Obj)) (s:Shared) (σ:St) (H:Hp) (Q:Bool→Hp→Prop),Inv X pins σ H s→t σ H Q →
  wpAny (model X.prog X.w) X.A (forIn ifs true fun c r=>if r=true then do let ok ← isTrue c X.env (eval c X.env);pure (ForInStep.yield ok) else pure (ForInStep.yield r)) (TP X pins σ Q) X.xe s
def EE:TT:=fun _ H Q=>Q true H
theorem yj {X:Cx}:PTs X [] EE:=fun _ _ _ H _ I h=>wpAny_tests_nil ⟨H,I,h⟩
theorem xQ {X:Cx} {c:Expr} {t:TT} (h:PT X c t):PTs X [c] t:=fun pins s σ H Q I q=>wpAny_tests_one (h pins s σ H Q I q)
def LCW (J:It) (g:TG) (tt:TT) (te:TE) (k:Nat) (D:Addr) (σ:St) (H1:Hp) (Q:Hp→Prop):Prop:=
 ∃ W:Nat→Nat→St→Hp→Prop,(∃ m,W 0 m (List.replicate k none++σ) (upd H1 D (.lst [])))∧∀ i m σ' H',W i m σ' H' →
  (J.stop i H'∧Q H')∨(J.go i H'∧∃ N:St→Hp→Prop,(∀ σ2 H2,N σ2 H2→∃ m',m' < m∧W (i+1) m' σ2 H2) ∧
   ∀ x H2,J.yld i H' x H2→g x σ' H2 fun σ3 H3=>tt σ3 H3 fun b H4=>if b=true then te σ3 H4 fun v H5=>∃ xs,H5 D=some (.lst xs)∧xs.length < sizeLine∧N σ3 (upd H5 D (.lst (xs++[v]))) else N σ3 H4)
def tLC (wi:TI) (g:TG) (tt:TT) (te:TE) (k:Nat):TE:=fun σ H Q=>wi σ H fun J H1=>∀ D,H1 D=none→LCW J g tt te k D σ H1 fun H2=>Q (.ref D) H2
section
variable {X:Cx} {tg elt iter:Expr} {ifs:List Expr} {scope:Scope} {pos:Pos} {wi:TI} {g:TG} {tt:TT} {te:TE} {N:List Str} {k:Nat}
theorem nU {pins:List (Addr×Obj)} {σ:St} {H2:Hp} {s2:Shared} {it:Addr} {fp:List Addr} {tn:Nat→Heap→Prop} {J:It} {E:Value→Shared→Prop} {QD:Addr→Hp→Prop} {RR:Value→Addr→Result→Shared→Prop}
  (hc:X.calm=true) (S:dc X.env.scope scope X.N N k) (hg:∀ C s H fp,PG (bA X scope N C s H fp) tg g) (ht:∀ C s H fp,PTs (bA X scope N C s H fp) ifs tt) (he:∀ C s H fp,PE (bA X scope N C s H fp) elt te)
  (I2:Inv X pins σ H2 s2) (T:Turn X.prog X.w X.K tg J fp it tn) (st2:tn 0 s2.heap) (f2:∀ b∈fp,eF X pins H2 b) (q:∀ D,H2 D=none→LCW J g tt te k D σ H2 (QD D))
  (hRR:∀ (D C:Addr) (s':Shared) (H':Hp) (m:Str→Option Value),s2.heap.objs.size < C→Inv X pins σ H' s'→s'.heap.Ns C m→H' C=none→C≠X.env.locals→C∉X.fs→X.s₀.heap.objs.size≤C→(∀ x c,X.env.cells.lookup x=some c→c≠C)→(∀ p∈X.pn++pins,p.1≠C)→QD D H'→RR (.ref D) C (.ok .next) s') :
  wpAny (model X.prog X.w) X.A (newList []) (fun acc s₃=>wpAny (model X.prog X.w) X.A (newFunctionEnv scope X.env.globals (fO X.env scope.names []) [] X.env.qual none .none (some X.env)) (fun cenv s₄=>
   codeAny (model X.prog X.w) X.A (.compStart (.ListComp elt [⟨tg,iter,ifs,0⟩] scope pos) 0 (.ref it) acc { cenv with scope:=relabel scope X.env }) (RR acc cenv.locals) s₄) E s₃) E s2:=by
 have hD:H2 s2.heap.objs.size=none:=I2.hok.fresh (Nat.le_refl _)
 obtain ⟨W,⟨m0,w0⟩,turn⟩:=q _ hD
 refine wpAny_newObj_type ?_
 have I3:Inv X pins σ (upd H2 s2.heap.objs.size (.lst [])) { s2 with heap:=s2.heap.push { cls:=.type "list",dict:=none,data:=.seq ([]:List Value).toArray } }:=by
  refine I2.laid (t':=s2.toks) (fun b u e=>Heap.get?_push_of_some _ e) (Nat.le_refl _) ?_
  exact ⟨Nat.zero_le _,[],0,.nil,Heap.get?_push_size _ rfl⟩
 have k3:∀ b o,s2.heap.get? b=some o→(s2.heap.push { cls:=.type "list",dict:=none,data:=.seq ([]:List Value).toArray }).get? b=some o:=fun b o e=>Heap.get?_push_of_some _ e
 generalize hs3:({ s2 with heap:=s2.heap.push { cls:=.type "list",dict:=none,data:=.seq ([]:List Value).toArray } }:Shared)=s3 at I3 ⊢
 have hsz:s3.heap.objs.size=s2.heap.objs.size+1:=by rw [← hs3];exact Heap.size_push ..
 have k3':∀ b o,s2.heap.get? b=some o→s3.heap.get? b=some o:=by rw [← hs3];exact k3
 generalize hDe:s2.heap.objs.size=D at *
 have fpD:∀ b∈fp,b < D:=fun b hb=>by
  obtain ⟨o,e,_⟩:=T.obj _ _ st2 b hb
  rw [← hDe];exact Heap.lt_size e
 have f3:∀ b∈fp,eF X pins (upd H2 D (.lst [])) b:=fun b hb=>by
  refine ⟨?_,(f2 b hb).2⟩
  rw [aD (Nat.ne_of_lt (fpD b hb))]
  exact (f2 b hb).1
 refine wpAny_newFunctionEnv S.nocell (by intro y hy;simp at hy) (fun h4 hn4 hs4=>?_) S.kind
 try dsimp only at hn4 hs4 ⊢
 have k4:∀ b o,s3.heap.get? b=some o→h4.get? b=some o:=fun b o e=>hs4.extBut b o (Nat.ne_of_lt (Heap.lt_size e)) (Heap.get?_push_of_some _ e)
 have I4:=I3.yT (h4:=h4) (tk:=s3.toks+0) S f3 (fun b hb=>by rw [hsz];exact Nat.lt_succ_of_lt (fpD b hb)) hn4 k4
 have st4:tn 0 h4:=T.keep _ _ _ st2 fun b hb o e=>k4 b o (k3' b o e)
 have fr4:∀ b∈fp,(upd H2 D (.lst [])) b=none:=fun b hb=>(f3 b hb).1
 generalize hC:s3.heap.objs.size=C at *
 have hX:∀ (H':Hp),(∀ b∈fp,H' b=none)→∀ b∈fp,eF (bA X scope N C s3 (upd H2 D (.lst [])) fp) [] H' b:=fun H' hn b hb=>by
  obtain ⟨g0,g1,g2,g3,g4,g5⟩:=f3 b hb
  refine ⟨hn b hb,?_,?_,.inl hb,?_,fun p hp=>absurd (show p∈([]:List (Addr×Obj)) from hp) (by simp)⟩
  ·exact Nat.ne_of_lt (Nat.lt_of_lt_of_eq (Nat.lt_succ_of_lt (fpD b hb)) hsz.symm)
  ·intro z
   rcases List.mem_cons.mp (I3.kH b z) with z | z
   ·exact g1 z
   ·exact g2 z
  ·intro x c h
   exact g4 x c (cQ (S.cells I3.ok) h)
 have fin:∀ (s':Shared) (σ':St) (H':Hp),Inv (bA X scope N C s3 (upd H2 D (.lst [])) fp) [] σ' H' s'→QD D H'→RR (.ref D) C (.ok .next) s':=by
  intro s' σ' H' I' qd
  obtain ⟨m,hm,_⟩:=id I'.loc
  have IX:Inv X pins σ H' s':=by
   refine I3.BZ (s':=s') (ch:=fp) I'.os I'.base I'.hok I'.bare fun b hb=>?_
   obtain ⟨g0,g1,g2,g3,g4,g5⟩:=f3 b hb
   exact ⟨g3,g1,g4,g5⟩
  have hlt:=I3.lt
  rw [hC] at hlt
  refine hRR D C s' H' m (Nat.lt_of_lt_of_eq (Nat.lt_succ_self D) hsz.symm) IX hm I'.free (Nat.ne_of_gt hlt) (I3.By (Nat.le_of_eq hC)) (Nat.le_trans I3.sz (Nat.le_of_eq hC)) (fun x c e z=>?_) (fun p hp z=>?_) qd
  ·obtain ⟨v,hv⟩:=I3.cell x c e
   have q:=hv.lt
   rw [hC,z] at q
   exact Nat.lt_irrefl _ q
  ·have q:=Heap.lt_size (I3.pin p hp).1
   rw [hC,z] at q
   exact Nat.lt_irrefl _ q
 have loop:∀ s₀:Shared,s₀={ s3 with heap:=h4,toks:=s3.toks+([]:List (Str×Value)).length } →
   codeAny (model X.prog X.w) X.A (.compLoop (.ListComp elt [⟨tg,iter,ifs,0⟩] scope pos) 0 (.ref it) (.ref D) (compEnvC scope (fO X.env scope.names []) C X.env)) (RR (.ref D) C) s₀:=by
  rintro s₀ rfl
  refine ny (fun n s'=>∃ i σ' H',Inv (bA X scope N C s3 (upd H2 D (.lst [])) fp) [] σ' H' s'∧tn i s'.heap∧(∀ b∈fp,H' b=none)∧W i n σ' H') ?_ m0 ⟨0,_,_,I4,st4,fr4,w0⟩
  rintro n s5 ⟨i,σ5,H5,I5,st5,fr5,w5⟩
  rcases turn i n σ5 H5 w5 with ⟨stop,qn⟩ | ⟨go,NN,hN,step⟩
  ·refine thn (T.done (bA X scope N C s3 (upd H2 D (.lst [])) fp) rfl rfl rfl hc i [] s5 σ5 H5 _ I5 (hX _ fr5) st5 stop) fun r s6 ⟨hr,I6⟩=>?_
   subst hr
   exact fin s6 σ5 H5 I6 qn
  ·refine thn (T.item (bA X scope N C s3 (upd H2 D (.lst [])) fp) rfl rfl rfl hc i [] s5 σ5 H5 _ I5 (hX _ fr5) st5 go) fun r s6 ⟨u,hr,h6⟩=>?_
   subst hr
   refine thn h6 fun _ s7 ⟨x,H7,I7,r7,y7,st7,fr7⟩=>?_
   have I7':=I7.pinned (hX _ fr7) (T.obj _ _ st7)
   have back:∀ {s9:Shared} {σ9:St} {H9:Hp},Inv (bA X scope N C s3 (upd H2 D (.lst [])) fp) ([]++ja fp s7.heap) σ9 H9 s9→NN σ9 H9→∃ m,m < n∧∃ i σ' H',Inv (bA X scope N C s3 (upd H2 D (.lst [])) fp) [] σ' H' s9∧tn i s9.heap∧(∀ b∈fp,H' b=none)∧W i m σ' H':=fun {s9 σ9 H9} I9 n9=>by
    obtain ⟨m',hm,w9⟩:=hN σ9 H9 n9
    refine ⟨m',hm,i+1,σ9,H9,I9.fW,T.keep _ _ _ st7 fun b hb o e=>(I9.pin (b,o) (List.mem_append_right _ (List.mem_append_right _ (fu hb e)))).1,fun b hb=>?_,w9⟩
    obtain ⟨o,e,d⟩:=T.obj _ _ st7 b hb
    exact (I9.pin (b,o) (List.mem_append_right _ (List.mem_append_right _ (fu hb e)))).2.1
   refine thn (hg C s3 _ fp _ s7 σ5 H7 x u _ I7' r7 (step x H7 y7)) fun _ s8 ⟨σ8,H8,I8,q8⟩=>?_
   refine thn (ht C s3 _ fp _ s8 σ8 H8 _ I8 q8) fun ok s9 ⟨H9,I9,q9⟩=>?_
   cases ok with
   | false=>
    rw [if_neg Bool.false_ne_true] at q9
    rw [if_neg Bool.false_ne_true]
    exact back I9 q9
   | true=>
    rw [if_pos rfl] at q9
    rw [if_pos rfl]
    refine thn (he C s3 _ fp _ s9 σ8 H9 _ I9 q9) fun y s10 ⟨v,H10,I10,r10,q10⟩=>?_
    obtain ⟨xs,hD10,hz,qN⟩:=q10
    refine thn (mr (X:=bA X scope N C s3 (upd H2 D (.lst [])) fp) _ s10 σ8 H10 (.ref D) [v] (.ref D) [y] (fun _ H'=>NN σ8 H') I10 rfl (.cons r10 .nil) ⟨D,xs,v,rfl,rfl,hD10,hz,qN⟩) fun _ s11 ⟨_,H11,I11,_,q11⟩=>?_
    exact back I11 q11
 exact codeAny_compStart_list (loop _ rfl) (T.self _ 0 _ _ _ st4 (loop _ rfl))
theorem Cz {esc:Scope} {EN:List Str} (hc:X.calm=true) (S:dc esc scope EN N k) (h1:X.env.scope=esc) (h2:X.N=EN) (hi:PI X tg iter wi) (hg:∀ C s H fp,PG (bA X scope N C s H fp) tg g) (ht:∀ C s H fp,PTs (bA X scope N C s H fp) ifs tt) (he:∀ C s H fp,PE (bA X scope N C s H fp) elt te)
  (hs:∀ x,foldedSetIterable iter X.env x=pure x:=by intro _;rfl):PE X (.ListComp elt [⟨tg,iter,ifs,0⟩] scope pos) (tLC wi g tt te k):=by
 subst h1 h2
 intro pins s σ H Q I h
 rw [eval_ListComp]
 refine wpAny_comprehension_free (use:=none) rfl hs (gm (S.cells I.ok)) S.kind S.names (thn (hi pins s σ H _ I h) fun v s1 h1=>thn h1 fun itv s2 h2=>?_)
 obtain ⟨it,fp,tn,J,H2,e,I2,T,st2,f2,q⟩:=h2
 subst e
 refine nU (RR:=fun acc C=>compPost (model X.prog X.w) X.A X.xe none (EP X pins σ Q) acc C) hc S hg ht he I2 T st2 f2 q ?_
 intro D C s' H' m hC IX hm hn hL hF hS hcell hp qd
 refine ⟨m,hm,fun h' sb=>?_⟩
 exact ⟨.ref D,H',IX.turned (t':=s'.toks) (fun b o hb e=>sb.extBut b o hb e) hn hL (.inr hS) hcell hp,rfl,qd⟩
def sLC (wi:TI) (g:TG) (tt:TT) (te:TE) (k i:Nat):TS:=fun D σ H=>tLC wi g tt te k σ H fun v H1=>D.nx (σ.set i (some v)) H1
theorem CZ {esc:Scope} {EN:List Str} {i:Nat} {y:Str} {py spos:Pos} (hN:X.N.Nodup) (hi':X.N[i]?=some y) (hy:Loc X.env.scope y) (hc:X.calm=true) (S:dc esc scope EN N k) (h1:X.env.scope=esc) (h2:X.N=EN) (hi:PI X tg iter wi) (hg:∀ C s H fp,PG (bA X scope N C s H fp) tg g) (ht:∀ C s H fp,PTs (bA X scope N C s H fp) ifs tt) (he:∀ C s H fp,PE (bA X scope N C s H fp) elt te)
  (hsw:swapsWith (.ListComp elt [⟨tg,iter,ifs,0⟩] scope pos) (some (.Name y py)) spos.line X.env=pure true:=by rfl)
  (hs:∀ x,foldedSetIterable iter X.env x=pure x:=by intro _;rfl) (hf:X.fn y=true∨X.env.scope.names.lookup y=some .local:=by first | exact .inl rfl | exact .inr rfl | assumption) :
  PS X (.Assign [.Name y py] (.ListComp elt [⟨tg,iter,ifs,0⟩] scope pos) spos) (sLC wi g tt te k i):=by
 subst h1 h2
 intro pins s σ H D0 I h
 rw [exec_Assign_Name_used _ _ _ _ hsw]
 refine wpAny_bind (wpAny_standAt (wpAny_bind ?_))
 show wpAny _ X.A (do let _ ← comprehension (.ListComp elt [⟨tg,iter,ifs,0⟩] scope pos) scope X.env _ (newList []) false (eval iter X.env) (some (assign (.Name y py) X.env))) _ _ s
 refine wpAny_bind (wpAny_mono (wpAny_comprehension_free (use:=some (assign (.Name y py) X.env)) (Q:=fun _ s'=>SP X pins D0 .next s') rfl hs (gm (S.cells I.ok)) S.kind S.names
  (thn (hi pins s σ H _ I h) fun v s1 h1=>thn h1 fun itv s2 h2=>?_)) (fun _ s' hq=>wpAny_pure (wpAny_pure hq)) fun _ _ e=>e)
 obtain ⟨it,fp,tn,J,H2,e,I2,T,st2,f2,q⟩:=h2
 subst e
 refine nU (RR:=fun acc C=>compPost (model X.prog X.w) X.A X.xe (some (assign (.Name y py) X.env)) (fun _ s'=>SP X pins D0 .next s') acc C) hc S hg ht he I2 T st2 f2 q ?_
 intro D C s' H' m hC IX hm hn hL hF hS hcell hp qd
 show wpAny _ X.A (assign (.Name y py) X.env (.ref D)) _ _ _
 obtain ⟨o,es,ep,ho,hd,hr⟩:=id hm
 have IP:Inv X (pins++[(C,o)]) σ H' s':=IX.lD fun p hp=>by
  rcases List.mem_append.mp hp with z | z
  ·exact IX.pin p (List.mem_append_right _ z)
  ·obtain rfl:p=(C,o):=List.mem_singleton.mp z
   exact ⟨ho,hn,hL,hF,fun v z=>by rw [hd] at z;cases z⟩
 refine wpAny_assign_Name (jW IP hN hi' hy (v:=.ref D) (u:=.ref D) rfl (fun s'' I''=>?_) hf)
 have hC2:=(I''.pin (C,o) (List.mem_append_right _ (List.mem_append_right _ (List.mem_singleton.mpr rfl)))).1
 refine ⟨m,⟨o,es,ep,hC2,hd,hr⟩,fun h' sb=>?_⟩
 exact ⟨_,H',(I''.fW).turned (t':=s''.toks) (fun b o hb e=>sb.extBut b o hb e) hn hL (.inr hS) hcell hp,qd⟩
end
inductive D where
 | non | bl (b:Bool) | int (i:Int) | str (x:Str) | tup (xs:List D) | lst (xs:List D)
mutual
def D.eqv:D→D→Bool
 | .non,.non=>true
 | .bl a,.bl b=>a == b
 | .bl a,.int b=>(if a then 1 else 0) == b
 | .int a,.bl b=>a == (if b then 1 else 0)
 | .int a,.int b=>a == b
 | .str a,.str b=>a == b
 | .tup xs,.tup ys=>D.cW xs ys
 | .lst xs,.lst ys=>D.cW xs ys
 | _,_=>false
def D.cW:List D→List D→Bool
 | [],[]=>true
 | x :: xs,y :: ys=>D.eqv x y && D.cW xs ys
 | _,_=>false
end
mutual
theorem D.eqv_refl:∀ d:D,D.eqv d d=true
 | .non=>rfl
 | .bl a=>by simp [D.eqv]
 | .int a=>by simp [D.eqv]
 | .str a=>by simp [D.eqv]
 | .tup xs=>by simp only [D.eqv];exact D.jn xs
 | .lst xs=>by simp only [D.eqv];exact D.jn xs
theorem D.jn:∀ ds:List D,D.cW ds ds=true
 | []=>rfl
 | d :: ds=>by simp only [D.cW,D.eqv_refl d,D.jn ds,Bool.and_self]
end
mutual
def D.depth:D→Nat
 | .tup xs=>D.ck xs+1
 | .lst xs=>D.ck xs+1
 | _=>0
def D.ck:List D→Nat
 | []=>0
 | x :: xs=>max (D.depth x) (D.ck xs)
end
mutual
inductive Rep (H:Hp):V→D→Prop
 | non:Rep H .non .non
 | bl (b:Bool):Rep H (.bl b) (.bl b)
 | int (i:Int):Rep H (.int i) (.int i)
 | str (x:Str):Rep H (.str x) (.str x)
 | tup {a:Addr} {vs:List V} {ds:List D}:H a=some (.tup vs)→av H vs ds→Rep H (.ref a) (.tup ds)
 | lst {a:Addr} {vs:List V} {ds:List D}:H a=some (.lst vs)→av H vs ds→Rep H (.ref a) (.lst ds)
inductive av (H:Hp):List V→List D→Prop
 | nil:av H [] []
 | cons {v:V} {d:D} {vs:List V} {ds:List D}:Rep H v d→av H vs ds→av H (v :: vs) (d :: ds)
end
theorem av.length {H:Hp}:∀ {vs:List V} {ds:List D},av H vs ds→vs.length=ds.length
 | _,_,.nil=>rfl
 | _,_,.cons _ t=>by simp [av.length t]
theorem av.get {H:Hp}:∀ {vs:List V} {ds:List D} {i:Nat} {v:V},av H vs ds→vs[i]?=some v→∃ d,ds[i]?=some d∧Rep H v d
 | _,_,_,_,.nil,e=>by simp at e
 | _,_,0,_,.cons r _,e=>by simp at e;subst e;exact ⟨_,rfl,r⟩
 | _,_,i+1,v,.cons _ t,e=>by
  obtain ⟨d,h1,h2⟩:=av.get (i:=i) (v:=v) t (by simpa using e)
  exact ⟨d,by simpa using h1,h2⟩
theorem av.get' {H:Hp}:∀ {vs:List V} {ds:List D} {i:Nat} {d:D},av H vs ds→ds[i]?=some d→∃ v,vs[i]?=some v∧Rep H v d
 | _,_,_,_,.nil,e=>by simp at e
 | _,_,0,_,.cons r _,e=>by simp at e;subst e;exact ⟨_,rfl,r⟩
 | _,_,i+1,v,.cons _ t,e=>by
  obtain ⟨d,h1,h2⟩:=av.get' (i:=i) (d:=v) t (by simpa using e)
  exact ⟨d,by simpa using h1,h2⟩
theorem av.append {H:Hp}:∀ {vs us:List V} {ds es:List D},av H vs ds→av H us es→av H (vs++us) (ds++es)
 | _,_,_,_,.nil,s=>s
 | _,_,_,_,.cons r t,s=>.cons r (av.append t s)
theorem av.take {H:Hp}:∀ {vs:List V} {ds:List D} (n:Nat),av H vs ds→av H (vs.take n) (ds.take n)
 | _,_,0,_=>.nil
 | _,_,_+1,.nil=>.nil
 | _,_,n+1,.cons r t=>.cons r (av.take n t)
theorem av.drop {H:Hp}:∀ {vs:List V} {ds:List D} (n:Nat),av H vs ds→av H (vs.drop n) (ds.drop n)
 | _,_,0,r=>r
 | _,_,_+1,.nil=>.nil
 | _,_,n+1,.cons _ t=>av.drop n t
mutual
theorem Rep.mono {H H':Hp} (e:dr H H'):∀ {v:V} {d:D},Rep H v d→Rep H' v d
 | _,_,.non=>.non
 | _,_,.bl b=>.bl b
 | _,_,.int i=>.int i
 | _,_,.str x=>.str x
 | _,_,.tup h r=>.tup (e _ _ h) (av.mono e r)
 | _,_,.lst h r=>.lst (e _ _ h) (av.mono e r)
theorem av.mono {H H':Hp} (e:dr H H'):∀ {vs:List V} {ds:List D},av H vs ds→av H' vs ds
 | _,_,.nil=>.nil
 | _,_,.cons r t=>.cons (Rep.mono e r) (av.mono e t)
end
mutual
theorem Rep.inj {H:Hp}:∀ {v:V} {d e:D},Rep H v d→Rep H v e→d=e
 | _,_,_,.non,.non=>rfl
 | _,_,_,.bl _,.bl _=>rfl
 | _,_,_,.int _,.int _=>rfl
 | _,_,_,.str _,.str _=>rfl
 | _,_,_,.tup h r,.tup h' r'=>by rw [h] at h';cases h';rw [av.inj r r']
 | _,_,_,.tup h r,.lst h' r'=>by rw [h] at h';cases h'
 | _,_,_,.lst h r,.tup h' r'=>by rw [h] at h';cases h'
 | _,_,_,.lst h r,.lst h' r'=>by rw [h] at h';cases h';rw [av.inj r r']
theorem av.inj {H:Hp}:∀ {vs:List V} {ds es:List D},av H vs ds→av H vs es→ds=es
 | _,_,_,.nil,.nil=>rfl
 | _,_,_,.cons r t,.cons r' t'=>by rw [Rep.inj r r',av.inj t t']
end
theorem av.ints {H:Hp}:∀ (ns:List Int),av H (ns.map V.int) (ns.map D.int)
 | []=>.nil
 | n :: ns=>.cons (.int n) (av.ints ns)
theorem av.jB {H:Hp}:∀ {vs:List V} {ns:List Int},av H vs (ns.map D.int)→vs=ns.map V.int
 | [],[],.nil=>rfl
 | v :: vs,n :: ns,.cons r t=>by
  cases r
  rw [List.map_cons,av.jB t]
theorem D.bZ:∀ (ds es:List D),D.cW ds es=((List.range (min ds.length es.length)).all (fun j=>D.eqv (ds.getD j .non) (es.getD j .non)) && ds.length == es.length)
 | [],[]=>rfl
 | [],e :: es=>by simp [D.cW]
 | d :: ds,[]=>by simp [D.cW]
 | d :: ds,e :: es=>by
  have ih:=D.bZ ds es
  have q:min (d :: ds).length (e :: es).length=min ds.length es.length+1:=by simp only [List.length_cons];omega
  rw [q,List.range_succ_eq_map,List.all_cons,List.all_map]
  have z:((d :: ds).length == (e :: es).length)=(ds.length == es.length):=by
   rw [Bool.eq_iff_iff];simp
  rw [z,D.cW,ih,Bool.and_assoc]
  rfl
theorem D.fz:∀ {ds:List D} {i:Nat} {d:D},ds[i]?=some d→D.depth d≤D.ck ds
 | [],_,_,e=>by simp at e
 | x :: xs,0,d,e=>by
  simp at e;subst e
  exact Nat.le_max_left _ _
 | x :: xs,i+1,d,e=>Nat.le_trans (D.fz (ds:=xs) (i:=i) (by simpa using e)) (Nat.le_max_right _ _)
section
variable {X:Cx}
theorem tW {pins:List (Addr×Obj)} {σ:St} {H:Hp} {s:Shared} (I:Inv X pins σ H s):∀ (n:Nat) (A:Around) (x y:V) (u v:Value) (d e:D),A.units+n < cLine→D.depth d≤n→RelV x u→RelV y v→Rep H x d→Rep H y e →
  SeqAt.EqAt A s u v (D.eqv d e):=by
 intro n
 induction n with
 | zero=>
  intro A x y u v d e hu hd ru rv rx ry
  have hu':A.units < cLine:=by omega
  cases rx with
  | tup h r=>simp [D.depth] at hd
  | lst h r=>simp [D.depth] at hd
  | non=>
   cases ry with
   | tup h r=>
    cases ru;cases rv
    obtain ⟨its,rv,p,hz⟩:=I.tuple (SqT.of h)
    exact SeqAt.EqAt.none_tuple p hu'
   | lst h r=>
    cases ru;cases rv
    obtain ⟨its,rv,p,hz⟩:=I.list (SqL.of h)
    exact SeqAt.EqAt.none_list p.isList hu'
   | _=>simp only [D.eqv];exact iO ru rv rfl rfl
  | bl a=>
   cases ry with
   | tup h r=>
    cases ru;cases rv
    obtain ⟨its,rv,p,hz⟩:=I.tuple (SqT.of h)
    exact SeqAt.EqAt.bool_tuple a p hu'
   | lst h r=>
    cases ru;cases rv
    obtain ⟨its,rv,p,hz⟩:=I.list (SqL.of h)
    exact SeqAt.EqAt.bool_list a p.isList hu'
   | _=>simp only [D.eqv];exact iO ru rv rfl rfl
  | int a=>
   cases ry with
   | tup h r=>
    obtain ⟨t,rfl⟩:=ru;cases rv
    obtain ⟨its,rv,p,hz⟩:=I.tuple (SqT.of h)
    exact SeqAt.EqAt.int_tuple a t p hu'
   | lst h r=>
    obtain ⟨t,rfl⟩:=ru;cases rv
    obtain ⟨its,rv,p,hz⟩:=I.list (SqL.of h)
    exact SeqAt.EqAt.int_list a t p.isList hu'
   | _=>simp only [D.eqv];exact iO ru rv rfl rfl
  | str a=>
   cases ry with
   | tup h r=>
    obtain ⟨t,rfl⟩:=ru;cases rv
    obtain ⟨its,rv,p,hz⟩:=I.tuple (SqT.of h)
    exact SeqAt.EqAt.str_tuple a t p hu'
   | lst h r=>
    obtain ⟨t,rfl⟩:=ru;cases rv
    obtain ⟨its,rv,p,hz⟩:=I.list (SqL.of h)
    exact SeqAt.EqAt.str_list a t p.isList hu'
   | _=>simp only [D.eqv];exact iO ru rv rfl rfl
 | succ n ih=>
  intro A x y u v d e hu hd ru rv rx ry
  have hu':A.units < cLine:=by omega
  have items:∀ {vs us:List V} {ds es:List D} {its its2:List Value},D.ck ds≤n→Vals vs its→Vals us its2→av H vs ds→av H us es →
    ∀ j (h1:j < its.toArray.size) (h2:j < its2.toArray.size),SeqAt.EqAt A.in1 s its.toArray[j] its2.toArray[j] (D.eqv (ds.getD j .non) (es.getD j .non)):=by
   intro vs us ds es its its2 hdd r1 r2 q1 q2 j h1 h2
   have h1':j < its.length:=by simpa using h1
   have h2':j < its2.length:=by simpa using h2
   have l1:=r1.length
   have l2:=r2.length
   have m1:=q1.length
   have m2:=q2.length
   have e1:vs[j]?=some (vs[j]'(by omega)):=List.getElem?_eq_getElem _
   have e2:us[j]?=some (us[j]'(by omega)):=List.getElem?_eq_getElem _
   obtain ⟨a1,b1,c1⟩:=r1.get e1
   obtain ⟨a2,b2,c2⟩:=r2.get e2
   obtain ⟨f1,g1,k1⟩:=q1.get e1
   obtain ⟨f2,g2,k2⟩:=q2.get e2
   have z1:its.toArray[j]=a1:=by
    have:its[j]?=some its[j]:=List.getElem?_eq_getElem h1'
    rw [b1] at this
    simpa using (Option.some.inj this).symm
   have z2:its2.toArray[j]=a2:=by
    have:its2[j]?=some its2[j]:=List.getElem?_eq_getElem h2'
    rw [b2] at this
    simpa using (Option.some.inj this).symm
   rw [z1,z2,List.getD_eq_getElem?_getD,List.getD_eq_getElem?_getD,g1,g2]
   refine ih A.in1 _ _ _ _ _ _ ?_ (Nat.le_trans (D.fz g1) hdd) c1 c2 k1 k2
   show A.units+1+n < cLine
   omega
  cases rx with
  | @tup a vs ds h r=>
   obtain ⟨its,rv1,p,hz⟩:=I.tuple (SqT.of h)
   cases ry with
   | @tup b us es h' r'=>
    cases ru;cases rv
    obtain ⟨its2,rv2,p2,hz2⟩:=I.tuple (SqT.of h')
    by_cases hab:a=b
    ·subst hab
     rw [h] at h';cases h'
     rw [av.inj r' r,D.eqv_refl]
     exact SeqAt.EqAt.same _
    ·have hdd:D.ck ds≤n:=by simp only [D.depth] at hd;omega
     have q:=SeqAt.EqAt.of_refs hab (SeqAt.RcAt.tuples (e:=fun j=>D.eqv (ds.getD j .non) (es.getD j .non)) p p2 hu' (items hdd rv1 rv2 r r'))
     rw [List.size_toArray,List.size_toArray,← rv1.length,← rv2.length,r.length,r'.length,← D.bZ] at q
     simp only [D.eqv]
     exact q
   | @lst b us es h' r'=>
    cases ru;cases rv
    obtain ⟨its2,rv2,p2,hz2⟩:=I.list (SqL.of h')
    simp only [D.eqv]
    exact SeqAt.EqAt.tuple_list p p2.isList hu'
   | non=>cases ru;cases rv;simp only [D.eqv];exact SeqAt.EqAt.tuple_none p hu'
   | bl c=>cases ru;cases rv;simp only [D.eqv];exact SeqAt.EqAt.tuple_bool c p hu'
   | int c=>cases ru;obtain ⟨t,rfl⟩:=rv;simp only [D.eqv];exact SeqAt.EqAt.tuple_int c t p hu'
   | str c=>cases ru;obtain ⟨t,rfl⟩:=rv;simp only [D.eqv];exact SeqAt.EqAt.tuple_str c t p hu'
  | @lst a vs ds h r=>
   obtain ⟨its,rv1,p,hz⟩:=I.list (SqL.of h)
   cases ry with
   | @lst b us es h' r'=>
    cases ru;cases rv
    obtain ⟨its2,rv2,p2,hz2⟩:=I.list (SqL.of h')
    by_cases hab:a=b
    ·subst hab
     rw [h] at h';cases h'
     rw [av.inj r' r,D.eqv_refl]
     exact SeqAt.EqAt.same _
    ·have hdd:D.ck ds≤n:=by simp only [D.depth] at hd;omega
     have l1:=rv1.length
     have l2:=rv2.length
     have m1:=r.length
     have m2:=r'.length
     by_cases hl:ds.length=es.length
     ·have q:=SeqAt.EqAt.of_refs hab (SeqAt.RcAt.lists (e:=fun j=>D.eqv (ds.getD j .non) (es.getD j .non)) p.isList p2.isList (by simp;omega) hu' (items hdd rv1 rv2 r r'))
      have z:D.cW ds es=(List.range its.toArray.size).all fun j=>D.eqv (ds.getD j .non) (es.getD j .non):=by
       rw [D.bZ,← hl,Nat.min_self,List.size_toArray,← l1,m1]
       simp
      simp only [D.eqv]
      rw [z]
      exact q
     ·have q:=SeqAt.EqAt.of_refs hab (SeqAt.RcAt.lists_lengths p.isList p2.isList (by simp;omega) hu')
      have z:D.cW ds es=false:=by
       rw [D.bZ]
       simp [hl]
      simp only [D.eqv]
      rw [z]
      exact q
   | @tup b us es h' r'=>
    cases ru;cases rv
    obtain ⟨its2,rv2,p2,hz2⟩:=I.tuple (SqT.of h')
    simp only [D.eqv]
    exact SeqAt.EqAt.list_tuple p.isList p2 hu'
   | non=>cases ru;cases rv;simp only [D.eqv];exact SeqAt.EqAt.list_none p.isList hu'
   | bl c=>cases ru;cases rv;simp only [D.eqv];exact SeqAt.EqAt.list_bool c p.isList hu'
   | int c=>cases ru;obtain ⟨t,rfl⟩:=rv;simp only [D.eqv];exact SeqAt.EqAt.list_int c t p.isList hu'
   | str c=>cases ru;obtain ⟨t,rfl⟩:=rv;simp only [D.eqv];exact SeqAt.EqAt.list_str c t p.isList hu'
  | non=>exact SeqAt.EqAt.of_in1 (ih A.in1 _ y u v _ e (by show A.units+1+n < cLine;omega) (by simp [D.depth]) ru rv .non ry)
  | bl c=>exact SeqAt.EqAt.of_in1 (ih A.in1 _ y u v _ e (by show A.units+1+n < cLine;omega) (by simp [D.depth]) ru rv (.bl c) ry)
  | int c=>exact SeqAt.EqAt.of_in1 (ih A.in1 _ y u v _ e (by show A.units+1+n < cLine;omega) (by simp [D.depth]) ru rv (.int c) ry)
  | str c=>exact SeqAt.EqAt.of_in1 (ih A.in1 _ y u v _ e (by show A.units+1+n < cLine;omega) (by simp [D.depth]) ru rv (.str c) ry)
end
section
variable {X:Cx}
def uG:R2:=fun x y H Q=>∃ a b,x=.bl a∧y=.bl b∧Q (.bl (a == b)) H
theorem vb:OpR X (compareOp .Is) uG:=by
 intro pins s σ H x y v u Q I rx ry h
 obtain ⟨a,b,rfl,rfl,q⟩:=h
 cases rx;cases ry
 exact is_bool ⟨.bl _,H,I,rfl,q⟩
def isT (T:String):D→Bool
 | .non=>false
 | .bl _=>T == "bool" || T == "int"
 | .int _=>T == "int"
 | .str _=>T == "str"
 | .tup _=>T == "tuple"
 | .lst _=>T == "list"
def okT (T:String):Bool:=T == "bool" || T == "int" || T == "str" || T == "tuple" || T == "list"
theorem DF {K:PySem.W.Frag} {H:Hp} {x:V} {d:D} {T:String} (r:Rep H x d) (h:okT T=true):∃ t,eI K H x t∧PySem.W.kitOne K t (.type T)=some (isT T d):=by
  have h5:T="bool"∨T="int"∨T="str"∨T="tuple"∨T="list":=by simpa [okT,or_assoc] using h
  cases r with
  | non=>exact ⟨_,.non,by rcases h5 with e | e | e | e | e<;>subst e<;>first | rfl | kernel_rfl⟩
  | bl b=>exact ⟨_,.bl b,by rcases h5 with e | e | e | e | e<;>subst e<;>first | rfl | kernel_rfl⟩
  | int i=>exact ⟨_,.int i,by rcases h5 with e | e | e | e | e<;>subst e<;>first | rfl | kernel_rfl⟩
  | str x=>exact ⟨_,.str x,by rcases h5 with e | e | e | e | e<;>subst e<;>first | rfl | kernel_rfl⟩
  | tup h r=>exact ⟨_,.tup h,by rcases h5 with e | e | e | e | e<;>subst e<;>first | rfl | kernel_rfl⟩
  | lst h r=>exact ⟨_,.lst h,by rcases h5 with e | e | e | e | e<;>subst e<;>first | rfl | kernel_rfl⟩
def D6 (T:String) (te:TE):TE:=fun σ H Q=>te σ H fun x H1=>∃ d,Rep H1 x d∧Q (.bl (isT T d)) H1
theorem sH {e:Expr} {te:TE} {nm:Str} {T:String} {p p2 pos:Pos} (hg:Gl X "isinstance") (hm:X.mg "isinstance"=none) (hg2:Gl X nm) (hm2:X.mg nm=none) (hv:bootBuiltins nm=some (.type T)) (ho:okT T=true) (ha:PE X e te)
  (hn:nm≠"__name__":=by decide) (hd:(nm == ("__debug__":Str))=false:=by decide) (hb:bootBuiltins "isinstance"=some (.builtin "isinstance"):=by decide +kernel)
  (he:starEach [e,.Name nm p2] X.env=(false,eval e X.env) :: starEach [.Name nm p2] X.env:=by rfl) (hs2:starEach [.Name nm p2] X.env=(false,eval (.Name nm p2) X.env) :: starEach [] X.env:=by rfl) (hpl:(backTo pos (starEach [.Name nm p2] X.env)).any (·.1)=false:=by rfl) :
  PE X (.Call (.Name "isinstance" p) [e,.Name nm p2] [] pos) (D6 T te):=by
 intro pins s σ H Q I h
 have hT:PE X (.Name nm p2) (tC (.ty T)):=xO hg2 hm2 hv rfl hn hd
 refine wpAny_Call_Name_kw (cf I hg hm hb ?_ (by decide) (by decide))
 refine PyProof.Rows.callWith_builtin1 (thn ((dR ha (dR hT fU hs2) he) pos pins s σ H (fun vs H1=>∃ x d,vs=[x,.ty T]∧Rep H1 x d∧Q (.bl (isT T d)) H1) I ?_) fun us s1 ⟨vs,H1,I1,r1,q1⟩=>?_) he hpl
 ·refine (show te σ H fun x H1=>_ from ?_)
  refine cast (congrArg (te σ H) ?_) h
  funext x H1
  refine propext ⟨fun ⟨d,r,q⟩=>⟨x,d,rfl,r,q⟩,fun ⟨x',d,e,r,q⟩=>?_⟩
  cases e
  exact ⟨d,r,q⟩
 ·obtain ⟨x,d,e,r,q⟩:=q1
  subst e
  obtain ⟨u,w',rfl,ru,rw'⟩:=r1.two
  obtain ⟨t,ty,k⟩:=DF (K:=X.K) r ho
  cases (show w'=Value.type T from rw')
  exact sR I1 ru ty k fun tk=>⟨.bl _,H1,I1.tok tk,rfl,q⟩
end
section
variable {X:Cx} {pins:List (Addr×Obj)} {σ:St} {H:Hp} {s:Shared} {h':Heap} {fp:List Addr}
theorem Inv.j8 {a:Addr} {o:HO} {t':Nat} (I:Inv X pins σ H s) (ha:s.heap.objs.size≤a) (hk:∀ b u,b∉fp→s.heap.get? b=some u→h'.get? b=some u) (hf:∀ b∈fp,eF X pins H b) (new:bz X.prog X.w (upd H a o) h' a o) :
  Inv X pins σ (upd H a o) { s with heap:=h',toks:=t' }:=by
 have hn:H a=none:=I.hok.fresh ha
 have nfp:∀ b u,H b=some u→b∉fp:=fun b u e z=>by
  have q:=(hf b z).1
  rw [e] at q
  cases q
 have hne:∀ b (u:Obj),s.heap.get? b=some u→b≠a:=fun b u e=>Nat.ne_of_lt (Nat.lt_of_lt_of_le (Heap.lt_size e) ha)
 refine I.step (g':=s.gens) (d':=s.drawn) (ch:=fp) (fun b hb=>?_) (fun b u _ _ hc e _=>hk b u hc e) (fun b u _ _ hc e _=>⟨u.slots,hk b u hc e⟩) (fun b u _ e n=>?_)
  (fun b u hc e=>⟨u,hk b u hc e⟩) (fun b xs e=>?_) (fun b u xs e=>?_) (fun b ps e=>⟨#[],?_⟩) (fun m hm=>?_) (fun b u e=>?_) I.bare
 ·obtain ⟨f0,f1,f2,f3,f4,f5⟩:=hf b hb
  exact ⟨f3,f1,f4,f5⟩
 ·rw [aD (hne b u e)];exact n
 ·rw [aD (aX e hn)];exact e
 ·rw [aD (aX e hn)];exact e
 ·rw [aD (aX e hn),e];simp
 ·obtain ⟨u,es,ep,ho,r⟩:=hm
  exact ⟨u,es,ep,hk _ u (fun z=>(hf _ z).2.1 rfl) ho,r⟩
 ·by_cases hb:b=a
  ·subst hb;rw [bV] at e;cases e;exact new
  ·rw [aD hb] at e
   refine (I.hok b u e).jN (fun c v hc q=>hk c v ?_ q) (fun c q=>by rw [aD (aX q hn)];exact q) fun c xs q=>by rw [aD (aX q hn)];exact q
   rcases hc with z | z
   ·rw [z];exact nfp b u e
   ·exact nfp c _ z
theorem Inv.yn {t':Nat} (I:Inv X pins σ H s) (hk:∀ b u,b∉fp→s.heap.get? b=some u→h'.get? b=some u) (hf:∀ b∈fp,eF X pins H b):Inv X pins σ H { s with heap:=h',toks:=t' }:=by
 have nfp:∀ b u,H b=some u→b∉fp:=fun b u e z=>by
  have q:=(hf b z).1
  rw [e] at q
  cases q
 refine I.step (g':=s.gens) (d':=s.drawn) (ch:=fp) (fun b hb=>?_) (fun b u _ _ hc e _=>hk b u hc e) (fun b u _ _ hc e _=>⟨u.slots,hk b u hc e⟩) (fun b u _ e n=>n)
  (fun b u hc e=>⟨u,hk b u hc e⟩) (fun b xs e=>e) (fun b u xs e=>e) (fun b ps e=>⟨#[],?_⟩) (fun m hm=>?_) (fun b u e=>?_) I.bare
 ·obtain ⟨f0,f1,f2,f3,f4,f5⟩:=hf b hb
  exact ⟨f3,f1,f4,f5⟩
 ·rw [e];simp
 ·obtain ⟨u,es,ep,ho,r⟩:=hm
  exact ⟨u,es,ep,hk _ u (fun z=>(hf _ z).2.1 rfl) ho,r⟩
 ·refine (I.hok b u e).jN (fun c v hc q=>hk c v ?_ q) (fun _ q=>q) fun _ _ q=>q
  rcases hc with z | z
  ·rw [z];exact nfp b u e
  ·exact nfp c _ z
end
def Ite (K:PySem.W.Frag) (l:Addr):It:=
 ⟨fun i H=>∃ xs x,SqL K H l xs∧xs[i]?=some x,fun i H x H'=>∃ p y,H p=none∧x=.ref p∧H'=upd H p (.tup [.int i,y])∧∀ xs,SqL K H l xs→xs[i]?=some y,fun i H=>∃ xs,SqL K H l xs∧xs.length≤i⟩
theorem sx {P:Program} {w:World} {K:PySem.W.Frag} {es:List Expr} {kk:Nat} {tp:Pos} (l e it:Addr) (hne:e≠it) :
  Turn P w K (.Tuple es kk tp) (Ite K l) [e,it] e (fun i h=>(∃ old,IsEnum h e it ((i:Nat):Int) old)∧h.IsListIter it l i) where
 mem:=by simp
 obj:=fun i h st b hb=>by
  obtain ⟨⟨old,he⟩,hit⟩:=st
  rcases List.mem_cons.mp hb with z | z
  ·subst z;exact ⟨_,he,fun v z=>by
    have z':Data.fields _=Data.cell v:=z
    cases z'⟩
  ·have z:b=it:=List.mem_singleton.mp z
   subst z
   obtain ⟨o,q,_,d⟩:=hit
   exact ⟨o,q,fun v z=>by rw [d] at z;cases z⟩
 keep:=fun i h h' st k=>by
  obtain ⟨⟨old,he⟩,hit⟩:=st
  exact ⟨⟨old,k e (by simp) _ he⟩,hit.at fun o q=>k it (by simp) o q⟩
 item:=by
  intro X hP hw hK hc i pins s σ H E I hf st hg
  subst hP hw hK
  obtain ⟨⟨old,he⟩,hit⟩:=st
  obtain ⟨xs,x,hq,hx⟩:=hg
  obtain ⟨its,rv,p,hz⟩:=I.list hq
  obtain ⟨u,hu,ru⟩:=rv.get hx
  refine wpAny_pyNext_enum_item he hit p.isList (x:=u) (by simpa using hu) hne fun h1 ho1 hit1 ht1 hz1 hk1=>?_
  refine ⟨_,rfl,wpAny_letOwnedTupleGo_enum (s:={ s with heap:=h1,toks:=s.toks+1 }) ho1 fun h2 he2 hs2=>?_⟩
  have helt:e < s.heap.objs.size:=Heap.lt_size he
  have ht2:h2.get? s.heap.objs.size=some { cls:=.type "tuple",data:=.seq #[.int i s.toks,u] }:=hs2.extBut _ _ (Nat.ne_of_gt helt) ht1
  have k2:∀ b o,b∉[e,it]→s.heap.get? b=some o→h2.get? b=some o:=fun b o hb q=>by
   have hb1:b≠e:=fun z=>hb (by simp [z])
   have hb2:b≠it:=fun z=>hb (by simp [z])
   exact hs2.extBut b o hb1 (hk1 b o hb1 hb2 q)
  have I2:Inv X pins σ (upd H s.heap.objs.size (.tup [.int i,x])) { s with heap:=h2,toks:=s.toks+1 }:=by
   refine I.j8 (fp:=[e,it]) (Nat.le_refl _) k2 hf ?_
   exact ⟨by show 2≤sizeLine;decide,[.int i s.toks,u],.cons ⟨_,rfl⟩ (.cons ru .nil),⟨_,ht2,rfl,_,rfl⟩⟩
  refine ⟨.ref s.heap.objs.size,_,I2,rfl,⟨s.heap.objs.size,x,I.hok.fresh (Nat.le_refl _),rfl,rfl,fun ys hy=>by rw [I.nM hy hq];exact hx⟩,⟨⟨_,by simpa using he2⟩,?_⟩,fun b hb=>?_⟩
  ·exact hit1.extBut hs2.extBut (Ne.symm hne)
  ·have hlt:b < s.heap.objs.size:=by
    rcases List.mem_cons.mp hb with z | z
    ·rw [z];exact helt
    ·have z:b=it:=List.mem_singleton.mp z
     subst z
     obtain ⟨o,q,_⟩:=hit
     exact Heap.lt_size q
   rw [aD (Nat.ne_of_lt hlt)]
   exact (hf b hb).1
 done:=by
  intro X hP hw hK hc i pins s σ H E I hf st hg
  subst hP hw hK
  obtain ⟨⟨old,he⟩,hit⟩:=st
  obtain ⟨xs,hq,hx⟩:=hg
  obtain ⟨its,rv,p,hz⟩:=I.list hq
  have hl:=rv.length
  obtain ⟨f0,f1,f2,f3,f4,f5⟩:=hf it (by simp)
  exact wpAny_pyNext_enum_end (I.ok.hd hc) he hit p.isList (by simp;omega) fun h' eb=>⟨rfl,I.turned (t':=s.toks) (fun b o hb e=>eb b o hb e) f0 f1 f3 f4 f5⟩
 self:=fun _ _ _ _ _ st h=>by
  obtain ⟨⟨old,he⟩,_⟩:=st
  exact wpAny_pyIter_enum he h
section
variable {prog:Program} {w:World} {A:Around} {E:Value→Shared→Prop} {s:Shared}
theorem qu {it t:Addr} {i:Nat} {items:Array Value} {x:Value} {Q:Value→Shared→Prop} (hit:s.heap.IsTupleIter it t i) (ht:s.heap.IsTuple t items) (hx:items[i]?=some x)
  (hQ:∀ h',h'.IsTupleIter it t (i+1)→Heap.SameBut it s.heap h'→Q x { s with heap:=h' }):wpAny (model prog w) A (Builtin.SmallTypes.nextOf (.ref it)) Q E s:=by
 obtain ⟨o,ho,hc,hd⟩:=id hit
 obtain ⟨ot,hot,_,nt,hdt⟩:=ht
 unfold Builtin.SmallTypes.nextOf
 refine wpAny_bind (wpAny_callSpecial?_slot (name:=Str.ofString "__next__") hit.typeIs F.slot_tuple_iterator_next (wpAny_call_entry F.slot_tuple_iterator_next hit.typeIs F.entry_tuple_iterator_next ?_ (F.args_tuple_iterator_next_1 _)))
 refine (show wpAny _ _ (field (.ref it) 0>>=_) _ _ s from wpAny_bind (wpAny_field ho hd (x:=.ref t) rfl ?_))
 show wpAny _ _ (if (Value.ref t == Value.none)=true then _ else _) _ _ s
 rw [if_neg (by intro z;exact Bool.false_ne_true z)]
 refine (show wpAny _ _ (field (.ref it) 1>>=_) _ _ s from wpAny_bind (wpAny_field ho hd (x:=.int i 0) rfl ?_))
 refine (show wpAny _ _ (seqItems? (.ref t)>>=_) _ _ s from wpAny_bind (wpAny_seqItems hot hdt ?_))
 simp only [Int.toNat_natCast,hx]
 refine wpAny_bind (wpAny_setField ho hd (by simp) (wpAny_pure ⟨x,rfl,wpAny_pure (hQ _ ⟨_,Heap.get?_update_self _ ho (Obj.isFreed_of_fields (Obj.data_mapFields hd _)),(Obj.cls_mapFields ..).trans hc,?_⟩ (Heap.SameBut.update ..))⟩))
 rw [Obj.data_mapFields hd];simp [rawInt]
theorem sV {it t:Addr} {i:Nat} {items:Array Value} {Q:Value→Shared→Prop} (hh:A.handled=none) (hit:s.heap.IsTupleIter it t i) (ht:s.heap.IsTuple t items) (hx:items[i]?=none)
  (hE:∀ h' e,Heap.ExtBut it s.heap h'→(∃ o,h'.get? e=some o∧o.cls=.type "StopIteration")→E (.ref e) { s with heap:=h' }):wpAny (model prog w) A (Builtin.SmallTypes.nextOf (.ref it)) Q E s:=by
 obtain ⟨o,ho,hc,hd⟩:=id hit
 obtain ⟨ot,hot,_,nt,hdt⟩:=ht
 unfold Builtin.SmallTypes.nextOf
 refine wpAny_bind (wpAny_callSpecial?_slot (name:=Str.ofString "__next__") hit.typeIs F.slot_tuple_iterator_next (wpAny_call_entry F.slot_tuple_iterator_next hit.typeIs F.entry_tuple_iterator_next ?_ (F.args_tuple_iterator_next_1 _)))
 refine (show wpAny _ _ (field (.ref it) 0>>=_) _ _ s from wpAny_bind (wpAny_field ho hd (x:=.ref t) rfl ?_))
 show wpAny _ _ (if (Value.ref t == Value.none)=true then _ else _) _ _ s
 rw [if_neg (by intro z;exact Bool.false_ne_true z)]
 refine (show wpAny _ _ (field (.ref it) 1>>=_) _ _ s from wpAny_bind (wpAny_field ho hd (x:=.int i 0) rfl ?_))
 refine (show wpAny _ _ (seqItems? (.ref t)>>=_) _ _ s from wpAny_bind (wpAny_seqItems hot hdt ?_))
 simp only [Int.toNat_natCast,hx]
 refine wpAny_bind (wpAny_rule (wpAny_bind (wpAny_setField ho hd (by simp) ?_)))
 refine (show wpAny _ _ (newExc (.type "StopIteration") []>>=_) _ _ _ from wpAny_bind ?_)
 simp only [newExc,newTuple]
 refine wpAny_bind (wpAny_newObj_type (wpAny_bind (m:=firstArgMember _ _) (wpAny_of_eq (a:=Value.none) (by first | rfl | (simp only [firstArgMember];rfl)) (wpAny_newObj_type ?_ (by size_fits)))) (by size_fits))
 simp only [raiseNew]
 refine wpAny_bind (wpAny_handled ?_)
 first | rw [show A.in1.handled=none from hh] | rw [hh]
 exact wpAny_bind (wpAny_pure (wpAny_throw (hE _ _ (((Heap.SameBut.update ..).extBut.push _).push _) ⟨_,Heap.get?_push_size _ rfl,rfl⟩)))
end
theorem dA {prog:Program} {w:World} {A:Around} (hh:A.handled=none) (it t:Addr) (hne:t≠it) (items:Array Value) :
  Draws prog w A it [it,t] items.size (fun i v=>items[i]?=some v) (fun i h=>h.IsTupleIter it t i∧h.IsTuple t items) where
 live:=fun _ _ st=>let ⟨o,ho,_⟩:=st.1;⟨o,ho⟩
 frame:=fun _ _ _ st hk=>⟨st.1.at fun o e=>hk it (by simp) o e,st.2.at fun o e=>hk t (by simp) o e⟩
 item:=fun i s Q E hi st hQ=>qu st.1 st.2 (x:=items[i]) (by simp [hi]) fun h' a b=>hQ _ h' s.toks (by simp [hi]) ⟨a,st.2.extBut b.extBut hne⟩ b
 done:=fun s Q E st hE=>sV hh st.1 st.2 (by simp) hE
structure bT (z TI TO i1 i2:Addr) (fp1 fp2:List Addr):Prop where
 TIz:TI≠z
 TOz:TO≠z
 TITO:TI≠TO
 z1:z∉fp1
 z2:z∉fp2
 TO1:TO∉fp1
 TO2:TO∉fp2
 i12:i1∉fp2
 i21:i2∉fp1
 m1:i1∈fp1
 m2:i2∈fp2
 TI1:TI≠i1
 TI2:TI≠i2
section
variable {prog:Program} {w:World} {A:Around} {E:Value→Shared→Prop} {s:Shared} {z TI TO i1 i2:Addr} {fp1 fp2:List Addr} {n1 n2 k:Nat} {P1 P2:Nat→Value→Prop} {S1 S2:Nat→Heap→Prop} {a b:Value}
theorem bT.i1z (D:bT z TI TO i1 i2 fp1 fp2):i1≠z:=fun e=>D.z1 (e ▸ D.m1)
theorem bT.i2z (D:bT z TI TO i1 i2 fp1 fp2):i2≠z:=fun e=>D.z2 (e ▸ D.m2)
theorem bT.TOi1 (D:bT z TI TO i1 i2 fp1 fp2):TO≠i1:=fun e=>D.TO1 (e ▸ D.m1)
theorem bT.TOi2 (D:bT z TI TO i1 i2 fp1 fp2):TO≠i2:=fun e=>D.TO2 (e ▸ D.m2)
theorem dn {a:Addr} {Q:Option Obj→Shared→Prop} (h:Q (s.heap.get? a) s):wpAny (model prog w) A (loadIfAlive a) Q E s:=
 fun _ _ _=>h
abbrev cv (h:Heap) (z TI TO:Addr) (own:Value) (fl:Bool):Prop:=h.get? z=some { cls:=.type "zip",dict:=none,data:=.fields #[own,.bool fl,.bool false,.ref TI,.ref TO],slots:=#[] }
def ic (h:Heap) (own:Value):Prop:=own=.none∨∃ T:Addr,own=rawInt T∧h.get? T=none
theorem pQ {own:Value} {fl:Bool} {Q:Bool→Shared→Prop} (hz:cv s.heap z TI TO own fl) (hf:ic s.heap own) (h:Q true s):wpAny (model prog w) A (Builtin.SmallTypes.ownedTupleIsFree (.ref z)) Q E s:=by
 unfold Builtin.SmallTypes.ownedTupleIsFree
 rcases hf with rfl | ⟨T,rfl,hT⟩
 ·exact wpAny_bind (wpAny_field hz rfl (x:=.none) rfl (wpAny_pure h))
 ·refine wpAny_bind (wpAny_field hz rfl (x:=rawInt T) rfl ?_)
  refine (show wpAny _ _ (loadIfAlive ((T:Int)).toNat>>=_) _ _ _ from wpAny_bind (dn ?_))
  rw [Int.toNat_natCast,hT]
  exact wpAny_ite_true rfl (wpAny_pure h)
theorem tU {Q:Value→Shared→Prop} (D:bT z TI TO i1 i2 fp1 fp2) (D1:Draws prog w A i1 fp1 n1 P1 S1) (D2:Draws prog w A i2 fp2 n2 P2 S2) {own:Value} {fl:Bool} (hz:cv s.heap z TI TO own fl) (hfr:ic s.heap own) (hTI:IsPair s.heap TI (.ref i1) (.ref i2)) (hTO:IsPair s.heap TO a b)
  (h1:S1 k s.heap) (h2:S2 k s.heap) (l1:k < n1) (l2:k < n2)
  (hQ:∀ x y h' tk,P1 k x→P2 k y→IsZip h' z TI TO (rawInt s.heap.objs.size)→IsPair h' TI (.ref i1) (.ref i2)→IsPair h' TO x y→S1 (k+1) h'→S2 (k+1) h'→IsPair h' s.heap.objs.size x y→h'.objs.size=s.heap.objs.size+1 →
   (∀ c o,c≠z→c≠TO→c≠i1→c≠i2→s.heap.get? c=some o→h'.get? c=some o)→Q (.ref s.heap.objs.size) { s with heap:=h',toks:=tk }) :
  wpAny (model prog w) A (Builtin.«zip.__next__» ⟨[.ref z],[]⟩) (fun fin s'=>∃ v,fin=.done (.ret v)∧Q v s') E s:=by
 refine (show wpAny _ _ (field (.ref z) 2>>=_) _ _ _ from wpAny_bind (wpAny_field hz rfl (x:=.bool false) rfl ?_))
 refine (show wpAny _ _ (field (.ref z) 3>>=_) _ _ _ from wpAny_bind (wpAny_field hz rfl (x:=.ref TI) rfl ?_))
 refine wpAny_bind (wpAny_seqItems hTI rfl ?_)
 refine (show wpAny _ _ (Builtin.SmallTypes.ownedTupleIsFree (.ref z)>>=_) _ _ _ from wpAny_bind (pQ hz hfr ?_))
 simp only [if_true]
 refine wpAny_bind (wpAny_rule (wpAny_bind (wpAny_field hz rfl (x:=.ref TO) rfl ?_)))
 refine wpAny_bind (wpAny_setField_rec hz (by simp) fun g1 hz1 e1=>?_)
 replace hz1:cv g1 z TI TO .ellipsis fl:=hz1
 replace e1:Heap.SameBut z s.heap g1:=e1
 refine wpAny_bind ?_
 simp only [List.zipIdx_cons,List.zipIdx_nil,List.forIn_cons,List.forIn_nil]
 refine wpAny_bind (wpAny_bind (wpAny_onRaise ?_))
 have q1:S1 k g1:=D1.frame _ _ _ h1 fun c hc o q=>e1.extBut c o (fun y=>D.z1 (y ▸ hc)) q
 have q2:S2 k g1:=D2.frame _ _ _ h2 fun c hc o q=>e1.extBut c o (fun y=>D.z2 (y ▸ hc)) q
 refine (show wpAny _ _ (Builtin.SmallTypes.nextOf (.ref i1)>>=_) _ _ _ from wpAny_bind (D1.item k _ _ _ l1 q1 fun x g2 t2 p1 q1' e2=>wpAny_pure ?_))
 replace e2:Heap.SameBut i1 g1 g2:=e2
 have hTO2:IsPair g2 TO a b:=e2.extBut _ _ D.TOi1 (e1.extBut _ _ D.TOz hTO)
 refine wpAny_bind (wpAny_seqItems hTO2 rfl (wpAny_bind (wpAny_updateSeq_pair hTO2 fun g3 hTO3 e3=>?_)))
 replace hTO3:IsPair g3 TO x b:=hTO3
 replace e3:Heap.SameBut TO g2 g3:=e3
 refine wpAny_bind (wpAny_letGo (wpAny_pure ?_))
 refine wpAny_bind (wpAny_bind (wpAny_onRaise ?_))
 have r1:S1 (k+1) g3:=D1.frame _ _ _ q1' fun c hc o q=>e3.extBut c o (fun y=>D.TO1 (y ▸ hc)) q
 have r2:S2 k g3:=D2.frame _ _ _ q2 fun c hc o q=>e3.extBut c o (fun y=>D.TO2 (y ▸ hc)) (e2.extBut c o (fun y=>D.i12 (y ▸ hc)) q)
 refine (show wpAny _ _ (Builtin.SmallTypes.nextOf (.ref i2)>>=_) _ _ _ from wpAny_bind (D2.item k _ _ _ l2 r2 fun y g4 t4 p2 r2' e4=>wpAny_pure ?_))
 replace e4:Heap.SameBut i2 g3 g4:=e4
 have hTO4:IsPair g4 TO x b:=e4.extBut _ _ D.TOi2 hTO3
 refine wpAny_bind (wpAny_seqItems hTO4 rfl (wpAny_bind (wpAny_updateSeq_pair hTO4 fun g5 hTO5 e5=>?_)))
 replace hTO5:IsPair g5 TO x y:=hTO5
 replace e5:Heap.SameBut TO g4 g5:=e5
 refine wpAny_bind (wpAny_letGo (wpAny_pure (wpAny_pure ?_)))
 refine wpAny_bind (wpAny_seqItems hTO5 rfl (wpAny_bind (wpAny_newTuple ?_)))
 have hsz:g5.objs.size=s.heap.objs.size:=by rw [e5.1,e4.1,e3.1,e2.1,e1.1]
 have hz5:cv g5 z TI TO .ellipsis fl:=e5.extBut _ _ D.TOz.symm (e4.extBut _ _ D.i2z.symm (e3.extBut _ _ D.TOz.symm (e2.extBut _ _ D.i1z.symm hz1)))
 have k5:∀ c o,c≠z→c≠TO→c≠i1→c≠i2→s.heap.get? c=some o→g5.get? c=some o:=fun c o c1 c2 c3 c4 q=>
  e5.extBut _ _ c2 (e4.extBut _ _ c4 (e3.extBut _ _ c2 (e2.extBut _ _ c3 (e1.extBut _ _ c1 q))))
 have u1:S1 (k+1) g5:=D1.frame _ _ _ r1 fun c hc o q=>e5.extBut c o (fun y=>D.TO1 (y ▸ hc)) (e4.extBut c o (fun y=>D.i21 (y ▸ hc)) q)
 have u2:S2 (k+1) g5:=D2.frame _ _ _ r2' fun c hc o q=>e5.extBut c o (fun y=>D.TO2 (y ▸ hc)) q
 have hzl:z < g5.objs.size:=Heap.lt_size hz5
 refine (show wpAny _ _ (Builtin.SmallTypes.ownedTupleHandOut (.ref z) (.ref g5.objs.size)>>=_) _ _ _ from wpAny_bind ?_)
 unfold Builtin.SmallTypes.ownedTupleHandOut
 have hz6:cv (g5.push { cls:=.type "tuple",data:=.seq #[x,y] }) z TI TO .ellipsis fl:=Heap.get?_push_of_some _ hz5
 refine wpAny_bind (wpAny_setField_rec hz6 (by simp) fun g7 hz7 e7=>?_)
 replace hz7:cv g7 z TI TO (rawInt g5.objs.size) fl:=hz7
 refine wpAny_setField_rec hz7 (by simp) fun g8 hz8 e8=>?_
 replace hz8:IsZip g8 z TI TO (rawInt g5.objs.size):=hz8
 replace e7:Heap.SameBut z (g5.push { cls:=.type "tuple",data:=.seq #[x,y] }) g7:=e7
 replace e8:Heap.SameBut z g7 g8:=e8
 have up:∀ c o,c≠z→g5.get? c=some o→g8.get? c=some o:=fun c o c1 q=>e8.extBut _ _ c1 (e7.extBut _ _ c1 (Heap.get?_push_of_some _ q))
 have hT8:IsPair g8 g5.objs.size x y:=e8.extBut _ _ (Nat.ne_of_gt hzl) (e7.extBut _ _ (Nat.ne_of_gt hzl) (Heap.get?_push_size _ rfl))
 have z8:g8.objs.size=g5.objs.size+1:=by rw [e8.1,e7.1,Heap.size_push]
 rw [hsz] at hz8 hT8 z8
 refine wpAny_pure ⟨_,rfl,?_⟩
 show Q (.ref g5.objs.size) _
 rw [hsz]
 exact hQ x y g8 _ p1 p2 hz8 (up _ _ D.TIz (k5 _ _ D.TIz D.TITO D.TI1 D.TI2 hTI)) (up _ _ D.TOz hTO5) (D1.frame _ _ _ u1 fun c hc o q=>up c o (fun y=>D.z1 (y ▸ hc)) q) (D2.frame _ _ _ u2 fun c hc o q=>up c o (fun y=>D.z2 (y ▸ hc)) q) hT8 z8
  fun c o c1 c2 c3 c4 q=>up c o c1 (k5 c o c1 c2 c3 c4 q)
theorem uH {Q:PySem.Fin→Shared→Prop} (D:bT z TI TO i1 i2 fp1 fp2) (D1:Draws prog w A i1 fp1 n1 P1 S1) (D2:Draws prog w A i2 fp2 n2 P2 S2) {own:Value} {fl:Bool} (hz:cv s.heap z TI TO own fl) (hfr:ic s.heap own) (hTI:IsPair s.heap TI (.ref i1) (.ref i2)) (hTO:IsPair s.heap TO a b)
  (h1:S1 k s.heap) (h2:S2 k s.heap) (hend:k=n1∨(k < n1∧k=n2))
  (hE:∀ h' e tk,(∀ c o,c≠z→c≠TO→c≠i1→c≠i2→s.heap.get? c=some o→h'.get? c=some o)→(∃ o,h'.get? e=some o∧o.cls=.type "StopIteration")→E (.ref e) { s with heap:=h',toks:=tk }) :
  wpAny (model prog w) A (Builtin.«zip.__next__» ⟨[.ref z],[]⟩) Q E s:=by
 refine (show wpAny _ _ (field (.ref z) 2>>=_) _ _ _ from wpAny_bind (wpAny_field hz rfl (x:=.bool false) rfl ?_))
 refine (show wpAny _ _ (field (.ref z) 3>>=_) _ _ _ from wpAny_bind (wpAny_field hz rfl (x:=.ref TI) rfl ?_))
 refine wpAny_bind (wpAny_seqItems hTI rfl ?_)
 refine (show wpAny _ _ (Builtin.SmallTypes.ownedTupleIsFree (.ref z)>>=_) _ _ _ from wpAny_bind (pQ hz hfr ?_))
 simp only [if_true]
 refine wpAny_bind (wpAny_rule (wpAny_bind (wpAny_field hz rfl (x:=.ref TO) rfl ?_)))
 refine wpAny_bind (wpAny_setField_rec hz (by simp) fun g1 hz1 e1=>?_)
 replace hz1:cv g1 z TI TO .ellipsis fl:=hz1
 replace e1:Heap.SameBut z s.heap g1:=e1
 refine wpAny_bind ?_
 simp only [List.zipIdx_cons,List.zipIdx_nil,List.forIn_cons,List.forIn_nil]
 refine wpAny_bind (wpAny_bind (wpAny_onRaise ?_))
 have q1:S1 k g1:=D1.frame _ _ _ h1 fun c hc o q=>e1.extBut c o (fun y=>D.z1 (y ▸ hc)) q
 have q2:S2 k g1:=D2.frame _ _ _ h2 fun c hc o q=>e1.extBut c o (fun y=>D.z2 (y ▸ hc)) q
 rcases hend with hk | ⟨hk,hk2⟩
 ·subst hk
  refine (show wpAny _ _ (Builtin.SmallTypes.nextOf (.ref i1)>>=_) _ _ _ from wpAny_bind (D1.done _ _ _ q1 fun g2 e e2 he=>?_))
  obtain ⟨oe,hoe,hce⟩:=he
  replace e2:Heap.ExtBut i1 g1 g2:=e2
  have hz2:cv g2 z TI TO .ellipsis fl:=e2 _ _ D.i1z.symm hz1
  have hez:e≠z:=fun x=>by subst x;rw [hz2] at hoe;cases hoe;simp at hce
  refine wpAny_setField_rec hz2 (by simp) fun g3 _ e3=>hE g3 e _ (fun c o c1 _ c3 _ q=>e3.extBut _ _ c1 (e2 _ _ c3 (e1.extBut _ _ c1 q))) ⟨oe,e3.extBut _ _ hez hoe,hce⟩
 ·subst hk2
  refine (show wpAny _ _ (Builtin.SmallTypes.nextOf (.ref i1)>>=_) _ _ _ from wpAny_bind (D1.item k _ _ _ hk q1 fun x g2 t2 p1 q1' e2=>wpAny_pure ?_))
  replace e2:Heap.SameBut i1 g1 g2:=e2
  have hTO2:IsPair g2 TO a b:=e2.extBut _ _ D.TOi1 (e1.extBut _ _ D.TOz hTO)
  refine wpAny_bind (wpAny_seqItems hTO2 rfl (wpAny_bind (wpAny_updateSeq_pair hTO2 fun g3 hTO3 e3=>?_)))
  replace e3:Heap.SameBut TO g2 g3:=e3
  refine wpAny_bind (wpAny_letGo (wpAny_pure ?_))
  refine wpAny_bind (wpAny_bind (wpAny_onRaise ?_))
  have r2:S2 k g3:=D2.frame _ _ _ q2 fun c hc o q=>e3.extBut c o (fun y=>D.TO2 (y ▸ hc)) (e2.extBut c o (fun y=>D.i12 (y ▸ hc)) q)
  refine (show wpAny _ _ (Builtin.SmallTypes.nextOf (.ref i2)>>=_) _ _ _ from wpAny_bind (D2.done _ _ _ r2 fun g4 e e4 he=>?_))
  obtain ⟨oe,hoe,hce⟩:=he
  replace e4:Heap.ExtBut i2 g3 g4:=e4
  have hz4:cv g4 z TI TO .ellipsis fl:=e4 _ _ D.i2z.symm (e3.extBut _ _ D.TOz.symm (e2.extBut _ _ D.i1z.symm hz1))
  have hez:e≠z:=fun x=>by subst x;rw [hz4] at hoe;cases hoe;simp at hce
  refine wpAny_setField_rec hz4 (by simp) fun g5 _ e5=>hE g5 e _ (fun c o c1 c2 c3 c4 q=>e5.extBut _ _ c1 (e4 _ _ c4 (e3.extBut _ _ c2 (e2.extBut _ _ c3 (e1.extBut _ _ c1 q))))) ⟨oe,e5.extBut _ _ hez hoe,hce⟩
end
section
variable {prog:Program} {w:World} {A:Around} {E:Value→Shared→Prop} {s:Shared} {z TI TO i1 i2:Addr} {fp1 fp2:List Addr} {n1 n2 k:Nat} {P1 P2:Nat→Value→Prop} {S1 S2:Nat→Heap→Prop} {a b:Value}
theorem l7 {Q:Option Value→Shared→Prop} (D:bT z TI TO i1 i2 fp1 fp2) (D1:Draws prog w A.in1 i1 fp1 n1 P1 S1) (D2:Draws prog w A.in1 i2 fp2 n2 P2 S2) {own:Value} {fl:Bool} (hz:cv s.heap z TI TO own fl) (hfr:ic s.heap own) (hTI:IsPair s.heap TI (.ref i1) (.ref i2)) (hTO:IsPair s.heap TO a b)
  (h1:S1 k s.heap) (h2:S2 k s.heap) (l1:k < n1) (l2:k < n2)
  (hQ:∀ x y h' tk,P1 k x→P2 k y→IsZip h' z TI TO (rawInt s.heap.objs.size)→IsPair h' TI (.ref i1) (.ref i2)→IsPair h' TO x y→S1 (k+1) h'→S2 (k+1) h'→IsPair h' s.heap.objs.size x y→h'.objs.size=s.heap.objs.size+1 →
   (∀ c o,c≠z→c≠TO→c≠i1→c≠i2→s.heap.get? c=some o→h'.get? c=some o)→Q (some (.ref s.heap.objs.size)) { s with heap:=h',toks:=tk }) :
  wpAny (model prog w) A (pyNext (.ref z)) Q E s:=by
 have hT:s.TypeIs (.ref z) "zip":=⟨_,hz,rfl⟩
 unfold pyNext
 exact wpAny_bind (wpAny_attempt (wpAny_callSpecial?_slot (name:=Str.ofString "__next__") hT F.slot_zip_next (wpAny_call_entry F.slot_zip_next hT F.entry_zip_next
  (tU D D1 D2 hz hfr hTI hTO h1 h2 l1 l2 fun x y h' tk a1 a2 a3 a4 a5 a6 a7 a8 a9 a10=>wpAny_pure (hQ x y h' tk a1 a2 a3 a4 a5 a6 a7 a8 a9 a10)) (F.args_zip_next_1 _))))
theorem oz {Q:Option Value→Shared→Prop} (D:bT z TI TO i1 i2 fp1 fp2) (D1:Draws prog w A.in1 i1 fp1 n1 P1 S1) (D2:Draws prog w A.in1 i2 fp2 n2 P2 S2) {own:Value} {fl:Bool} (hz:cv s.heap z TI TO own fl) (hfr:ic s.heap own) (hTI:IsPair s.heap TI (.ref i1) (.ref i2)) (hTO:IsPair s.heap TO a b)
  (h1:S1 k s.heap) (h2:S2 k s.heap) (hend:k=n1∨(k < n1∧k=n2))
  (hQ:∀ h' tk,(∀ c o,c≠z→c≠TO→c≠i1→c≠i2→s.heap.get? c=some o→h'.get? c=some o)→Q none { s with heap:=h',toks:=tk }):wpAny (model prog w) A (pyNext (.ref z)) Q E s:=by
 have hT:s.TypeIs (.ref z) "zip":=⟨_,hz,rfl⟩
 unfold pyNext
 refine wpAny_bind (wpAny_attempt (wpAny_callSpecial?_slot (name:=Str.ofString "__next__") hT F.slot_zip_next (wpAny_call_entry F.slot_zip_next hT F.entry_zip_next
  (uH D D1 D2 hz hfr hTI hTO h1 h2 hend fun h' e tk hk he=>?_) (F.args_zip_next_1 _))))
 obtain ⟨o,ho,hc⟩:=he
 exact wpAny_bind (wpAny_isInstance (T:="StopIteration") (b:=true) ⟨o,ho,hc⟩ isSubtype_stop (wpAny_pure (hQ _ tk hk)))
abbrev zT (h:Heap) (t:Addr):Heap:=h.push { cls:=.type "tuple_iterator",data:=.fields #[.ref t,.int 0 0] }
abbrev zTT (h:Heap) (t u:Addr):Heap:=zT (zT h t) u
abbrev zPI (h:Heap) (t u:Addr):Heap:=(zTT h t u).push { cls:=.type "tuple",data:=.seq #[.ref h.objs.size,.ref (zT h t).objs.size] }
abbrev zPO (h:Heap) (t u:Addr):Heap:=(zPI h t u).push { cls:=.type "tuple",data:=.seq #[.none,.none] }
abbrev lN (h:Heap) (t u:Addr):Heap:=(zPO h t u).push { cls:=.type "zip",data:=.fields #[.none,.bool false,.bool false,.ref (zTT h t u).objs.size,.ref (zPI h t u).objs.size] }
theorem uL (t u:Addr) (xs ys:Array Value):Meets (Builtin.«zip.__new__» ⟨[.type "zip",.ref t,.ref u],[]⟩) (fun _ R s=>s.heap.IsTuple t xs∧s.heap.IsTuple u ys∧R (.ok (.ret (.ref (zPO s.heap t u).objs.size))) { s with heap:=lN s.heap t u }):=
 .of_wp fun prog w A R s h=>by
  obtain ⟨hp,g,d,tk,os⟩:=s
  obtain ⟨ht,hu,h⟩:=h
  have hsub:=sub_zip
  have h1:Heap.IsTuple (Shared.heap ⟨hp,g,d,tk,os⟩) t xs:=ht
  have h2:Heap.IsTuple (Shared.heap ⟨hp.push { cls:=.type "tuple_iterator",data:=.fields #[.ref t,.int 0 0] },g,d,tk,os⟩) u ys:=by
   obtain ⟨o,e,r⟩:=hu
   exact ⟨o,Heap.get?_push_of_some _ e,r⟩
  wp_walk using wpAny_pyIter_tuple h1,wpAny_pyIter_tuple h2
  exact ⟨_,rfl,h⟩
theorem lW {t u:Addr} {xs ys:Array Value} {Q:Value→Shared→Prop} (ht:s.heap.IsTuple t xs) (hu:s.heap.IsTuple u ys)
  (h:∀ h',IsZip h' (s.heap.objs.size+4) (s.heap.objs.size+2) (s.heap.objs.size+3) .none→IsPair h' (s.heap.objs.size+2) (.ref s.heap.objs.size) (.ref (s.heap.objs.size+1))→IsPair h' (s.heap.objs.size+3) .none .none →
   h'.IsTupleIter s.heap.objs.size t 0→h'.IsTupleIter (s.heap.objs.size+1) u 0→(∀ c o,s.heap.get? c=some o→h'.get? c=some o)→Q (.ref (s.heap.objs.size+4)) { s with heap:=h' }) :
  wpAny (model prog w) A (call (.type "zip") [.ref t,.ref u]) Q E s:=by
 refine callType_new F.called_zip (by decide) (F.typeCall_zip_2 _ _) (F.newCall_zip_2 _ _) (fun obj=>F.args_object_init_3 obj _ _) F.entry_zip_new (uL t u xs ys) ⟨ht,hu,?_⟩
 have s1:(zT s.heap t).objs.size=s.heap.objs.size+1:=Heap.size_push ..
 have s2:(zTT s.heap t u).objs.size=s.heap.objs.size+2:=by rw [Heap.size_push,s1]
 have s3:(zPI s.heap t u).objs.size=s.heap.objs.size+3:=by rw [Heap.size_push,s2]
 have s4:(zPO s.heap t u).objs.size=s.heap.objs.size+4:=by rw [Heap.size_push,s3]
 have g5:(lN s.heap t u).get? (zPO s.heap t u).objs.size=some _:=Heap.get?_push_size _ rfl
 have g4:(lN s.heap t u).get? (zPI s.heap t u).objs.size=some _:=Heap.get?_push_of_some _ (Heap.get?_push_size _ rfl)
 have g3:(lN s.heap t u).get? (zTT s.heap t u).objs.size=some _:=Heap.get?_push_of_some _ (Heap.get?_push_of_some _ (Heap.get?_push_size _ rfl))
 have g2:(lN s.heap t u).get? (zT s.heap t).objs.size=some _:=Heap.get?_push_of_some _ (Heap.get?_push_of_some _ (Heap.get?_push_of_some _ (Heap.get?_push_size _ rfl)))
 have g1:(lN s.heap t u).get? s.heap.objs.size=some _:=Heap.get?_push_of_some _ (Heap.get?_push_of_some _ (Heap.get?_push_of_some _ (Heap.get?_push_of_some _ (Heap.get?_push_size _ rfl))))
 show _∧_
 rw [s2,s3,s4] at g5
 rw [s1,s2] at g3
 rw [s3] at g4
 rw [s1] at g2
 rw [s4]
 exact ⟨⟨_,g5,rfl⟩,h _ g5 g3 g4 ⟨_,g1,rfl,rfl⟩ ⟨_,g2,rfl,rfl⟩ fun c o q=>Heap.get?_push_of_some _ (Heap.get?_push_of_some _ (Heap.get?_push_of_some _ (Heap.get?_push_of_some _ (Heap.get?_push_of_some _ q))))⟩
end
def Itz (t u:Addr):It:=
  ⟨fun i H=>∃ xs ys x y,H t=some (.tup xs)∧H u=some (.tup ys)∧xs[i]?=some x∧ys[i]?=some y,fun i H v H'=>∃ p x y,H p=none∧v=.ref p∧H'=upd H p (.tup [x,y])∧(∀ xs,H t=some (.tup xs)→xs[i]?=some x)∧∀ ys,H u=some (.tup ys)→ys[i]?=some y,
   fun i H=>∃ xs ys,H t=some (.tup xs)∧H u=some (.tup ys)∧i≤xs.length∧i≤ys.length∧(i=xs.length∨i=ys.length)⟩
theorem mT {N t u:Addr} (ht:∀ c∈[N+4,N+2,N+3,N,N+1],t≠c) (hu:∀ c∈[N+4,N+2,N+3,N,N+1],u≠c):bT (N+4) (N+2) (N+3) N (N+1) [N,t] [N+1,u]:=by
 have d:∀ i j:Nat,i≠j→(N+i:Nat)≠N+j:=fun i j h e=>h (Nat.add_left_cancel e)
 have t4:=ht (N+4) (by simp);have t3:=ht (N+3) (by simp);have t1:=ht (N+1) (by simp)
 have u4:=hu (N+4) (by simp);have u3:=hu (N+3) (by simp);have u0:=hu N (by simp)
 refine ⟨d 2 4 (by decide),d 3 4 (by decide),d 2 3 (by decide),fun h=>?_,fun h=>?_,fun h=>?_,fun h=>?_,fun h=>?_,fun h=>?_,by simp,by simp,d 2 0 (by decide),d 2 1 (by decide)⟩
 ·rcases List.mem_cons.mp h with z | z
  ·exact d 4 0 (by decide) z
  ·exact t4 (List.mem_singleton.mp z).symm
 ·rcases List.mem_cons.mp h with z | z
  ·exact d 4 1 (by decide) z
  ·exact u4 (List.mem_singleton.mp z).symm
 ·rcases List.mem_cons.mp h with z | z
  ·exact d 3 0 (by decide) z
  ·exact t3 (List.mem_singleton.mp z).symm
 ·rcases List.mem_cons.mp h with z | z
  ·exact d 3 1 (by decide) z
  ·exact u3 (List.mem_singleton.mp z).symm
 ·rcases List.mem_cons.mp h with z | z
  ·exact d 0 1 (by decide) z
  ·exact u0 (List.mem_singleton.mp z).symm
 ·rcases List.mem_cons.mp h with z | z
  ·exact d 1 0 (by decide) z
  ·exact t1 (List.mem_singleton.mp z).symm
section
variable {prog:Program} {w:World} {A:Around} {E:Value→Shared→Prop} {s:Shared}
theorem vk {t sl:Addr} {items:Array Value} {vl vu:Value} {lo hi:Option Int} {Q:Value→Shared→Prop} (ht:IsTup s.heap t items) (hs:s.heap.IsSliceOf sl vl vu .none) (pl:IsPart vl lo) (pu:IsPart vu hi)
    (hw:HT.sIx items.size 0 lo=0∧HT.sIx items.size items.size hi=items.size) (h:Q (.ref t) s):wpAny (model prog w) A (getItem (.ref t) (.ref sl)) Q E s:=by
  obtain ⟨os,hos,hcs,hds⟩:=id hs
  have hTs:s.TypeIs (.ref sl) "slice":=⟨os,hos,hcs⟩
  unfold getItem
  try with_reducible refine wpAny_holding ?_
  first | refine wpAny_bind (wpAny_pure ?_) | skip
  refine wpAny_bind (wpAny_sequenceKey ht.typeIs (by decide) ?_)
  refine wpAny_bind (wpAny_callSpecial?_slot (name:=Str.ofString "__getitem__") ht.typeIs PyProof.Rows.slot_tuple_getitem (wpAny_call_entry PyProof.Rows.slot_tuple_getitem ht.typeIs entry_tuple_getitem ?_ (args_tuple_getitem _ _)))
  refine (show wpAny _ _ (Builtin.Tuple.tupleItemsOf (.ref t)>>=_) _ _ s from wpAny_bind (tupleItemsOf_ ht (wpAny_bind (wpAny_typeOf hTs ?_))))
  rw [if_pos (by decide)]
  refine wpAny_bind (HT.fS hs pl pu ?_)
  have yes:(((HT.sIx items.size 0 lo:Nat):Int) == 0 && (1:Int) == 1 && (HT.sIx items.size items.size hi - HT.sIx items.size 0 lo) == items.size)=true:=by
    rw [hw.1,hw.2];simp
  show wpAny _ _ (if (((HT.sIx items.size 0 lo:Nat):Int) == 0 && (1:Int) == 1 && (HT.sIx items.size items.size hi - HT.sIx items.size 0 lo) == items.size)=true then _ else _) _ _ s
  rw [if_pos yes]
  obtain ⟨o,ho,hcl,n,hd⟩:=id ht
  have hT:s.TypeIs (.ref t) "tuple":=⟨o,ho,hcl⟩
  have hx:wpAny (model prog w) A.in1 (Builtin.Tuple.tupleIsExact (.ref t)) (fun b s'=>b=true∧s'=s) E s:=by
    unfold Builtin.Tuple.tupleIsExact
    first
      | exact wpAny_bind (wpAny_typeOf hT (wpAny_pure ⟨by decide,rfl⟩))
      | (refine wpAny_bind (wpAny_typeOf hT ?_);exact wpAny_pure ⟨by simp,rfl⟩)
  refine wpAny_bind (wpAny_mono hx (fun b s' hb=>?_) fun _ _ x=>x)
  obtain ⟨rfl,rfl⟩:=hb
  rw [if_pos rfl]
  exact wpAny_bind (wpAny_rule (wpAny_pure ⟨_,rfl,wpAny_pure h⟩))
theorem Bs {t b:Addr} {ws:List Value} {Q:Value→Shared→Prop} (ht:IsTup s.heap t ([]:List Value).toArray) (hb:IsTup s.heap b ws.toArray) (h:Q (.ref b) s):wpAny (model prog w) A (binaryOp .Add (.ref t) (.ref b)) Q E s:=by
 obtain ⟨⟨cls,dd,data,sl⟩,ho,hc,n,hd⟩:=id ht
 obtain ⟨⟨cls2,dd2,data2,sl2⟩,ho2,hc2,n2,hd2⟩:=id hb
 simp only at hc hd hc2 hd2
 subst hc hd hc2 hd2
 exact concat_meets ⟨_,ho,rfl⟩ ⟨_,ho2,rfl⟩ noFill_tuple_add seq_tuple_add PySem.F.slot_tuple_add PySem.F.entry_tuple_add (PySem.F.args_tuple_add_2 _ _) (tuple_addW0 t b _ _ n n2 dd dd2 sl sl2 (by simp)) ⟨ho,ho2,h⟩
end
section
variable {X:Cx}
def fJ (n:Nat) (lo hi:Option Int):Prop:=HT.sIx n 0 lo=0∧HT.sIx n n hi=n
instance (n:Nat) (lo hi:Option Int):Decidable (fJ n lo hi):=inferInstanceAs (Decidable (_∧_))
def Dd (K:PySem.W.Frag):V→Option Int→Option Int→Hp→VK→Prop:=fun x lo hi H Q=>∃ a xs,x=.ref a∧SqT K H a xs∧(fJ xs.length lo hi→Q (.ref a) H)∧(¬fJ xs.length lo hi→∀ p,H p=none→Q (.ref p) (upd H p (.tup (fK xs lo hi))))
theorem yS:SlR X (Dd X.K):=by
 intro pins s σ H x v vl vu lo hi sl Q I rx hs pl pu h
 obtain ⟨a,xs,rfl,hx,q1,q2⟩:=h
 by_cases hw:fJ xs.length lo hi
 ·cases rx
  obtain ⟨its,r,ht,hz⟩:=I.tuple hx
  have hlen:its.toArray.size=xs.length:=by rw [List.size_toArray];exact r.length.symm
  refine ⟨"tuple",_,PyProof.Rows.slot_tuple_getitem.lookup,ht.typeIs,?_⟩
  exact vk ht hs pl pu (by rw [hlen];exact hw) ⟨.ref a,H,I,rfl,q1 hw⟩
 ·exact Aw pins s σ H (.ref a) v vl vu lo hi sl Q I rx hs pl pu ⟨a,xs,rfl,hx,hw,q2 hw⟩
def zU (K:PySem.W.Frag):R2:=fun x y H Q=>∃ a b xs ys,x=.ref a∧y=.ref b∧SqT K H a xs∧SqT K H b ys∧xs.length+ys.length≤sizeLine ∧
 (xs=[]→Q (.ref b) H)∧(xs≠[]→ys=[]→Q (.ref a) H)∧(xs≠[]→ys≠[]→∀ p,H p=none→Q (.ref p) (upd H p (.tup (xs++ys))))
theorem uU:OpR X (binaryOp .Add) (zU X.K):=by
 intro pins s σ H x y v u Q I rx ry h
 obtain ⟨a,b,xs,ys,rfl,rfl,ha,hb,hz,q1,q2,q3⟩:=h
 by_cases hx:xs=[]
 ·cases rx
  cases ry
  obtain ⟨its,r1,p1,_⟩:=I.tuple ha
  obtain ⟨its2,r2,p2,_⟩:=I.tuple hb
  obtain rfl:its=[]:=r1.jo.mpr hx
  exact Bs p1 p2 ⟨.ref b,H,I,rfl,q1 hx⟩
 ·exact yL pins s σ H (.ref a) (.ref b) v u Q I rx ry ⟨a,b,xs,ys,rfl,rfl,ha,hb,hx,hz,q2 hx,q3 hx⟩
def uE:R2:=fun x y H Q=>∃ d e,Rep H x d∧Rep H y e∧D.depth d≤50∧((∃ ds es,d=.tup ds∧e=.tup es)∨∃ ds es,d=.lst ds∧e=.lst es)∧Q (.bl (D.eqv d e)) H
def vN:R2:=fun x y H Q=>∃ d e,Rep H x d∧Rep H y e∧D.depth d≤50∧((∃ ds es,d=.tup ds∧e=.tup es)∨∃ ds es,d=.lst ds∧e=.lst es)∧Q (.bl (!D.eqv d e)) H
theorem h8 {pins:List (Addr×Obj)} {σ:St} {H:Hp} {s:Shared} {A:Around} {vs us:List V} {ds es:List D} {its its2:List Value} (I:Inv X pins σ H s) (hu:A.units+64 < cLine) (hd:D.ck ds≤50) (r1:Vals vs its) (r2:Vals us its2) (q1:av H vs ds) (q2:av H us es) :
  ∀ j (h1:j < its.toArray.size) (h2:j < its2.toArray.size),SeqAt.EqAt A.in1 s its.toArray[j] its2.toArray[j] (D.eqv (ds.getD j .non) (es.getD j .non)):=by
 intro j h1 h2
 have h1':j < its.length:=by simpa using h1
 have h2':j < its2.length:=by simpa using h2
 have l1:=r1.length
 have l2:=r2.length
 have e1:vs[j]?=some (vs[j]'(by omega)):=List.getElem?_eq_getElem _
 have e2:us[j]?=some (us[j]'(by omega)):=List.getElem?_eq_getElem _
 obtain ⟨a1,b1,c1⟩:=r1.get e1
 obtain ⟨a2,b2,c2⟩:=r2.get e2
 obtain ⟨f1,g1,k1⟩:=q1.get e1
 obtain ⟨f2,g2,k2⟩:=q2.get e2
 have z1:its.toArray[j]=a1:=by
  have:its[j]?=some its[j]:=List.getElem?_eq_getElem h1'
  rw [b1] at this
  simpa using (Option.some.inj this).symm
 have z2:its2.toArray[j]=a2:=by
  have:its2[j]?=some its2[j]:=List.getElem?_eq_getElem h2'
  rw [b2] at this
  simpa using (Option.some.inj this).symm
 rw [z1,z2,List.getD_eq_getElem?_getD,List.getD_eq_getElem?_getD,g1,g2]
 exact tW I 60 A.in1 _ _ _ _ _ _ (by show A.units+1+60 < cLine;omega) (Nat.le_trans (D.fz g1) (by omega)) c1 c2 k1 k2
theorem zw (hu:X.A.units+64 < cLine):OpR X (compareOp .Eq) uE:=by
 intro pins s σ H x y v u Q I rx ry h
 obtain ⟨d,e,r1,r2,hd,hk,q⟩:=h
 rcases hk with ⟨ds,es,rfl,rfl⟩ | ⟨ds,es,rfl,rfl⟩
 ·cases r1 with
  | tup h1 q1=>
   cases r2 with
   | tup h2 q2=>
    cases rx;cases ry
    obtain ⟨its,rv1,p1,_⟩:=I.tuple (SqT.of h1)
    obtain ⟨its2,rv2,p2,_⟩:=I.tuple (SqT.of h2)
    refine SeqAt.eq_tupleAt (e:=fun j=>D.eqv (ds.getD j .non) (es.getD j .non)) p1 p2 (by omega) (h8 I hu (by simp only [D.depth] at hd;omega) rv1 rv2 q1 q2) ⟨.bl _,H,I,rfl,?_⟩
    rw [List.size_toArray,List.size_toArray,← rv1.length,← rv2.length,q1.length,q2.length,← D.bZ]
    simpa only [D.eqv] using q
 ·cases r1 with
  | lst h1 q1=>
   cases r2 with
   | lst h2 q2=>
    cases rx;cases ry
    obtain ⟨its,rv1,p1,_⟩:=I.list (SqL.of h1)
    obtain ⟨its2,rv2,p2,_⟩:=I.list (SqL.of h2)
    have l1:=rv1.length
    have l2:=rv2.length
    have m1:=q1.length
    have m2:=q2.length
    by_cases hl:ds.length=es.length
    ·refine SeqAt.eq_listAt (e:=fun j=>D.eqv (ds.getD j .non) (es.getD j .non)) p1.isList p2.isList (by simp;omega) (by omega) (h8 I hu (by simp only [D.depth] at hd;omega) rv1 rv2 q1 q2) ⟨.bl _,H,I,rfl,?_⟩
     have z:D.cW ds es=(List.range its.toArray.size).all fun j=>D.eqv (ds.getD j .non) (es.getD j .non):=by
      rw [D.bZ,← hl,Nat.min_self,List.size_toArray,← l1,m1];simp
     rw [← z]
     simpa only [D.eqv] using q
    ·refine SeqAt.eq_list_lengthsAt p1.isList p2.isList (by simp;omega) (by omega) ⟨.bl _,H,I,rfl,?_⟩
     have z:D.cW ds es=false:=by rw [D.bZ];simp [hl]
     simpa only [D.eqv,z] using q
theorem zq (hu:X.A.units+64 < cLine):OpR X (compareOp .NotEq) vN:=by
 intro pins s σ H x y v u Q I rx ry h
 obtain ⟨d,e,r1,r2,hd,hk,q⟩:=h
 rcases hk with ⟨ds,es,rfl,rfl⟩ | ⟨ds,es,rfl,rfl⟩
 ·cases r1 with
  | tup h1 q1=>
   cases r2 with
   | tup h2 q2=>
    cases rx;cases ry
    obtain ⟨its,rv1,p1,_⟩:=I.tuple (SqT.of h1)
    obtain ⟨its2,rv2,p2,_⟩:=I.tuple (SqT.of h2)
    refine SeqAt.RcNeAt.tuples (e:=fun j=>D.eqv (ds.getD j .non) (es.getD j .non)) p1 p2 (by omega) (h8 I hu (by simp only [D.depth] at hd;omega) rv1 rv2 q1 q2) _ _ _ _ ⟨.bl _,H,I,rfl,?_⟩
    rw [List.size_toArray,List.size_toArray,← rv1.length,← rv2.length,q1.length,q2.length,← D.bZ]
    simpa only [D.eqv] using q
 ·cases r1 with
  | lst h1 q1=>
   cases r2 with
   | lst h2 q2=>
    cases rx;cases ry
    obtain ⟨its,rv1,p1,_⟩:=I.list (SqL.of h1)
    obtain ⟨its2,rv2,p2,_⟩:=I.list (SqL.of h2)
    have l1:=rv1.length
    have l2:=rv2.length
    have m1:=q1.length
    have m2:=q2.length
    by_cases hl:ds.length=es.length
    ·refine SeqAt.RcNeAt.lists (e:=fun j=>D.eqv (ds.getD j .non) (es.getD j .non)) p1.isList p2.isList (by simp;omega) (by omega) (h8 I hu (by simp only [D.depth] at hd;omega) rv1 rv2 q1 q2) _ _ _ _ ⟨.bl _,H,I,rfl,?_⟩
     have z:D.cW ds es=(List.range its.toArray.size).all fun j=>D.eqv (ds.getD j .non) (es.getD j .non):=by
      rw [D.bZ,← hl,Nat.min_self,List.size_toArray,← l1,m1];simp
     rw [← z]
     simpa only [D.eqv] using q
    ·refine SeqAt.RcNeAt.lists_lengths p1.isList p2.isList (by simp;omega) (by omega) _ _ _ _ ⟨.bl _,H,I,rfl,?_⟩
     have z:D.cW ds es=false:=by rw [D.bZ];simp [hl]
     simpa only [D.eqv,z,Bool.not_false] using q
theorem zh (hu:X.A.units+64 < cLine):OpR X (compareOp .Eq) (fun x y H Q=>rEq x y H Q∨uE x y H Q):=DN.or (zw hu)
theorem Bj (hu:X.A.units+64 < cLine):OpR X (compareOp .NotEq) (fun x y H Q=>rNe x y H Q∨vN x y H Q):=Dx.or (zq hu)
theorem zb:OpR X (compareOp .Is) (fun x y H Q=>uG x y H Q∨(y=.non∧Q (.bl (decide (x=.non))) H)):=vb.or An
theorem pF:∀ {bs:List Bool} {us:List Value},Vals (bs.map V.bl) us→us=bs.map Value.bool
 | [],_,h=>by cases h;rfl
 | b :: bs,_,h=>by
  cases h with
  | cons r t=>cases r;rw [pF t];rfl
theorem tZ (hc:X.calm=true):bI X (.builtin "all") (fun xs H Q=>∃ (p:Addr) (bs:List Bool),xs=[.ref p]∧SqL X.K H p (bs.map V.bl)∧Q (.bl (bs.all id)) H):=by
 intro pins s σ H xs us Q I r h
 obtain ⟨p,bs,rfl,hq,q⟩:=h
 obtain ⟨u,rfl,rx⟩:=vals1 r
 cases rx
 obtain ⟨its,rv,pl,hz⟩:=I.list hq
 have hits:=pF rv
 subst hits
 have hA:X.A.in1.handled=none:=I.ok.hd hc
 obtain ⟨o,ho,hcl,n,hd⟩:=pl.isList
 have hne:p≠s.heap.objs.size:=Nat.ne_of_lt (Heap.lt_size ho)
 refine call_all_walk (wpAny_pyIter_list pl.isList ?_)
 refine ⟨s.heap.objs.size,_,_,_,_,_,fun i=>bs.getD i true,rfl,Walks.list (prog:=X.prog) (w:=X.w) hA s.heap.objs.size p hne (bs.map Value.bool).toArray,⟨⟨_,Heap.get?_push_size _ rfl,rfl,rfl⟩,⟨o,Heap.get?_push_of_some _ ho,hcl,n,hd⟩⟩,?_,fun h' tk hk=>?_⟩
 ·intro i v s' Q' E' hP hQ
  have hP':(bs.map Value.bool).toArray[i]?=some v:=hP
  rw [List.getElem?_toArray,List.getElem?_map] at hP'
  cases e:bs[i]? with
  | none=>rw [e] at hP';cases hP'
  | some b=>
   rw [e] at hP'
   cases hP'
   have hQ:Q' (bs.getD i true) s':=hQ
   rw [List.getD_eq_getElem?_getD,e] at hQ
   exact wpAny_truthy_bool hQ
 ·have z:(List.range (bs.map Value.bool).toArray.size).all (fun i=>bs.getD i true)=bs.all id:=by
   rw [List.size_toArray,List.length_map,Bool.eq_iff_iff,List.all_eq_true,List.all_eq_true]
   constructor
   ·intro h b hb
    obtain ⟨i,hi,e⟩:=List.mem_iff_getElem.mp hb
    have:=h i (List.mem_range.mpr hi)
    rw [List.getD_eq_getElem?_getD,List.getElem?_eq_getElem hi] at this
    simpa [e] using this
   ·intro h i hi
    have hi':=List.mem_range.mp hi
    rw [List.getD_eq_getElem?_getD,List.getElem?_eq_getElem hi']
    exact h _ (List.getElem_mem hi')
  rw [z]
  have I1:Inv X pins σ H { s with heap:=s.heap.push { cls:=.type "list_iterator",data:=.fields #[.ref p,.int 0 0] } }:=I.kept (t':=s.toks) fun b o e=>Heap.get?_push_of_some _ e
  have fk:eF X pins H s.heap.objs.size:=I.jS (Nat.le_refl _) (I.hok.fresh (Nat.le_refl _))
  obtain ⟨f0,f1,f2,f3,f4,f5⟩:=fk
  exact ⟨.bl _,H,I1.turned (t':=tk) (it:=s.heap.objs.size) (fun b o hb e=>hk b o (fun z=>hb (List.mem_singleton.mp z)) e) f0 f1 f3 f4 f5,rfl,q⟩
theorem mV:bI X (.builtin "sorted") (fun xs H Q=>∃ (p:Addr) (ns:List Int),xs=[.ref p]∧SqL X.K H p (ns.map V.int)∧ns.length < 64∧∀ (l:Addr) (ms:List Int),H l=none→List.Perm ms ns→ms.Pairwise (·≤·)→Q (.ref l) (upd H l (.lst (ms.map V.int)))):=by
 intro pins s σ H xs us Q I r h
 obtain ⟨p,ns,rfl,hq,hl,q⟩:=h
 obtain ⟨u,rfl,rx⟩:=vals1 r
 cases rx
 obtain ⟨its,rv,pl,hz⟩:=I.list hq
 have hI:IntsAre its ns:=intsAre_of rv
 have h64:its.length < 64:=by rw [← rv.length,List.length_map];exact hl
 refine sorted_ints pl.isList hI h64 fun out ms hout hperm hpair=>?_
 obtain ⟨e,he⟩:=sortedAll_at s.heap its out
 refine ⟨.ref (s.heap.objs.size+1),_,I.laid (t':=s.toks) (o:=.lst (ms.map V.int)) (fun b ob q=>sortedAll_old q) (Nat.le_succ _) ?_,rfl,q _ ms (I.hok.fresh (Nat.le_succ _)) hperm hpair⟩
 have hlm:ms.length=ns.length:=hperm.length_eq
 exact ⟨by rw [List.length_map];have:(64:Nat)≤sizeLine:=(by decide);omega,out.toList,e,gc hout,by simpa using he⟩
end
def fP (H:Hp) (p:Addr):Option (List V):=match H p with
 | some (.lst xs)=>some xs
 | some (.tup xs)=>some xs
 | _=>none
theorem zi {H:Hp} {p:Addr} {xs:List V} (h:H p=some (.tup xs)):fP H p=some xs:=by unfold fP;rw [h]
theorem BM {H:Hp} {p:Addr} {xs:List V} (h:H p=some (.lst xs)):fP H p=some xs:=by unfold fP;rw [h]
theorem gH {H:Hp} {p:Addr} {xs:List V} (h:fP H p=some xs):H p=some (.lst xs)∨H p=some (.tup xs):=by
 unfold fP at h
 split at h
 ·cases h;exact .inl ‹_›
 ·cases h;exact .inr ‹_›
 ·cases h
section
variable {X:Cx}
def zo:R2:=fun x y H Q=>∃ p i xs v,x=.ref p∧y=.int i∧fP H p=some xs∧atI xs i=some v∧Q v H
theorem Eo:IxR X zo:=by
 intro value slice pins s σ H x y v u Q I rx ry q hs
 obtain ⟨p,i,xs,w',rfl,rfl,h,e,q⟩:=q
 rcases gH h with h | h
 ·exact yP value slice pins s σ H _ _ v u Q I rx ry ⟨p,xs,i,w',rfl,rfl,SqL.of h,e,q⟩ hs
 ·exact zR value slice pins s σ H _ _ v u Q I rx ry ⟨p,xs,i,w',rfl,rfl,SqT.of h,e,q⟩ hs
def wO:List V→Hp→VK→Prop:=fun vs H Q=>∃ p xs,vs=[.ref p]∧fP H p=some xs∧Q (.int xs.length) H
theorem aI:bI X (.builtin "len") wO:=by
 intro pins s σ H vs us Q I r h
 obtain ⟨p,xs,rfl,h,q⟩:=h
 rcases gH h with h | h
 ·exact ow pins s σ H _ us Q I r ⟨_,_,rfl,.inl ⟨xs,SqL.of h,rfl⟩,q⟩
 ·exact ow pins s σ H _ us Q I r ⟨_,_,rfl,.inr ⟨xs,SqT.of h,rfl⟩,q⟩
def tw:List V→Hp→VK→Prop:=fun vs H Q=>∃ p xs,vs=[.ref p]∧fP H p=some xs∧∀ l,H l=none→Q (.ref l) (upd H l (.lst xs))
theorem qY:bI X (.type "list") tw:=by
 intro pins s σ H vs us Q I r h
 obtain ⟨p,xs,rfl,h,q⟩:=h
 rcases gH h with h | h
 ·exact iP pins s σ H _ us Q I r ⟨p,xs,rfl,.inl (SqL.of h),q⟩
 ·exact iP pins s σ H _ us Q I r ⟨p,xs,rfl,.inr (SqT.of h),q⟩
def pY:List V→Hp→VK→Prop:=fun vs H Q=>∃ p,vs=[.ref p]∧((∃ xs,H p=some (.lst xs)∧∀ l,H l=none→Q (.ref l) (upd H l (.tup xs)))∨∃ xs,H p=some (.tup xs)∧Q (.ref p) H)
theorem bp:bI X (.type "tuple") pY:=by
 intro pins s σ H vs us Q I r h
 obtain ⟨p,rfl,⟨xs,h,q⟩ | ⟨xs,h,q⟩⟩:=h
 ·exact ir pins s σ H _ us Q I r ⟨p,xs,rfl,.inl ⟨SqL.of h,q⟩⟩
 ·exact ir pins s σ H _ us Q I r ⟨p,xs,rfl,.inr ⟨SqT.of h,q⟩⟩
def DQ:V→Option Int→Option Int→Hp→VK→Prop:=fun x lo hi H Q=>∃ p,x=.ref p∧((∃ xs,H p=some (.tup xs)∧(fJ xs.length lo hi→Q (.ref p) H)∧(¬fJ xs.length lo hi→∀ l,H l=none→Q (.ref l) (upd H l (.tup (fK xs lo hi))))) ∨
 ∃ xs,H p=some (.lst xs)∧∀ l,H l=none→Q (.ref l) (upd H l (.lst (fK xs lo hi))))
theorem Es:SlR X DQ:=by
 intro pins s σ H x v vl vu lo hi sl Q I rx hs pl pu h
 obtain ⟨p,rfl,⟨xs,h,q1,q2⟩ | ⟨xs,h,q⟩⟩:=h
 ·exact yS pins s σ H _ v vl vu lo hi sl Q I rx hs pl pu ⟨p,xs,rfl,SqT.of h,q1,q2⟩
 ·exact pN pins s σ H _ v vl vu lo hi sl Q I rx hs pl pu ⟨p,xs,rfl,SqL.of h,q⟩
def v7 (neg:Bool):R2:=fun x y H Q=>∃ p xs,y=.ref p∧fP H p=some xs∧dE x=true∧xs.all dE=true∧Q (.bl (if neg then !inV x xs else inV x xs)) H
theorem A9:OpR X (compareOp .In) (v7 false):=by
 intro pins s σ H x y v u Q I rx ry h
 obtain ⟨p,xs,rfl,h,f1,f2,q⟩:=h
 rcases gH h with h | h
 ·exact l6 pins s σ H _ _ v u Q I rx ry ⟨p,xs,rfl,.inl (SqL.of h),f1,f2,q⟩
 ·exact l6 pins s σ H _ _ v u Q I rx ry ⟨p,xs,rfl,.inr (SqT.of h),f1,f2,q⟩
theorem sM:OpR X (compareOp .NotIn) (v7 true):=by
 intro pins s σ H x y v u Q I rx ry h
 obtain ⟨p,xs,rfl,h,f1,f2,q⟩:=h
 rcases gH h with h | h
 ·exact iU pins s σ H _ _ v u Q I rx ry ⟨p,xs,rfl,.inl (SqL.of h),f1,f2,q⟩
 ·exact iU pins s σ H _ _ v u Q I rx ry ⟨p,xs,rfl,.inr (SqT.of h),f1,f2,q⟩
def wj:R2:=fun x y H Q=>(∃ i j,x=.int i∧y=.int j∧Q (.int (i+j)) H)∨∃ a b,x=.ref a∧y=.ref b ∧
  ((∃ xs ys,H a=some (.tup xs)∧H b=some (.tup ys)∧xs.length+ys.length≤sizeLine∧(xs=[]→Q (.ref b) H)∧(xs≠[]→ys=[]→Q (.ref a) H)∧(xs≠[]→ys≠[]→∀ p,H p=none→Q (.ref p) (upd H p (.tup (xs++ys))))) ∨
   ∃ xs ys,H a=some (.lst xs)∧H b=some (.lst ys)∧xs.length+ys.length≤sizeLine∧∀ p,H p=none→Q (.ref p) (upd H p (.lst (xs++ys))))
theorem xZ:OpR X (binaryOp .Add) wj:=by
 intro pins s σ H x y v u Q I rx ry h
 rcases h with ⟨i,j,rfl,rfl,q⟩ | ⟨a,b,rfl,rfl,⟨xs,ys,h1,h2,hz,q1,q2,q3⟩ | ⟨xs,ys,h1,h2,hz,q⟩⟩
 ·exact zl pins s σ H _ _ v u Q I rx ry ⟨i,j,rfl,rfl,q⟩
 ·exact uU pins s σ H _ _ v u Q I rx ry ⟨a,b,xs,ys,rfl,rfl,SqT.of h1,SqT.of h2,hz,q1,q2,q3⟩
 ·exact AH pins s σ H _ _ v u Q I rx ry ⟨a,b,xs,ys,rfl,rfl,h1,h2,hz,q⟩
def AI:R2:=fun x y H Q=>rEq x y H Q∨uE x y H Q
def A6:R2:=fun x y H Q=>rNe x y H Q∨vN x y H Q
theorem bw (hu:X.A.units+64 < cLine):OpR X (compareOp .Eq) AI:=zh hu
theorem tG (hu:X.A.units+64 < cLine):OpR X (compareOp .NotEq) A6:=Bj hu
def BA:R2:=fun x y H Q=>uG x y H Q∨(y=.non∧Q (.bl (decide (x=.non))) H)
theorem nE:OpR X (compareOp .Is) BA:=zb
def wB:List V→Hp→VK→Prop:=fun vs H Q=>∃ (p:Addr) (bs:List Bool),vs=[.ref p]∧H p=some (.lst (bs.map V.bl))∧Q (.bl (bs.all id)) H
theorem dN (hc:X.calm=true):bI X (.builtin "all") wB:=by
 intro pins s σ H vs us Q I r h
 obtain ⟨p,bs,rfl,h,q⟩:=h
 exact tZ hc pins s σ H _ us Q I r ⟨p,bs,rfl,SqL.of h,q⟩
def n8:List V→Hp→VK→Prop:=fun vs H Q=>∃ (p:Addr) (ns:List Int),vs=[.ref p]∧H p=some (.lst (ns.map V.int))∧ns.length < 64∧∀ (l:Addr) (ms:List Int),H l=none→List.Perm ms ns→ms.Pairwise (·≤·)→Q (.ref l) (upd H l (.lst (ms.map V.int)))
theorem nZ:bI X (.builtin "sorted") n8:=by
 intro pins s σ H vs us Q I r h
 obtain ⟨p,ns,rfl,h,hl,q⟩:=h
 exact mV pins s σ H _ us Q I r ⟨p,ns,rfl,SqL.of h,hl,q⟩
def Ax:List V→Hp→VK→Prop:=fun vs H Q=>∃ i j,vs=[.int i,.int j]∧Q (.int (if j > i then j else i)) H
def BQ:List V→Hp→VK→Prop:=fun vs H Q=>∃ i j,vs=[.int i,.int j]∧Q (.int (if j < i then j else i)) H
theorem um (hc:X.calm=true):bI X (.builtin "max") Ax:=tP hc
theorem sL (hc:X.calm=true):bI X (.builtin "min") BQ:=tm hc
def Eh (to te:TE):TE:=fun σ H Q=>to σ H fun x H1=>∃ l xs0,x=.ref l∧H1 l=some (.lst xs0)∧te σ H1 fun y H2=>∃ xs,H2 l=some (.lst xs)∧xs.length < sizeLine∧Q .non (upd H2 l (.lst (xs++[y])))
theorem AA {o e:Expr} {to te:TE} {apos cpos:Pos} (ho:PE X o to) (he:PE X e te)
  (hbase:attributeBase o "append" X.env (eval o X.env)=eval o X.env:=by rfl)
  (hfew:((backTo cpos (starEach [e] X.env)).all (fun x=>!x.1) && (backToKw cpos (keywordEach [] X.env)).all (fun x=>x.1.isSome) && decide ([e].length+([]:List Keyword).length+(if ([]:List Keyword).isEmpty then 0 else 1) < 30))=true:=by rfl)
  (hline:(apos.endLine == cpos.line)=true:=by rfl) (hs:starEach [e] X.env=(false,eval e X.env) :: starEach [] X.env:=by rfl):PE X (.Call (.Attribute o "append" apos) [e] [] cpos) (Eh to te):=by
 intro pins s σ H Q I h
 refine wpAny_Call_method_late hbase hfew hline rfl (thn (ho pins s σ H _ I h) fun v s1 ⟨x,H1,I1,r1,l,xs0,e0,hl,q1⟩=>?_)
 subst e0
 have ty:tyV X.K "list" (.ref l) H1:=.inl ⟨rfl,_,SqL.of hl⟩
 obtain ⟨h1,h2⟩:=sD I1 r1 ty
 refine ⟨"list",_,PySem.F.plainAttrs_list,PySem.F.slot_list_append,PySem.F.type_list_append,h1,h2,?_⟩
 have hA:=(dR he fU hs) cpos pins s1 σ H1 (fun vs H2=>∃ y,vs=[y]∧∃ xs,H2 l=some (.lst xs)∧xs.length < sizeLine∧Q .non (upd H2 l (.lst (xs++[y])))) I1 (by
  refine cast (congrArg (te σ H1) ?_) q1
  funext y H2
  refine propext ⟨fun q=>⟨y,rfl,q⟩,fun ⟨y',e',q⟩=>?_⟩
  cases e'
  exact q)
 rw [hs] at hA ⊢
 refine Calls.callWith_builtin (by show (false || (backTo cpos (starEach ([]:List Expr) X.env)).any (·.1))=false;rfl) (Calls.evalArgs_plain ?_)
 exact thn hA fun us s2 ⟨vs,H2,I2,r2,y,e2,xs,h3,hz,q2⟩=>mr pins s2 σ H2 (.ref l) vs v us Q I2 r1 r2 ⟨l,xs,y,rfl,e2,h3,hz,q2⟩
end
theorem qO {n:Nat} {k:Int} (h0:0≤k) (h:k < (n:Int)):ixN n k=some k.toNat:=by
 unfold ixN
 rw [if_pos h0,if_pos h]
class NS (e:Expr):Prop where
 eq:∀ (es:List Expr) (env:Env),starEach (e :: es) env=(false,eval e env) :: starEach es env
instance {c:Const} {k:Nat} {p:Pos}:NS (.Constant c k p):=⟨fun _ _=>rfl⟩
instance {x:Str} {p:Pos}:NS (.Name x p):=⟨fun _ _=>rfl⟩
instance {es:List Expr} {k:Nat} {p:Pos}:NS (.Tuple es k p):=⟨fun _ _=>rfl⟩
instance {es:List Expr} {p:Pos}:NS (.List es p):=⟨fun _ _=>rfl⟩
instance {a:Expr} {o:Operator} {b:Expr} {p:Pos}:NS (.BinOp a o b p):=⟨fun _ _=>rfl⟩
instance {o:UnaryOp} {a:Expr} {p:Pos}:NS (.UnaryOp o a p):=⟨fun _ _=>rfl⟩
instance {f:Expr} {es:List Expr} {ks:List Keyword} {p:Pos}:NS (.Call f es ks p):=⟨fun _ _=>rfl⟩
instance {a b:Expr} {p:Pos}:NS (.Subscript a b p):=⟨fun _ _=>rfl⟩
instance {a:Expr} {os:List CmpOp} {bs:List Expr} {p:Pos}:NS (.Compare a os bs p):=⟨fun _ _=>rfl⟩
instance {o:BoolOp} {es:List Expr} {p:Pos}:NS (.BoolOp o es p):=⟨fun _ _=>rfl⟩
instance {a b c:Expr} {p:Pos}:NS (.IfExp a b c p):=⟨fun _ _=>rfl⟩
instance {e:Expr} {gs:List Comprehension} {sc:Scope} {p:Pos}:NS (.ListComp e gs sc p):=⟨fun _ _=>rfl⟩
structure PL (X:Cx) (es:List Expr) (t:TA):Prop where
 h:PA X es t
def Tr (l:List Addr) (H:Hp):Prop:=∀ b∈l,H b≠none
section
variable {X:Cx}
def tLm (r:V→List V→Hp→VK→Prop) (to te:TE):TE:=fun σ H Q=>to σ H fun x H1=>∃ l xs0,x=.ref l∧H1 l=some (.lst xs0)∧te σ H1 fun y H2=>r (.ref l) [y] H2 Q
theorem Dw {r:V→List V→Hp→VK→Prop} {name:Str} {id:String} {o e:Expr} {to te:TE} {apos cpos:Pos} (slot:Slot "list" name id) (hty:typeOf (.builtin id)=pure (.type "method_descriptor")) (hm:MtM X id r) (ho:PE X o to) (he:PE X e te)
  (hbase:attributeBase o name X.env (eval o X.env)=eval o X.env:=by rfl)
  (hfew:((backTo cpos (starEach [e] X.env)).all (fun x=>!x.1) && (backToKw cpos (keywordEach [] X.env)).all (fun x=>x.1.isSome) && decide ([e].length+([]:List Keyword).length+(if ([]:List Keyword).isEmpty then 0 else 1) < 30))=true:=by rfl)
  (hline:(apos.endLine == cpos.line)=true:=by rfl) (hs:starEach [e] X.env=(false,eval e X.env) :: starEach [] X.env:=by rfl):PE X (.Call (.Attribute o name apos) [e] [] cpos) (tLm r to te):=by
 intro pins s σ H Q I h
 refine wpAny_Call_method_late hbase hfew hline rfl (thn (ho pins s σ H _ I h) fun v s1 ⟨x,H1,I1,r1,l,xs0,e0,hl,q1⟩=>?_)
 subst e0
 have ty:tyV X.K "list" (.ref l) H1:=.inl ⟨rfl,_,SqL.of hl⟩
 obtain ⟨h1,h2⟩:=sD I1 r1 ty
 refine ⟨"list",_,PySem.F.plainAttrs_list,slot,hty,h1,h2,?_⟩
 have hA:=(dR he fU hs) cpos pins s1 σ H1 (fun vs H2=>∃ y,vs=[y]∧r (.ref l) [y] H2 Q) I1 (by
  refine cast (congrArg (te σ H1) ?_) q1
  funext y H2
  refine propext ⟨fun q=>⟨y,rfl,q⟩,fun ⟨y',e',q⟩=>?_⟩
  cases e'
  exact q)
 rw [hs] at hA ⊢
 refine Calls.callWith_builtin (by show (false || (backTo cpos (starEach ([]:List Expr) X.env)).any (·.1))=false;rfl) (Calls.evalArgs_plain ?_)
 exact thn hA fun us s2 ⟨vs,H2,I2,r2,y,e2,q2⟩=>hm pins s2 σ H2 (.ref l) vs v us Q I2 r1 r2 (by rw [e2];exact q2)
theorem pC {f:Nat→V}:∀ (us:List Value) (k:Nat),(∀ j v,us[j]?=some v→RelV (f (k+j)) v)→Vals ((List.range' k us.length).map f) us
 | [],_,_=>.nil
 | u :: us,k,h=>by
  rw [List.length_cons,List.range'_succ,List.map_cons]
  refine .cons (h 0 u rfl) (pC us (k+1) fun j v e=>?_)
  have:=h (j+1) v (by simpa using e)
  rw [show k+1+j=k+(j+1) by omega]
  exact this
def tLR (ta:TA):TE:=fun σ H Q=>ta σ H fun vs H1=>∃ j:Int,vs=[.int j]∧0≤j∧j≤1000∧∀ l,H1 l=none→Q (.ref l) (upd H1 l (.lst ((List.range j.toNat).map fun i=>V.int (i:Nat))))
theorem oO {a:Expr} {ta:TA} {p1 p2 pos1 pos2:Pos} (hc:X.calm=true) (hgl:Gl X "list") (hml:X.mg "list"=none) (hgr:Gl X "range") (hmr:X.mg "range"=none) (hbl:bootBuiltins "list"=some (.type "list")) (ha:PA X [a] ta)
  (hs:starEach [a] X.env=[(false,eval a X.env)]:=by rfl)
  (hs2:starEach [Expr.Call (.Name "range" p2) [a] [] pos2] X.env=(false,eval (Expr.Call (.Name "range" p2) [a] [] pos2) X.env) :: starEach [] X.env:=by rfl) :
  PE X (.Call (.Name "list" p1) [.Call (.Name "range" p2) [a] [] pos2] [] pos1) (tLR ta):=by
 intro pins s σ H Q I h
 refine wpAny_Call_Name_kw (cf I hgl hml hbl ?_)
 refine PyProof.Rows.callWith_type1 ?_ hs2 rfl
 rw [hs2]
 show wpAny _ _ (spliced ((false,eval (Expr.Call (.Name "range" p2) [a] [] pos2) X.env) :: backTo pos1 (starEach [] X.env))) _ _ s
 refine Calls.spliced_cons ?_
 refine Call_ (cf I hgr hmr boot_range (PyProof.Rows.callWith_type1 (thn (ha pos2 pins s σ H _ I h) fun us s1 ⟨vs,H1,I1,r1,q1⟩=>?_) hs rfl))
 obtain ⟨j,e,j0,j1,q⟩:=q1
 subst e
 cases r1 with
 | cons r rr=>
  cases rr
  obtain ⟨t,rfl⟩:=r
  refine call_range_1 ?_
  have hA:X.A.handled=none:=I.ok.hd hc
  have I2:Inv X pins σ H1 { s1 with heap:=s1.heap.push { cls:=.type "range",data:=.fields #[.int 0 s1.toks,.int j t,.int 1 (s1.toks+1)] },toks:=s1.toks+1+1 }:=I1.kept fun b o e=>Heap.get?_push_of_some _ e
  refine wpAny_pure ?_
  have hsz:Builtin.Range.rangeSize 0 j 1=((j.toNat:Nat):Int):=by rw [rangeSize_one];split<;>omega
  refine call_list_range hA (IsRange.new ..) (small_one (by omega) (by omega) (by omega) (by omega)) hsz (by omega) fun h' tk acc c' hk hnew hit=>?_
  have hvals:Vals ((List.range j.toNat).map fun i=>V.int (i:Nat)) acc.toList:=by
   have hl:acc.toList.length=j.toNat:=by rw [Array.length_toList];exact hit.1
   rw [← hl,List.range_eq_range']
   refine pC acc.toList 0 fun i v e=>?_
   obtain ⟨t2,rfl⟩:=hit.2 i v (by simpa using e)
   exact ⟨t2,by congr 1;omega⟩
  refine ⟨.ref _,_,I2.laid (t':=tk) (o:=.lst ((List.range j.toNat).map fun i=>V.int (i:Nat))) hk (Nat.le_refl _) ⟨?_,acc.toList,c',hvals,?_⟩,rfl,q _ (I2.hok.fresh (Nat.le_refl _))⟩
  ·rw [List.length_map,List.length_range]
   exact Nat.le_of_lt (jd (by omega))
  ·simpa using hnew
end
section
variable {X:Cx}
theorem vH:∀ {x y:V} {u:Value},RelV x u→RelV y u→x=y:=by
  intro x y u h1 h2
  cases x<;>cases y<;>simp only [RelV] at h1 h2<;>first
    | rfl
    | (subst h1;cases h2;done)
    | (subst h1;cases h2;rfl)
    | (obtain ⟨t,rfl⟩:=h1;cases h2;done)
    | (obtain ⟨t,rfl⟩:=h1;obtain ⟨t2,e⟩:=h2;cases e;rfl)
    | (obtain ⟨t,rfl⟩:=h1;obtain ⟨t2,e⟩:=h2;cases e;done)
    | (obtain ⟨t,rfl⟩:=h2;cases h1;done)
def vy (neg:Bool):R2:=fun x y H Q=>∃ (p:Addr) (vs:List V) (d:D) (ds:List D),y=.ref p∧H p=some (.lst vs)∧av H vs ds∧Rep H x d∧D.ck ds≤50∧Q (.bl (if neg then !ds.any (fun e=>D.eqv e d) else ds.any fun e=>D.eqv e d)) H
theorem pX {pins:List (Addr×Obj)} {σ:St} {H:Hp} {s:Shared} {p:Addr} {vs:List V} {d:D} {ds:List D} {x:V} {v:Value} (hu:X.A.units+64 < cLine) (I:Inv X pins σ H s) (rx:RelV x v) (hq:H p=some (.lst vs)) (rs:av H vs ds) (rd:Rep H x d) (hd:D.ck ds≤50) :
  ∃ (its:List Value) (e:Value→Bool),s.heap.IsList p its.toArray∧(∀ y∈its.toArray,SeqAt.EqAt X.A.in1 s y v (e y))∧its.toArray.any e=ds.any fun e=>D.eqv e d:=by
 classical
 obtain ⟨its,r,pl,hz⟩:=I.list (SqL.of hq)
 have l1:=r.length
 have l2:=rs.length
 have key:∀ (j:Nat) (u:Value),its[j]?=some u→∃ (y:V) (e:D),vs[j]?=some y∧ds[j]?=some e∧RelV y u∧Rep H y e:=by
  intro j u hj
  have hlt:=(List.getElem?_eq_some_iff.mp hj).1
  have e1:vs[j]?=some (vs[j]'(by omega)):=List.getElem?_eq_getElem _
  obtain ⟨a1,b1,c1⟩:=r.get e1
  obtain ⟨f1,g1,k1⟩:=rs.get e1
  rw [hj] at b1
  cases b1
  exact ⟨_,f1,e1,g1,c1,k1⟩
 refine ⟨its,fun u=>decide (∃ (j:Nat) (y:V) (e:D),its[j]?=some u∧vs[j]?=some y∧ds[j]?=some e∧D.eqv e d=true),pl.isList,?_,?_⟩
 ·intro u hm
  have hm':u∈its:=by simpa using hm
  obtain ⟨j,hj⟩:=List.mem_iff_getElem?.mp hm'
  obtain ⟨y,e,h1,h2,h3,h4⟩:=key j u hj
  have q:=tW I 60 X.A.in1 y x u v e d (by show X.A.units+1+60 < cLine;omega) (Nat.le_trans (D.fz h2) (by omega)) h3 rx h4 rd
  have z:decide (∃ (j:Nat) (y:V) (e:D),its[j]?=some u∧vs[j]?=some y∧ds[j]?=some e∧D.eqv e d=true)=D.eqv e d:=by
   rw [Bool.eq_iff_iff,decide_eq_true_eq]
   refine ⟨fun ⟨j',y',e',g1,g2,g3,g4⟩=>?_,fun h=>⟨j,y,e,hj,h1,h2,h⟩⟩
   obtain ⟨y2,e2,k1,k2,k3,k4⟩:=key j' u g1
   rw [g2] at k1;cases k1
   rw [g3] at k2;cases k2
   have:=vH h3 k3
   subst this
   rw [Rep.inj h4 k4]
   exact g4
  show SeqAt.EqAt X.A.in1 s u v (decide _)
  rw [z]
  exact q
 ·rw [List.any_toArray,Bool.eq_iff_iff,List.any_eq_true,List.any_eq_true]
  constructor
  ·rintro ⟨u,hu',h⟩
   obtain ⟨j,y,e,g1,g2,g3,g4⟩:=of_decide_eq_true h
   exact ⟨e,List.mem_of_getElem? g3,g4⟩
  ·rintro ⟨e,he,h⟩
   obtain ⟨j,hj⟩:=List.mem_iff_getElem?.mp he
   have hlt:=(List.getElem?_eq_some_iff.mp hj).1
   have e1:its[j]?=some (its[j]'(by omega)):=List.getElem?_eq_getElem _
   obtain ⟨y,e',h1,h2,h3,h4⟩:=key j _ e1
   exact ⟨_,List.mem_of_getElem? e1,decide_eq_true ⟨j,y,e,e1,h1,hj,h⟩⟩
theorem Ak (hu:X.A.units+64 < cLine):OpR X (compareOp .In) (vy false):=by
 intro pins s σ H x y v u Q I rx ry h
 obtain ⟨p,vs,d,ds,rfl,hq,rs,rd,hd,q⟩:=h
 cases ry
 obtain ⟨its,e,h1,h2,h3⟩:=pX hu I rx hq rs rd hd
 refine SeqAt.in_listAt e h1 h2 ⟨.bl _,H,I,rfl,?_⟩
 rw [h3]
 exact q
theorem tO (hu:X.A.units+64 < cLine):OpR X (compareOp .NotIn) (vy true):=by
 intro pins s σ H x y v u Q I rx ry h
 obtain ⟨p,vs,d,ds,rfl,hq,rs,rd,hd,q⟩:=h
 cases ry
 obtain ⟨its,e,h1,h2,h3⟩:=pX hu I rx hq rs rd hd
 refine SeqAt.notIn_listAt e h1 h2 ⟨.bl _,H,I,rfl,?_⟩
 rw [h3]
 exact q
end
end L2
namespace ZS
open PySem
def Ri (l:List Nat):Prop:=l.Pairwise (· < ·)
theorem rB (xs:Array Nat) (j p:Nat) (h1:∀ i,i < p→xs.getD i j < j) (h2:∀ i,p≤i→i < xs.size→¬xs.getD i j < j):∀ (fuel lo hi:Nat),lo≤p→p≤hi→hi≤xs.size→hi - lo≤fuel→SetTable.below.go xs j fuel lo hi=p
 | 0,lo,hi,a,b,c,d=>by rw [SetTable.below.go];omega
 | fuel+1,lo,hi,a,b,c,d=>by
  rw [SetTable.below.go]
  by_cases hl:lo < hi
  ·rw [if_pos hl]
   dsimp only
   have m1:lo≤(lo+hi) / 2:=by omega
   have m2:(lo+hi) / 2 < hi:=by omega
   by_cases hm:xs.getD ((lo+hi) / 2) j < j
   ·rw [if_pos hm]
    have:(lo+hi) / 2 < p:=by
     refine Nat.lt_of_not_le fun z=>?_
     exact h2 _ z (by omega) hm
    exact rB xs j p h1 h2 fuel _ _ (by omega) b c (by omega)
   ·rw [if_neg hm]
    have:p≤(lo+hi) / 2:=by
     refine Nat.le_of_not_lt fun z=>?_
     exact hm (h1 _ z)
    exact rB xs j p h1 h2 fuel _ _ a this (by omega) (by omega)
  ·rw [if_neg hl];omega
theorem getD_list {l:List Nat} {i j:Nat} (h:i < l.length):l.toArray.getD i j=l[i]:=by simp [Array.getD,h]
theorem below_at {l:List Nat} {j p:Nat} (hp:p≤l.length) (h1:∀ i (h:i < l.length),i < p→l[i] < j) (h2:∀ i (h:i < l.length),p≤i→j≤l[i]):SetTable.below l.toArray j=p:=by
 unfold SetTable.below
 refine rB l.toArray j p (fun i hi=>?_) (fun i hi hs=>?_) _ _ _ (Nat.zero_le _) (by simpa using hp) (Nat.le_refl _) (by omega)
 ·rw [getD_list (by omega)];exact h1 i (by omega) hi
 ·rw [getD_list (by simpa using hs)]
  have:=h2 i (by simpa using hs) hi
  omega
theorem mR {l:List Nat} (h:Ri l) {i k:Nat} (hk:k < l.length) (hi:i < k):l[i] < l[k]:=List.pairwise_iff_getElem.mp h i k (by omega) hk hi
theorem uk {l:List Nat} (h:Ri l) (j:Nat):∃ p,p≤l.length∧SetTable.below l.toArray j=p∧(∀ x∈l.take p,x < j)∧(∀ x∈l.drop p,j≤x):=by
 induction l with
 | nil=>exact ⟨0,Nat.le_refl _,below_at (Nat.le_refl _) (fun i h=>by simp at h) (fun i h=>by simp at h),by simp,by simp⟩
 | cons a l ih=>
  obtain ⟨h1,h2⟩:=List.pairwise_cons.mp h
  obtain ⟨p,hp,_,ha,hb⟩:=ih h2
  by_cases hj:a < j
  ·have q1:∀ x∈(a :: l).take (p+1),x < j:=by
    intro x hx
    rw [List.take_succ_cons] at hx
    rcases List.mem_cons.mp hx with e | e
    ·omega
    ·exact ha x e
   have q2:∀ x∈(a :: l).drop (p+1),j≤x:=by
    intro x hx
    rw [List.drop_succ_cons] at hx
    exact hb x hx
   refine ⟨p+1,by simp;omega,below_at (by simp;omega) (fun i hi hip=>?_) (fun i hi hip=>?_),q1,q2⟩
   ·refine q1 _ ?_
    rw [List.mem_iff_getElem]
    exact ⟨i,by rw [List.length_take];simp at hi ⊢;omega,by rw [List.getElem_take]⟩
   ·refine q2 _ ?_
    rw [List.mem_iff_getElem]
    exact ⟨i - (p+1),by simp at hi ⊢;omega,by rw [List.getElem_drop];congr 1;omega⟩
  ·have q2:∀ x∈a :: l,j≤x:=by
    intro x hx
    rcases List.mem_cons.mp hx with e | e
    ·omega
    ·have:=h1 x e;omega
   refine ⟨0,Nat.zero_le _,below_at (Nat.zero_le _) (fun i hi hip=>by omega) (fun i hi _=>q2 _ (List.getElem_mem hi)),by simp,by simpa using q2⟩
theorem rZ {l:List Nat} (h:Ri l) {i:Nat} (hi:i < l.length):SetTable.below l.toArray (l[i]+1)=i+1∧SetTable.below l.toArray l[i]=i:=by
 constructor
 ·refine below_at (by omega) (fun k hk hki=>?_) (fun k hk hki=>?_)
  ·by_cases e:k=i
   ·subst e;omega
   ·have:=mR h hi (show k < i by omega);omega
  ·have:=mR h hk (show i < k by omega);omega
 ·refine below_at (by omega) (fun k hk hki=>mR h hi hki) (fun k hk hki=>?_)
  by_cases e:k=i
  ·subst e;omega
  ·have:=mR h hk (show i < k by omega);omega
theorem uo {l:List Nat} (h:Ri l) {j p:Nat} (hj:j∉l) (ha:∀ x∈l.take p,x < j) (hb:∀ x∈l.drop p,j≤x):Ri (l.take p++j :: l.drop p):=by
 have hs:Ri (l.take p++l.drop p):=by rw [List.take_append_drop];exact h
 obtain ⟨s1,s2,s3⟩:=List.pairwise_append.mp hs
 refine List.pairwise_append.mpr ⟨s1,List.pairwise_cons.mpr ⟨fun x hx=>?_,s2⟩,fun x hx y hy=>?_⟩
 ·have:=hb x hx
  have:x≠j:=fun e=>hj (by rw [← e];exact List.mem_of_mem_drop hx)
  omega
 ·rcases List.mem_cons.mp hy with e | e
  ·rw [e];exact ha x hx
  ·exact s3 x hx y e
theorem slot_of {t:SetTable} {l:List Nat} (hp:t.place=l.toArray) (hr:Ri l) (hd:t.dummies=#[]) (j:Nat):(j∉l→t.slot j=.empty)∧(j∈l→∃ i,t.slot j=.live i):=by
 have hh:SetTable.has #[] j=false:=by simp [SetTable.has]
 constructor
 ·intro hj
  unfold SetTable.slot
  dsimp only
  rw [hp,hd,hh]
  have:(l.toArray[SetTable.below l.toArray j]? == some j)=false:=by
   rw [beq_eq_false_iff_ne]
   intro e
   rw [List.getElem?_toArray] at e
   exact hj (List.mem_of_getElem? e)
  rw [this]
  rfl
 ·intro hj
  obtain ⟨i,hi,rfl⟩:=List.mem_iff_getElem.mp hj
  refine ⟨i,?_⟩
  unfold SetTable.slot
  dsimp only
  rw [hp,(rZ hr hi).2,List.getElem?_toArray,List.getElem?_eq_getElem hi]
  simp
def nxt (m i:Nat):Nat:=(i * 5+1) % (m+1)
def orb (m:Nat):Nat→Nat→Nat
 | 0,i=>i
 | n+1,i=>orb m n (nxt m i)
def marks (m:Nat):Nat→Nat→Nat→Nat
 | 0,_,acc=>acc
 | n+1,i,acc=>marks m n (nxt m i) (acc ||| (1 <<< i))
def full (m:Nat):Bool:=marks m (m+1) 0 0 == 2 ^ (m+1) - 1 && orb m (m+1) 0 == 0
theorem C4:full 7=true:=by decide +kernel
theorem zp:full 31=true:=by decide +kernel
theorem yo:full 127=true:=by decide +kernel
theorem xt:full 511=true:=by decide +kernel
theorem me {m:Nat}:∀ (n i acc e:Nat),(marks m n i acc).testBit e=true→acc.testBit e=true∨∃ k,k < n∧orb m k i=e
 | 0,i,acc,e,h=>.inl h
 | n+1,i,acc,e,h=>by
  rw [marks] at h
  rcases me n _ _ e h with q | ⟨k,hk,q⟩
  ·rw [Nat.testBit_or,Bool.or_eq_true] at q
   rcases q with q | q
   ·exact .inl q
   ·refine .inr ⟨0,by omega,?_⟩
    rw [Nat.one_shiftLeft,Nat.testBit_two_pow] at q
    simpa [orb] using q
  ·exact .inr ⟨k+1,by omega,q⟩
theorem jz {m:Nat}:∀ (a b i:Nat),orb m (a+b) i=orb m b (orb m a i)
 | 0,b,i=>by simp [orb]
 | a+1,b,i=>by
  rw [show a+1+b=(a+b)+1 by omega,orb,jz a b,orb]
theorem wG {m e:Nat} (hf:full m=true) (he:e≤m):∃ k,k≤m∧orb m k 0=e:=by
 unfold full at hf
 rw [Bool.and_eq_true,beq_iff_eq,beq_iff_eq] at hf
 have q:(marks m (m+1) 0 0).testBit e=true:=by
  rw [hf.1,Nat.testBit_two_pow_sub_one]
  simp;omega
 rcases me _ _ _ _ q with z | ⟨k,hk,z⟩
 ·simp at z
 ·exact ⟨k,by omega,z⟩
theorem reach {m e i:Nat} (hf:full m=true) (he:e≤m) (hi:i≤m):∃ k,k≤m∧orb m k i=e:=by
 obtain ⟨a,ha,ea⟩:=wG hf hi
 obtain ⟨b,hb,eb⟩:=wG hf he
 have h0:orb m (m+1) 0=0:=by
  unfold full at hf
  rw [Bool.and_eq_true,beq_iff_eq,beq_iff_eq] at hf
  exact hf.2
 by_cases hab:a≤b
 ·refine ⟨b - a,by omega,?_⟩
  rw [← ea,← jz,show a+(b - a)=b by omega,eb]
 ·refine ⟨m+1 - a+b,by omega,?_⟩
  rw [← ea,← jz,show a+(m+1 - a+b)=(m+1)+b by omega,jz,h0,eb]
def lp (m:Nat):Nat→Nat×Nat→Nat×Nat
 | 0,x=>x
 | n+1,x=>lp m n (SetTable.leap m x.1 x.2)
theorem rT {m:Nat}:∀ (a b:Nat) (x:Nat×Nat),lp m (a+b) x=lp m b (lp m a x)
 | 0,b,x=>by simp [lp]
 | a+1,b,x=>by
  rw [show a+1+b=(a+b)+1 by omega,lp,rT a b,lp]
theorem pB {m:Nat}:∀ (n:Nat) (x:Nat×Nat),(lp m n x).2=x.2 / 32 ^ n
 | 0,x=>by simp [lp]
 | n+1,x=>by
  rw [lp,pB n]
  show x.2 / 32 / 32 ^ n=_
  rw [Nat.div_div_eq_div_mul,Nat.pow_succ,Nat.mul_comm]
theorem tu {m:Nat}:∀ (n i:Nat),lp m n (i,0)=(orb m n i,0)
 | 0,i=>rfl
 | n+1,i=>by
  rw [lp,orb]
  have:SetTable.leap m i 0=(nxt m i,0):=by simp [SetTable.leap,nxt]
  rw [this,tu n]
theorem Ck {m:Nat} (x:Nat×Nat) (h:x.1≤m):∀ n,(lp m n x).1≤m:=by
 intro n
 induction n generalizing x with
 | zero=>exact h
 | succ n ih=>
  rw [lp]
  exact ih _ (by show _ % (m+1)≤m;have:=Nat.mod_lt (x.1 * 5+1+x.2 / 32) (show m+1 > 0 by omega);omega)
theorem p_ {m e i p:Nat} (hf:full m=true) (he:e≤m) (hi:i≤m) (hp:p < 2 ^ 64):∃ k,k < SetTable.turns m∧(lp m k (i,p)).1=e:=by
 have h13:(lp m 13 (i,p)).2=0:=by
  rw [pB]
  exact Nat.div_eq_of_lt (Nat.lt_of_lt_of_le hp (by decide))
 obtain ⟨k,hk,ek⟩:=reach hf he (Ck (i,p) hi 13)
 refine ⟨13+k,by unfold SetTable.turns;omega,?_⟩
 rw [rT]
 have z:lp m 13 (i,p)=((lp m 13 (i,p)).1,0):=by rw [← h13]
 rw [z,tu]
 exact ek
theorem pM (h:Int):SetTable.bits h < 2 ^ 64:=by
 unfold SetTable.bits
 have:=Int.emod_lt_of_pos h (show (0:Int) < 2 ^ 64 by decide)
 omega
theorem room {l:List Nat} {m:Nat} (hn:l.length≤m):∃ e,e≤m∧e∉l:=by
 refine Classical.byContradiction fun h=>?_
 have hall:∀ e∈List.range (m+1),e∈l:=fun e he=>Classical.byContradiction fun z=>h ⟨e,by have:=List.mem_range.mp he;omega,z⟩
 have:=List.Nodup.length_le_of_subset (List.nodup_range (n:=m+1)) hall
 rw [List.length_range] at this
 omega
theorem uX {t:SetTable} {l:List Nat} (hp:t.place=l.toArray) (hr:Ri l) (hd:t.dummies=#[]) (h:Int) :
  ∀ (k:Nat) (fuel:Nat) (q:SetTable.Probe),q.dummy=none→q.more≤9→10 * k+q.more+1≤fuel→(lp t.mask k (q.i,q.perturb)).1∉l→(k=0→q.j=q.i∨q.j∉l)→(q.more≤9) →
   (k=0→q.j∉l)→∃ j,SetTable.probe.go t (fun _=>h+1) h fuel q=some (.empty j none)∧j∉l:=by
 intro k
 induction k with
 | zero=>
  intro fuel q h1 h2 h3 h4 h5 h6 h7
  obtain ⟨f,rfl⟩:∃ f,fuel=f+1:=⟨fuel - 1,by omega⟩
  refine ⟨q.j,?_,h7 rfl⟩
  rw [SetTable.probe.go,(slot_of hp hr hd q.j).1 (h7 rfl)]
  dsimp only
  rw [h1]
 | succ k ih=>
  intro fuel q h1 h2 h3 h4 h5 h6 h7
  have run:∀ (r fuel:Nat) (q:SetTable.Probe),q.more=r→q.dummy=none→10 * (k+1)+r+1≤fuel→(lp t.mask (k+1) (q.i,q.perturb)).1∉l→∃ j,SetTable.probe.go t (fun _=>h+1) h fuel q=some (.empty j none)∧j∉l:=by
   intro r
   induction r with
   | zero=>
    intro fuel q hm hdm hfu hl
    obtain ⟨f,rfl⟩:∃ f,fuel=f+1:=⟨fuel - 1,by omega⟩
    by_cases hj:q.j∈l
    ·obtain ⟨i,ei⟩:=(slot_of hp hr hd q.j).2 hj
     rw [SetTable.probe.go,ei]
     dsimp only
     have hne:(h+1 == h)=false:=by rw [beq_eq_false_iff_ne];omega
     rw [hne]
     have ha:t.advance q={ q with j:=(SetTable.leap t.mask q.i q.perturb).1,more:=SetTable.runEnd t.mask (SetTable.leap t.mask q.i q.perturb).1 - (SetTable.leap t.mask q.i q.perturb).1,i:=(SetTable.leap t.mask q.i q.perturb).1,perturb:=(SetTable.leap t.mask q.i q.perturb).2 }:=by
      unfold SetTable.advance
      rw [if_neg (by omega)]
     have hmore:(t.advance q).more≤9:=by
      rw [ha]
      dsimp only
      unfold SetTable.runEnd
      split<;>omega
     have hl':(lp t.mask k ((t.advance q).i,(t.advance q).perturb)).1∉l:=by rw [ha];exact hl
     refine ih f (t.advance q) (by rw [ha];exact hdm) hmore (by omega) hl' (fun _=>.inl (by rw [ha])) hmore fun hk=>?_
     rw [ha]
     dsimp only
     subst hk
     exact hl
    ·refine ⟨q.j,?_,hj⟩
     rw [SetTable.probe.go,(slot_of hp hr hd q.j).1 hj]
     dsimp only
     rw [hdm]
   | succ r ihr=>
    intro fuel q hm hdm hfu hl
    obtain ⟨f,rfl⟩:∃ f,fuel=f+1:=⟨fuel - 1,by omega⟩
    by_cases hj:q.j∈l
    ·obtain ⟨i,ei⟩:=(slot_of hp hr hd q.j).2 hj
     rw [SetTable.probe.go,ei]
     dsimp only
     have hne:(h+1 == h)=false:=by rw [beq_eq_false_iff_ne];omega
     rw [hne]
     have ha:t.advance q={ q with j:=q.j+1,more:=q.more - 1 }:=by
      unfold SetTable.advance
      rw [if_pos (by omega)]
     refine ihr f (t.advance q) (by rw [ha];dsimp only;omega) (by rw [ha];exact hdm) (by omega) (by rw [ha];exact hl)
    ·refine ⟨q.j,?_,hj⟩
     rw [SetTable.probe.go,(slot_of hp hr hd q.j).1 hj]
     dsimp only
     rw [hdm]
  exact run q.more fuel q rfl h1 h3 h4
theorem sk {t:SetTable} {l:List Nat} (hp:t.place=l.toArray) (hr:Ri l) (hd:t.dummies=#[]) (hf:full t.mask=true) (hn:l.length≤t.mask) (h:Int):∃ j,t.freeSlot h=some (j,false)∧j∉l:=by
 obtain ⟨e,he,hel⟩:=room hn
 have hi:SetTable.bits h % (t.mask+1)≤t.mask:=by have:=Nat.mod_lt (SetTable.bits h) (show t.mask+1 > 0 by omega);omega
 obtain ⟨k,hk,ek⟩:=p_ hf he hi (pM h)
 have hmore:(t.probeStart h).more≤9:=by
  unfold SetTable.probeStart SetTable.runEnd
  dsimp only
  split<;>omega
 have q:=uX hp hr hd h k (10 * SetTable.turns t.mask) (t.probeStart h) rfl hmore (by omega) (by
  show (lp t.mask k (SetTable.bits h % (t.mask+1),SetTable.bits h)).1∉l
  rw [ek];exact hel) (fun _=>.inl rfl) hmore (fun hk0=>by
   subst hk0
   show SetTable.bits h % (t.mask+1)∉l
   rw [show SetTable.bits h % (t.mask+1)=e from ek];exact hel)
 obtain ⟨j,ej,hj⟩:=q
 refine ⟨j,?_,hj⟩
 unfold SetTable.freeSlot SetTable.probe
 rw [ej]
 rfl
end ZS
namespace ZS
open PySem
theorem p8 {m e:Nat} {owner:Array (Option Nat)} (he:owner.getD e (some 0)=none):∀ (k fuel i p:Nat),(lp m k (i,p)).1=e→k < fuel→∃ j,SetTable.layClean.free m owner fuel i p=some j∧owner.getD j (some 0)=none
 | k,0,i,p,_,h=>by omega
 | k,fuel+1,i,p,hk,h=>by
  rw [SetTable.layClean.free]
  cases hf:(List.range (SetTable.runEnd m i+1 - i)).find? fun k=>(owner.getD (i+k) (some 0)).isNone with
  | some x=>
   refine ⟨i+x,rfl,?_⟩
   have:=List.find?_some hf
   simpa using this
  | none=>
   have hno:=List.find?_eq_none.mp hf
   cases k with
   | zero=>
    have hi:i=e:=hk
    have:=hno 0 (List.mem_range.mpr (by unfold SetTable.runEnd;split<;>omega))
    rw [Nat.add_zero,hi,he] at this
    simp at this
   | succ k=>
    dsimp only
    exact p8 he k fuel _ _ hk (by omega)
theorem oo {α β:Type} {f g:α→Option β}:∀ {l:List α},(∀ x∈l,f x=g x)→l.filterMap f=l.filterMap g
 | [],_=>rfl
 | a :: l,h=>by
  rw [List.filterMap_cons,List.filterMap_cons,h a (List.mem_cons_self ..),oo fun x hx=>h x (List.mem_cons_of_mem _ hx)]
def vals (m:Nat) (owner:Array (Option Nat)):List Nat:=(List.range (m+1)).filterMap fun j=>owner.getD j none
theorem vV (m:Nat):vals m (Array.replicate (m+1) none)=[]:=by
 unfold vals
 rw [List.filterMap_eq_nil_iff]
 intro j hj
 simp [Array.getD]
theorem vY {m j k:Nat} {owner:Array (Option Nat)} (hs:owner.size=m+1) (hj:owner.getD j (some 0)=none):(vals m (owner.setIfInBounds j (some k))).Perm (k :: vals m owner):=by
 have hjs:j < owner.size:=by
  refine Nat.lt_of_not_le fun z=>?_
  simp [Array.getD,Nat.not_lt.mpr z] at hj
 have hjv:owner.getD j none=none:=by
  simp [Array.getD,hjs] at hj ⊢
  exact hj
 have hmem:j∈List.range (m+1):=List.mem_range.mpr (by omega)
 have pe:=List.perm_cons_erase hmem
 have nd:(List.range (m+1)).Nodup:=List.nodup_range
 unfold vals
 refine (pe.filterMap _).trans ?_
 refine List.Perm.trans ?_ ((pe.filterMap (fun j=>owner.getD j none)).cons k).symm
 rw [List.filterMap_cons,List.filterMap_cons]
 have e1:(owner.setIfInBounds j (some k)).getD j none=some k:=by simp [Array.getD,hjs]
 rw [e1,hjv]
 dsimp only
 refine List.Perm.cons k (List.Perm.of_eq ?_)
 refine oo fun x hx=>?_
 have hne:x≠j:=fun e=>by
  rw [e] at hx
  exact (List.Nodup.mem_erase_iff nd).mp hx |>.1 rfl
 simp only [Array.getD,Array.size_setIfInBounds]
 split
 ·rw [Array.getInternal_eq_getElem,Array.getInternal_eq_getElem,Array.getElem_setIfInBounds_ne (by assumption) (fun e=>hne e.symm)]
 ·rfl
theorem uS {m:Nat} {owner:Array (Option Nat)} (hs:owner.size=m+1) (h:(vals m owner).length≤m):∃ e,e≤m∧owner.getD e (some 0)=none:=by
 refine Classical.byContradiction fun hno=>?_
 have all:∀ j∈List.range (m+1),(owner.getD j none).isSome=true:=fun j hj=>by
  have hj':=List.mem_range.mp hj
  cases e:owner.getD j none with
  | some x=>rfl
  | none=>
   refine absurd ⟨j,by omega,?_⟩ hno
   simp [Array.getD,show j < owner.size by omega] at e ⊢
   exact e
 have len:∀ l:List Nat,(∀ j∈l,(owner.getD j none).isSome=true)→(l.filterMap fun j=>owner.getD j none).length=l.length:=by
  intro l
  induction l with
  | nil=>intro _;rfl
  | cons a l ih=>
   intro hl
   obtain ⟨x,hx⟩:=Option.isSome_iff_exists.mp (hl a (List.mem_cons_self ..))
   rw [List.filterMap_cons,hx]
   dsimp only
   rw [List.length_cons,List.length_cons,ih fun j hj=>hl j (List.mem_cons_of_mem _ hj)]
 have:=len _ all
 rw [List.length_range] at this
 unfold vals at h
 omega
def jr (m:Nat) (acc:Option (Array (Option Nat)×Nat)) (h:Int):Option (Array (Option Nat)×Nat):=do
  let (owner,k) ← acc
  let j ← SetTable.layClean.free m owner (SetTable.turns m) (SetTable.bits h % (m+1)) (SetTable.bits h)
  pure (owner.setIfInBounds j (some k),k+1)
theorem nc {m:Nat} (hf:full m=true):∀ (hs:List Int) (owner:Array (Option Nat)) (k:Nat),owner.size=m+1→(vals m owner).Perm (List.range k)→k+hs.length≤m →
  ∃ owner',hs.foldl (jr m) (some (owner,k))=some (owner',k+hs.length)∧owner'.size=m+1∧(vals m owner').Perm (List.range (k+hs.length))
 | [],owner,k,h1,h2,h3=>⟨owner,rfl,h1,by simpa using h2⟩
 | h :: hs,owner,k,h1,h2,h3=>by
  have hlen:(vals m owner).length=k:=by rw [h2.length_eq,List.length_range]
  obtain ⟨e,he,hen⟩:=uS h1 (by simp at h3;omega)
  have hi:SetTable.bits h % (m+1)≤m:=by have:=Nat.mod_lt (SetTable.bits h) (show m+1 > 0 by omega);omega
  obtain ⟨q,hq,eq⟩:=p_ hf he hi (pM h)
  obtain ⟨j,ej,hj⟩:=p8 (m:=m) hen q (SetTable.turns m) _ _ eq hq
  have st:jr m (some (owner,k)) h=some (owner.setIfInBounds j (some k),k+1):=by
   unfold jr
   show (SetTable.layClean.free m owner (SetTable.turns m) (SetTable.bits h % (m+1)) (SetTable.bits h)).bind _=_
   rw [ej]
   rfl
  have p2:(vals m (owner.setIfInBounds j (some k))).Perm (List.range (k+1)):=by
   refine (vY h1 hj).trans ((h2.cons k).trans ?_)
   rw [List.range_succ]
   exact (List.perm_append_singleton k _).symm
  obtain ⟨o',a1,a2,a3⟩:=nc hf hs _ (k+1) (by rw [Array.size_setIfInBounds];exact h1) p2 (by simp at h3;omega)
  refine ⟨o',?_,a2,by simp only [List.length_cons];rw [show k+(hs.length+1)=k+1+hs.length by omega];exact a3⟩
  rw [List.foldl_cons,st,a1]
  simp only [List.length_cons]
  rw [show k+(hs.length+1)=k+1+hs.length by omega]
theorem o_ {m:Nat} (hf:full m=true) (hs:Array Int) (hn:hs.size≤m):∃ owner,SetTable.layClean m hs=some owner∧owner.size=m+1∧(vals m owner).Perm (List.range hs.size):=by
 obtain ⟨o,a1,a2,a3⟩:=nc hf hs.toList (Array.replicate (m+1) none) 0 (by simp) (by rw [vV];simp) (by simpa using hn)
 refine ⟨o,?_,a2,by simpa using a3⟩
 unfold SetTable.layClean
 rw [← Array.foldl_toList]
 have:(fun (acc:Option (Array (Option Nat)×Nat)) (h:Int)=>(do
  let (owner,k) ← acc
  let j ← SetTable.layClean.free m owner (SetTable.turns m) (SetTable.bits h % (m+1)) (SetTable.bits h)
  pure (owner.setIfInBounds j (some k),k+1):Option (Array (Option Nat)×Nat)))=jr m:=rfl
 rw [this,a1]
 rfl
theorem gZ (f:Nat→Option Nat):∀ l:List Nat,((l.filterMap fun j=>(f j).map (j,·)).map (·.1))=l.filter fun j=>(f j).isSome
 | []=>rfl
 | a :: l=>by
  rw [List.filterMap_cons,List.filter_cons]
  cases f a with
  | none=>simpa using gZ f l
  | some x=>simp [gZ f l]
theorem g_ (f:Nat→Option Nat):∀ l:List Nat,((l.filterMap fun j=>(f j).map (j,·)).map (·.2))=l.filterMap f
 | []=>rfl
 | a :: l=>by
  rw [List.filterMap_cons,List.filterMap_cons]
  cases f a with
  | none=>simpa using g_ f l
  | some x=>simp [g_ f l]
theorem qb {α:Type}:∀ (xs:List α),(List.range xs.length).filterMap (fun i=>xs[i]?)=xs
 | []=>rfl
 | x :: xs=>by
  rw [List.length_cons,List.range_succ_eq_map,List.filterMap_cons]
  simp only [List.getElem?_cons_zero]
  rw [List.filterMap_map]
  have:((fun i=>(x :: xs)[i]?) ∘ Nat.succ)=fun i=>xs[i]?:=by funext i;simp
  rw [this,qb xs]
theorem va {t:SetTable} {es:Array (Int×Value)} {wanted:Nat} (hf:full (SetTable.sizeAbove wanted - 1)=true) (hn:es.size≤SetTable.sizeAbove wanted - 1) :
  ∃ es' t' l,relayAll t es wanted=(es',t',false)∧es'.toList.Perm es.toList∧t'.place=l.toArray∧Ri l∧l.length=es.size∧t'.dummies=#[]∧t'.mask=SetTable.sizeAbove wanted - 1∧t'.plain=t.plain∧t'.led=t.led:=by
 obtain ⟨owner,e1,e2,e3⟩:=o_ hf (es.map (·.1)) (by simpa using hn)
 rw [Array.size_map] at e3
 generalize hm:SetTable.sizeAbove wanted - 1=m at *
 let f:Nat→Option Nat:=fun j=>owner.getD j none
 have r1:t.relaid (es.map (·.1)) wanted=some ({ mask:=m,place:=((List.range (m+1)).filter fun j=>(f j).isSome).toArray,dummies:=#[],finger:=t.finger,led:=t.led,moves:=t.movedTo m,plain:=t.plain },(vals m owner).toArray):=by
  unfold SetTable.relaid SetTable.laid
  rw [hm,e1]
  show some _=some _
  rw [← gZ f,show vals m owner=(List.range (m+1)).filterMap f from rfl,← g_ f]
 have po:((vals m owner).toArray.filterMap (fun (i:Nat)=>es[i]?)).toList.Perm es.toList:=by
  rw [Array.toList_filterMap]
  refine (e3.filterMap _).trans (List.Perm.of_eq ?_)
  have:(fun (i:Nat)=>es[i]?)=fun (i:Nat)=>es.toList[i]?:=by funext i;rw [Array.getElem?_toList]
  rw [this,← Array.length_toList,qb]
 have lpl:((List.range (m+1)).filter fun j=>(f j).isSome).length=es.size:=by
  rw [← gZ f,List.length_map,← List.length_map (f:=(·.2)),g_ f]
  show (vals m owner).length=es.size
  rw [e3.length_eq,List.length_range]
 have so:((vals m owner).toArray.filterMap (fun (i:Nat)=>es[i]?)).size=es.size:=by
  rw [← Array.length_toList,po.length_eq,Array.length_toList]
 refine ⟨_,{ mask:=m,place:=((List.range (m+1)).filter fun j=>(f j).isSome).toArray,dummies:=#[],finger:=t.finger,led:=t.led,moves:=t.movedTo m,plain:=t.plain },(List.range (m+1)).filter fun j=>(f j).isSome,?_,po,rfl,?_,lpl,rfl,rfl,rfl,rfl⟩
 ·unfold relayAll
  rw [r1]
  dsimp only
  have c1:coversAll (vals m owner).toArray es.size=true:=by
   unfold coversAll
   rw [List.isPerm_iff]
   exact e3
  have c2:SetTable.fits { mask:=m,place:=((List.range (m+1)).filter fun j=>(f j).isSome).toArray,dummies:=#[],finger:=t.finger,led:=t.led,moves:=t.movedTo m,plain:=t.plain } ((vals m owner).toArray.filterMap (fun (i:Nat)=>es[i]?)).size=true:=by
   unfold SetTable.fits SetTable.fill
   rw [so]
   simp only [List.size_toArray,lpl]
   simpa using hn
  rw [c1,c2]
  rfl
 ·exact List.Pairwise.filter _ List.pairwise_lt_range
end ZS
namespace ZS
open PySem
end ZS
namespace ZS
open PySem
end ZS
namespace L2
open PySem PySem.Spec PyProof.Rows ZS
def dX (m:Nat):Bool:=m == 7 || m == 31 || m == 127 || m == 511
theorem p6 {m:Nat} (h:dX m=true):full m=true:=by
 simp only [dX,Bool.or_eq_true,beq_iff_eq] at h
 rcases h with ((h | h) | h) | h<;>subst h
 ·exact C4
 ·exact zp
 ·exact yo
 ·exact xt
def gP (w:World) (h:Heap) (a:Addr) (ks:List Int):Prop:=
 ∃ (o:Obj) (es:Array (Int×Value)) (ep:Nat) (t:SetTable) (pl:List Nat),h.get? a=some o∧o.ExactSet∧o.data=.set es ep t∧dX t.mask=true∧t.dummies=#[]∧t.plain=true∧t.led=!(w.params.followText "set-order") ∧
  t.place=pl.toArray∧(Ri pl∧pl.length=ks.length∧ks.length * 5 < t.mask * 3)∧IntsAre (es.toList.map Prod.snd) ks∧(∀ e∈es.toList,∃ k,Value.isInt k e.2=true∧e.1=hashInt k)∧ks.Nodup∧ks.length≤300
theorem dy:∀ {vs:List Value} {ns:List Int},IntsAre vs ns→vs.length=ns.length
 | _,_,.nil=>rfl
 | _,_,.cons n t r=>by simp [dy r]
theorem fits_of {t:SetTable} {n:Nat} (h2:t.dummies=#[]) (h3:t.place.size=n) (hn:n≤t.mask):t.fits n=true:=by
 unfold SetTable.fits SetTable.fill
 rw [h2,h3]
 simp
 omega
theorem gr {k:Int} {t:Tok}:Value.isInt k (.int k t)=true:=by simp [Value.isInt]
theorem isInt_iff {k j:Int} {t:Tok}:Value.isInt k (.int j t)=true↔k=j:=by
 constructor
 ·intro h
  obtain ⟨t',e⟩:=Value.isInt_shape h
  cases e;rfl
 ·rintro rfl;exact gr
theorem iS:∀ {es:List (Int×Value)} {ks:List Int} {k:Int},IntsAre (es.map Prod.snd) ks→(k∈ks↔(es.findIdx? fun e=>Value.isInt k e.2).isSome=true)
 | [],_,k,r=>by cases r;simp
 | e :: es,_,k,r=>by
  obtain ⟨h,v⟩:=e
  cases r with
  | cons n t r=>
   have ih:=iS (k:=k) r
   rw [List.findIdx?_cons]
   by_cases hk:k=n
   ·subst hk
    simp [gr]
   ·have:Value.isInt k (.int n t)=false:=by rw [← Bool.not_eq_true,isInt_iff];exact hk
    simp only [this,List.mem_cons,hk,false_or]
    rw [ih]
    simp
theorem iI {α:Type} (xs:Array α) (p:Nat) (x:α) (hp:p≤xs.size):(SetTable.insertAt xs p x).toList=xs.toList.take p++x :: xs.toList.drop p:=by
 unfold SetTable.insertAt
 simp
 rw [List.take_of_length_le (by simp)]
section
variable {prog:Program} {w:World} {A:Around} {E:Value→Shared→Prop} {s:Shared}
theorem IntsAre.app:∀ {vs us:List Value} {ns ms:List Int},IntsAre vs ns→IntsAre us ms→IntsAre (vs++us) (ns++ms)
 | _,_,_,_,.nil,r=>r
 | _,_,_,_,.cons n t q,r=>.cons n t (IntsAre.app q r)
theorem IntsAre.wU:∀ {vs:List Value} {ns:List Int} (p:Nat),IntsAre vs ns→IntsAre (vs.take p) (ns.take p)
 | _,_,0,_=>.nil
 | _,_,_+1,.nil=>.nil
 | _,_,p+1,.cons n t q=>.cons n t (IntsAre.wU p q)
theorem IntsAre.wF:∀ {vs:List Value} {ns:List Int} (p:Nat),IntsAre vs ns→IntsAre (vs.drop p) (ns.drop p)
 | _,_,0,r=>r
 | _,_,_+1,.nil=>.nil
 | _,_,p+1,.cons _ _ q=>IntsAre.wF p q
theorem mC:∀ {vs us:List Value},List.Perm vs us→∀ {ns:List Int},IntsAre us ns→∃ ms,IntsAre vs ms∧List.Perm ms ns:=by
 intro vs us hp
 induction hp with
 | nil=>intro ns r;exact ⟨ns,r,.refl _⟩
 | cons x _ ih=>
  intro ns r
  cases r with
  | cons n t r=>
   obtain ⟨ms,a,b⟩:=ih r
   exact ⟨n :: ms,.cons n t a,b.cons n⟩
 | swap x y l=>
  intro ns r
  cases r with
  | cons n t r=>cases r with
   | cons n' t' r=>exact ⟨n' :: n :: _,.cons n' t' (.cons n t r),.swap ..⟩
 | trans _ _ ih1 ih2=>
  intro ns r
  obtain ⟨ms,a,b⟩:=ih2 r
  obtain ⟨ms',a',b'⟩:=ih1 a
  exact ⟨ms',a',b'.trans b⟩
theorem uN {t':SetTable} {es':Array (Int×Value)} {n:Nat} (hm:dX t'.mask=true) (hn:es'.size=n) (h1:¬n * 5 < t'.mask * 3) (h2:n * 5 < t'.mask * 3+5) (h3:n≤300) :
  dX (SetTable.sizeAbove (SetTable.grown n) - 1)=true∧n * 5 < (SetTable.sizeAbove (SetTable.grown n) - 1) * 3:=by
 simp only [dX,Bool.or_eq_true,beq_iff_eq] at hm
 rcases hm with ((hm | hm) | hm) | hm<;>rw [hm] at h1 h2
 ·have:n=5:=by omega
  subst this;decide +kernel
 ·have:n=19:=by omega
  subst this;decide +kernel
 ·have:n=77:=by omega
  subst this;decide +kernel
 ·omega
theorem vf {a:Addr} {ks:List Int} {k:Int} {tk:Tok} {Q:Bool→Shared→Prop} (hS:gP w s.heap a ks) (hl:k∉ks→ks.length < 300)
  (h:∀ (h':Heap) (ks':List Int) (b:Bool),Heap.SameBut a s.heap h'→gP w h' a ks'→(∀ x,x∈ks'↔x∈ks∨x=k)→(k∈ks→ks'.length=ks.length)→(k∉ks→ks'.length=ks.length+1)→Q b { s with heap:=h',toks:=s.toks+1 }) :
  wpAny (model prog w) A (setAdd a (.int k tk)) Q E s:=by
 obtain ⟨o,es,ep,t,pl,g1,g2,g3,g4,g5,g6,g7,g8,g9,g10,g11,g12,g13⟩:=hS
 obtain ⟨g9,lpl,g14⟩:=g9
 have hmask:=p6 g4
 have lks:es.size=ks.length:=by
  have:=dy g10
  rw [List.length_map,Array.length_toList] at this
  exact this
 have hmk:7≤t.mask:=by
  have q:=g4
  simp only [dX,Bool.or_eq_true,beq_iff_eq] at q
  omega
 have hfit:t.fits es.size=true:=fits_of g5 (by rw [g8,lks];simpa using lpl) (by omega)
 have hel:ElemsOf (intKind prog w) es.toList:=fun e he=>by
  obtain ⟨k',e1,e2⟩:=g11 e he
  refine ⟨⟨k',e1,e2⟩,?_⟩
  obtain ⟨t',e'⟩:=Value.isInt_shape e1
  rw [e'];rfl
 have hint:(intKind prog w).is k (.int k tk)=true:=gr (k:=k) (t:=tk)
 unfold setAdd
 refine wpAny_holding (wpAny_bind ((intKind prog w).pyHash (k:=k) (v:=.int k tk) hint ?_))
 unfold setAddHashed
 refine wpAny_holding ?_
 show wpAny _ _ (setAddHashedIn a (.int k tk) _ (99999+1)) _ _ _
 rw [setAddHashedIn.eq_2]
 refine wpAny_bind (wpAny_setState_of g1 g3 hfit ?_)
 show wpAny _ _ (if byScan (.int k tk) es=true then _ else _) _ _ _
 rw [if_pos (byScan_of (knd:=intKind prog w) rfl (by unfold scanBound;omega) hel)]
 refine wpAny_bind ?_
 unfold setAddByScan
 refine wpAny_bind (wpAny_rule (wpAny_bind (wpAny_setScan_of (knd:=intKind prog w) (k:=k) hint g1 g3 hfit hel ?_)))
 have hfi:=iS (k:=k) g10
 by_cases hm:k∈ks
 ·have hs:=hfi.mp hm
  cases hf:List.findIdx? (fun e=>(intKind prog w).is k e.snd) es.toList with
  | none=>
   have hf':List.findIdx? (fun e:Int×Value=>Value.isInt k e.2) es.toList=none:=hf
   rw [hf'] at hs;cases hs
  | some j=>
   refine wpAny_pure (wpAny_pure ?_)
   exact h s.heap ks false (Heap.SameBut.refl ..) ⟨o,es,ep,t,pl,g1,g2,g3,g4,g5,g6,g7,g8,⟨g9,lpl,g14⟩,g10,g11,g12,g13⟩ (fun x=>⟨.inl,fun z=>z.elim id fun e=>e ▸ hm⟩) (fun _=>rfl) (fun z=>absurd hm z)
 ·have hl3:=hl hm
  have hnone:List.findIdx? (fun e=>(intKind prog w).is k e.snd) es.toList=none:=by
   have hf':List.findIdx? (fun e:Int×Value=>Value.isInt k e.2) es.toList=none:=by
    cases hf:List.findIdx? (fun e:Int×Value=>Value.isInt k e.2) es.toList with
    | none=>rfl
    | some j=>exact absurd (hfi.mpr (by rw [hf];rfl)) hm
   exact hf'
  rw [hnone]
  obtain ⟨j,hfree,hjl⟩:=sk g8 g9 g5 hmask (show pl.length≤t.mask by omega) (hashInt k)
  obtain ⟨p,hple,hpb,hpa,hpc⟩:=uk g9 j
  have hp:SetTable.below pl.toArray j=p:=hpb
  have les0:es.size=pl.length:=by omega
  have riN:Ri (pl.take p++j :: pl.drop p):=uo g9 hjl hpa hpc
  have liN:(SetTable.insertAt pl.toArray p j).toList=pl.take p++j :: pl.drop p:=by
   have:=iI pl.toArray p j (by simpa using hple)
   simpa using this
  refine show _ from ?_
  ·have hput:t.put j=({ mask:=t.mask,place:=SetTable.insertAt t.place p j,dummies:=#[],finger:=t.finger,led:=t.led,moves:=t.moves,plain:=t.plain },p):=by
    unfold SetTable.put
    rw [g8,hp,g5]
    rfl
   generalize ht':({ mask:=t.mask,place:=SetTable.insertAt t.place p j,dummies:=#[],finger:=t.finger,led:=t.led,moves:=t.moves,plain:=t.plain }:SetTable)=t' at hput
   have m1:t'.mask=t.mask:=by rw [← ht']
   have m2:t'.dummies=#[]:=by rw [← ht']
   have m3:t'.plain=true:=by rw [← ht'];exact g6
   have m4:t'.led=!(w.params.followText "set-order"):=by rw [← ht'];exact g7
   have m5:t'.place=(pl.take p++j :: pl.drop p).toArray:=by rw [← ht',g8,← liN]
   have lpl':(pl.take p++j :: pl.drop p).length=ks.length+1:=by simp;omega
   have les:(SetTable.insertAt es p (hashInt k,Value.int k tk)).toList=es.toList.take p++(hashInt k,Value.int k tk) :: es.toList.drop p:=iI _ _ _ (by omega)
   generalize hes:SetTable.insertAt es p (hashInt k,Value.int k tk)=es' at les
   have lsz:es'.size=ks.length+1:=by
    rw [← Array.length_toList,les]
    simp
    omega
   have hfit':t'.fits es'.size=true:=fits_of m2 (by rw [m5,lsz];simpa using lpl') (by omega)
   have hlay:layNew t es (hashInt k) (.int k tk)=(es',t',false,false):=by
    unfold layNew
    rw [hfree]
    simp only [hput,hes]
    unfold SetTable.orStandIn
    rw [if_pos hfit',hfit']
    rfl
   have hlay2:layNew t es ((intKind prog w).hash k) (.int k tk)=(es',t',false,false):=hlay
   rw [hlay2]
   dsimp only
   refine wpAny_bind (wpAny_pure ?_)
   rw [if_pos m3,hashByValue_scannable 8 (x:=.int k tk) rfl]
   refine wpAny_bind (wpAny_pure ?_)
   have hpk:plainKind (Value.int k tk)=true:=rfl
   rw [if_pos hpk]
   have h1000:(1000:Nat)≤sizeLine:=Nat.le_of_lt (jd (Nat.le_refl 1000))
   have hsz:¬es'.size > sizeLine:=by rw [lsz];omega
   have i1:IntsAre (es'.toList.map Prod.snd) (ks.take p++k :: ks.drop p):=by
    rw [les,List.map_append,List.map_cons,List.map_take,List.map_drop]
    exact IntsAre.app (IntsAre.wU p g10) (.cons k tk (IntsAre.wF p g10))
   have i2:∀ e∈es'.toList,∃ k,Value.isInt k e.2=true∧e.1=hashInt k:=by
    intro e he
    rw [les] at he
    rcases List.mem_append.mp he with z | z
    ·exact g11 e (List.mem_of_mem_take z)
    ·rcases List.mem_cons.mp z with z | z
     ·rw [z];exact ⟨k,gr,rfl⟩
     ·exact g11 e (List.mem_of_mem_drop z)
   have hperm:List.Perm (ks.take p++k :: ks.drop p) (k :: ks):=by
    have:=List.perm_middle (a:=k) (l₁:=ks.take p) (l₂:=ks.drop p)
    rw [List.take_append_drop] at this
    exact this
   have kl:(ks.take p++k :: ks.drop p).length=ks.length+1:=by rw [hperm.length_eq];rfl
   have i3:(ks.take p++k :: ks.drop p).Nodup:=by
    rw [hperm.nodup_iff,List.nodup_cons]
    exact ⟨hm,g12⟩
   have i4:∀ x,x∈ks.take p++k :: ks.drop p↔x∈ks∨x=k:=by
    intro x
    rw [hperm.mem_iff,List.mem_cons]
    exact or_comm
   generalize hks:ks.take p++k :: ks.drop p=ks' at i1 kl i3 i4
   have hfill:t'.fill=ks.length+1:=by
    unfold SetTable.fill
    rw [m2,m5]
    simp only [List.size_toArray,lpl']
    rfl
   have putS:∀ (e2:Array (Int×Value)) (t2:SetTable) (o2:Obj) (e1:Array (Int×Value)) (n1:Nat) (t1:SetTable),o2.data=.set e1 n1 t1→Obj.putSet e2 t2 o2={ o2 with data:=.set e2 (n1+1) t2 }:=by
    intro e2 t2 o2 e1 n1 t1 hd
    obtain ⟨oc,od,oda,osl⟩:=o2
    have hd':oda=.set e1 n1 t1:=hd
    subst hd'
    rfl
   refine wpAny_bind ?_
   unfold storeSet
   refine wpAny_bind (wpAny_load' g1 ?_)
   rw [g3]
   dsimp only
   rw [if_neg hsz]
   refine wpAny_update' g1 ?_
   have hupd:=putS es' t' o es ep t g3
   have gN:(s.heap.update a (Obj.putSet es' t')).get? a=some { o with data:=.set es' (ep+1) t' }:=by
    rw [← hupd]
    exact Heap.get?_update_self _ g1 (by rw [hupd];rfl)
   have sbN:Heap.SameBut a s.heap (s.heap.update a (Obj.putSet es' t')):=Heap.SameBut.update ..
   by_cases hfull:(ks.length+1) * 5 < t.mask * 3
   ·have hf0:(!false && t'.tooFull)=false:=by
     unfold SetTable.tooFull
     rw [hfill,m1]
     simp
     omega
    rw [hf0]
    rw [if_neg (by simp)]
    refine wpAny_pure (wpAny_pure ?_)
    exact h _ ks' true sbN ⟨_,es',ep+1,t',_,gN,g2,rfl,by rw [m1];exact g4,m2,m3,m4,m5,⟨riN,by rw [lpl',kl],by rw [kl,m1];exact hfull⟩,i1,i2,i3,by omega⟩ i4 (fun z=>absurd z hm) (fun _=>kl)
   ·have hf1:(!false && t'.tooFull)=true:=by
     unfold SetTable.tooFull
     rw [hfill,m1]
     simp
     omega
    rw [hf1]
    rw [if_pos rfl]
    obtain ⟨w1,w2⟩:=uN (t':=t') (es':=es') (n:=ks.length+1) (by rw [m1];exact g4) lsz (by rw [m1];exact hfull) (by rw [m1];omega) (by omega)
    rw [lsz]
    obtain ⟨e2,t2,l2,r1,r2,r3,r4,r5,r6,r7,r8,r9⟩:=va (t:=t') (es:=es') (wanted:=SetTable.grown (ks.length+1)) (p6 w1) (by rw [lsz];omega)
    rw [r1]
    dsimp only
    have lsz2:e2.size=ks.length+1:=by rw [← Array.length_toList,r2.length_eq,Array.length_toList,lsz]
    obtain ⟨ks2,j1,j2⟩:=mC (r2.map Prod.snd) i1
    refine wpAny_bind (wpAny_pure ?_)
    refine wpAny_bind ?_
    refine wpAny_bind (wpAny_load' gN ?_)
    dsimp only
    rw [if_neg (by rw [lsz2];omega)]
    refine wpAny_update' gN ?_
    refine wpAny_pure (wpAny_pure ?_)
    have gM:((s.heap.update a (Obj.putSet es' t')).update a (Obj.putSet e2 t2)).get? a=some { o with data:=.set e2 (ep+1+1) t2 }:=by
     have hq:=putS e2 t2 { o with data:=.set es' (ep+1) t' } es' (ep+1) t' rfl
     rw [← hq]
     exact Heap.get?_update_self _ gN (by rw [hq];rfl)
    refine h _ ks2 true (sbN.trans (Heap.SameBut.update ..)) ⟨_,e2,ep+1+1,t2,l2,gM,g2,rfl,by rw [r7];exact w1,r6,by rw [r8];exact m3,by rw [r9];exact m4,r3,⟨r4,by rw [r5,lsz,j2.length_eq,kl],by rw [r7,j2.length_eq,kl];exact w2⟩,j1,fun e he=>i2 e (r2.mem_iff.mp he),j2.nodup_iff.mpr i3,by rw [j2.length_eq,kl];omega⟩ (fun x=>by rw [j2.mem_iff];exact i4 x) (fun z=>absurd z hm) (fun _=>by rw [j2.length_eq,kl])
end
section
variable {prog:Program} {w:World} {A:Around} {E:Value→Shared→Prop} {s:Shared}
theorem gP.at {h h':Heap} {S:Addr} {ks:List Int} (H:gP w h S ks) (k:∀ o,h.get? S=some o→h'.get? S=some o):gP w h' S ks:=by
 obtain ⟨o,es,ep,t,pl,g1,r⟩:=H
 exact ⟨o,es,ep,t,pl,k o g1,r⟩
theorem lT {R:Result→Shared→Prop} {I:Addr} {fp wr:List Addr} {n:Nat} {P:Nat→Value→Prop} {St:Nat→Heap→Prop} (W:Walks prog w A.in1 I fp wr n P St) (S:Addr) (hSf:S∉fp) (val:Nat→Int) (hval:∀ i v,P i v→∃ t,v=Value.int (val i) t) (hn:n≤300) :
  ∀ (k i:Nat) (s:Shared) (ks:List Int),n - i=k→i≤n→St i s.heap→gP w s.heap S ks→(∀ x,x∈ks↔∃ j,j < i∧val j=x)→ks.length≤i →
   (∀ (h':Heap) (tk:Nat) (ks':List Int),(∀ b o,b≠S→b∉wr→s.heap.get? b=some o→h'.get? b=some o)→gP w h' S ks'→(∀ x,x∈ks'↔∃ j,j < n∧val j=x)→R (.ok (.ret .none)) { s with heap:=h',toks:=tk }) →
   codeAny (model prog w) A (Code.builtin "set.update.loop" ⟨[.ref S,.ref I],[]⟩) R s:=by
 have hSw:S∉wr:=fun h=>hSf (W.sub S h)
 intro k
 induction k with
 | zero=>
  intro i s ks hk hi hst hS hks hlen hR
  have hin:i=n:=by omega
  subst hin
  refine codeAny_builtin F.entry_set_update_loop ?_
  rw [Around.under_plainId F.plain_set_update_loop]
  refine (show wpAny _ _ (pyNext (.ref I)>>=_) _ _ _ from wpAny_bind (W.done s _ _ hst fun h' tk hk'=>?_))
  exact wpAny_pure (hR h' tk ks (fun b o _ hw e=>hk' b o hw e) (hS.at fun o e=>hk' S o hSw e) hks)
 | succ k ih=>
  intro i s ks hk hi hst hS hks hlen hR
  refine codeAny_builtin F.entry_set_update_loop ?_
  rw [Around.under_plainId F.plain_set_update_loop]
  refine (show wpAny _ _ (pyNext (.ref I)>>=_) _ _ _ from wpAny_bind (W.item i s _ _ (by omega) hst fun v h' tk hP hst' hk'=>?_))
  obtain ⟨t,rfl⟩:=hval i v hP
  refine (show wpAny _ _ (holding [Value.int (val i) t] (setAdd S (.int (val i) t))>>=_) _ _ _ from wpAny_bind (wpAny_holding ?_))
  refine vf (s:={ s with heap:=h',toks:=tk }) (hS.at fun o e=>hk' S o hSw e) (fun _=>by omega) fun h2 ks2 b sb hS2 hm l1 l2=>?_
  refine wpAny_pure ⟨plainId_quiet F.plain_set_update_loop _,ih (i+1) _ ks2 (by omega) (by omega) ?_ hS2 ?_ ?_ fun h3 tk3 ks3 q1 q2 q3=>?_⟩
  ·exact W.frame _ _ _ hst' fun b hb' o e=>sb.extBut b o (fun z=>hSf (z ▸ hb')) e
  ·intro x
   rw [hm,hks]
   constructor
   ·rintro (⟨j,h1,h2⟩ | rfl)
    ·exact ⟨j,by omega,h2⟩
    ·exact ⟨i,by omega,rfl⟩
   ·rintro ⟨j,h1,h2⟩
    by_cases e:j=i
    ·subst e;exact .inr h2.symm
    ·exact .inl ⟨j,by omega,h2⟩
  ·by_cases hin:val i∈ks
   ·have:=l1 hin;omega
   ·have:=l2 hin;omega
  ·exact hR h3 tk3 ks3 (fun b o hb1 hb2 e=>q1 b o hb1 hb2 (sb.extBut b o hb1 (hk' b o hb2 e))) q2 q3
theorem mE (a:Value) {Q₁:Value→Shared→Prop}
  (h:Q₁ (.ref s.heap.objs.size) { s with heap:=s.heap.push { cls:=.type "set",data:=.set #[] 0 (SetTable.fresh 0 0 (!(w.params.followText "set-order"))) } }) :
  codeAny (model prog w) A (Code.call (.builtin "set.__new__") ⟨[.type "set",a],[]⟩) (wants Q₁ E) s:=by
 refine codeAny_of_tree ?_
 refine (show wpAny _ _ (checkBuiltinCall "set.__new__" ⟨[.type "set",a],[]⟩>>=_) _ _ _ from wpAny_bind (wpAny_of_eq (F.newCall_set_1 a) (wpAny_pure ⟨plainId_quiet F.plain_set_new _,codeAny_builtin F.entry_set_new ?_⟩)))
 rw [Around.under_plainId F.plain_set_new]
 have hsub:=sub_set_self
 refine (show wpAny _ _ (Builtin.Frozenset.newClass "set" _>>=_) _ _ _ from wpAny_bind ?_)
 unfold Builtin.Frozenset.newClass
 refine wpAny_bind (wpAny_pure ?_)
 refine wpAny_ite_false rfl (wpAny_bind (wpAny_of_eq hsub (wpAny_ite_false rfl (wpAny_pure ?_))))
 refine (show wpAny _ _ (newSet (.type "set")>>=_) _ _ _ from wpAny_bind ?_)
 unfold newSet
 refine wpAny_bind ?_
 unfold setsByText
 refine wpAny_bind (wpAny_askSetting (wpAny_pure ?_))
 exact (show wpAny _ _ (newObj (.type "set") (Data.set #[] 0 (SetTable.fresh 0 0 (!(w.params.followText "set-order"))))) _ _ _ from wpAny_newObj_type (wpAny_pure h) (by first | size_fits | (intro _;decide)))
theorem gz:∀ {vs:List Value} {ns:List Int} {i:Nat} {v:Value},IntsAre vs ns→vs[i]?=some v→∃ t,v=Value.int (ns.getD i 0) t
 | _,_,_,_,.nil,e=>by simp at e
 | _,_,0,_,.cons n t _,e=>⟨t,by simpa using e.symm⟩
 | _,_,i+1,v,.cons n t r,e=>by
  obtain ⟨t',e'⟩:=gz (i:=i) (v:=v) r (by simpa using e)
  exact ⟨t',by simpa using e'⟩
def nY (h:Heap) (l:Addr) (items:Array Value) (k:Bool):Prop:=if k=true then h.IsList l items else h.IsTuple l items
theorem sj {S l:Addr} {items:Array Value} {ns:List Int} {F:PySem.Fin→Shared→Prop} {hp:Heap} {g:Array GenState} {d:Drawn} {tk:Nat} {os:OsState} (hh:A.handled=none) (hS:hp.get? S=some { cls:=.type "set",data:=.set #[] 0 (SetTable.fresh 0 0 (!(w.params.followText "set-order"))) }) (k:Bool) (hl:nY hp l items k) (hi:IntsAre items.toList ns) (hn:ns.length≤300)
    (h:∀ (h':Heap) (tk':Nat) (ks:List Int),gP w h' S ks→(∀ x,x∈ks↔x∈ns)→(∀ b o,b≠S→hp.get? b=some o→h'.get? b=some o)→F (.done (.ret .none)) ⟨h',g,d,tk',os⟩) :
    wpAny (model prog w) A (Builtin.«set.__init__» ⟨[.ref S,.ref l],[]⟩) F E ⟨hp,g,d,tk,os⟩:=by
  cases k with
  | false=>
    replace hl:hp.IsTuple l items:=hl
    have hT:Shared.TypeIs ⟨hp,g,d,tk,os⟩ (.ref S) "set":=⟨_,hS,rfl⟩
    have hTt:Shared.TypeIs ⟨hp,g,d,tk,os⟩ (.ref l) "tuple":=hl.typeIs
    unfold Builtin.«set.__init__»
    refine wpAny_bind ?_
    unfold noKeywords
    refine wpAny_ite_true rfl (wpAny_pure ?_)
    dsimp only
    refine wpAny_bind ?_
    unfold typeNameOfCut
    refine wpAny_bind ?_
    unfold shownTypeOf
    refine wpAny_bind (wpAny_typeOf hT ?_)
    first
    | refine wpAny_ite_false rfl (wpAny_pure ?_)
    | refine wpAny_pure ?_
    refine (show wpAny _ _ (pure _) _ _ _ from wpAny_pure ?_)
    refine wpAny_bind ?_
    unfold checkCount
    refine wpAny_ite_false rfl (wpAny_ite_false rfl (wpAny_ite_false rfl (wpAny_pure ?_)))
    refine wpAny_bind (wpAny_pure ?_)
    refine wpAny_bind ?_
    unfold setUsed
    refine wpAny_bind (wpAny_setState_of hS rfl (by rfl) (wpAny_pure ?_))
    refine wpAny_ite_false rfl ?_
    refine wpAny_bind ?_
    unfold Builtin.Frozenset.updateFrom
    refine wpAny_bind ?_
    unfold Builtin.Frozenset.isAnySet
    refine (show wpAny _ _ (isInstance (.ref l) (.type "set")>>=_) _ _ _ from wpAny_bind (wpAny_isInstance hTt PySem.F.sub_tuple_set ?_))
    refine (show wpAny _ _ (isInstance (.ref l) (.type "frozenset")) _ _ _ from wpAny_isInstance hTt PySem.F.sub_tuple_frozenset ?_)
    refine wpAny_ite_false rfl (wpAny_bind (wpAny_typeOf hTt (wpAny_ite_false rfl (wpAny_bind (wpAny_pyIter_tuple hl ?_)))))
    refine wpAny_bind (wpAny_runValue ?_)
    have hlt:S < hp.objs.size:=Heap.lt_size hS
    obtain ⟨o,ho,hor⟩:=hl
    have hlt2:l < hp.objs.size:=Heap.lt_size ho
    have hne:l≠hp.objs.size:=Nat.ne_of_lt hlt2
    have W:=Walks.tuple (prog:=prog) (w:=w) (A:=A.in1) hh hp.objs.size l hne items
    have lit:items.size=ns.length:=by rw [← Array.length_toList];exact dy hi
    have hSl:S≠l:=fun e=>by
      rw [e,ho] at hS
      cases hS
      exact absurd (Value.type.inj hor.1) (by decide)
    refine lT W S (by simp only [List.mem_cons,List.not_mem_nil,or_false,not_or];exact ⟨Nat.ne_of_lt hlt,hSl⟩) (fun i=>ns.getD i 0) ?_ (by omega) items.size 0 _ [] (by omega) (Nat.zero_le _) ?_ ?_ ?_ (Nat.le_refl 0) ?_
    · intro i v hv
      exact gz hi (by simpa using hv)
    · exact ⟨⟨_,Heap.get?_push_size _ rfl,rfl,rfl⟩,⟨o,Heap.get?_push_of_some _ ho,hor⟩⟩
    · refine ⟨_,#[],0,_,[],Heap.get?_push_of_some _ hS,⟨rfl,rfl,rfl⟩,rfl,(show dX 7=true by decide),rfl,rfl,rfl,rfl,⟨List.Pairwise.nil,rfl,(show 0 * 5 < 7 * 3 by decide)⟩,.nil,by simp,List.nodup_nil,by simp⟩
    · intro x
      simp
    · intro h' tk' ks' q1 q2 q3
      refine wpAny_pure (wpAny_pure (h h' tk' ks' q2 ?_ ?_))
      · intro x
        rw [q3]
        constructor
        · rintro ⟨j,hj,rfl⟩
          show ns.getD j 0∈ns
          rw [List.getD_eq_getElem?_getD,List.getElem?_eq_getElem (show j < ns.length by omega)]
          exact List.getElem_mem _
        · intro hx
          obtain ⟨j,hj,e⟩:=List.mem_iff_getElem.mp hx
          refine ⟨j,by omega,?_⟩
          show ns.getD j 0=x
          rw [List.getD_eq_getElem?_getD,List.getElem?_eq_getElem hj]
          exact e
      · intro b o' hbS e
        refine q1 b o' hbS ?_ (Heap.get?_push_of_some _ e)
        simp only [List.mem_singleton]
        exact Nat.ne_of_lt (Heap.lt_size e)
  | true=>
    replace hl:hp.IsList l items:=hl
    have hT:Shared.TypeIs ⟨hp,g,d,tk,os⟩ (.ref S) "set":=⟨_,hS,rfl⟩
    have hTt:Shared.TypeIs ⟨hp,g,d,tk,os⟩ (.ref l) "list":=hl.typeIs
    unfold Builtin.«set.__init__»
    refine wpAny_bind ?_
    unfold noKeywords
    refine wpAny_ite_true rfl (wpAny_pure ?_)
    dsimp only
    refine wpAny_bind ?_
    unfold typeNameOfCut
    refine wpAny_bind ?_
    unfold shownTypeOf
    refine wpAny_bind (wpAny_typeOf hT ?_)
    first
    | refine wpAny_ite_false rfl (wpAny_pure ?_)
    | refine wpAny_pure ?_
    refine (show wpAny _ _ (pure _) _ _ _ from wpAny_pure ?_)
    refine wpAny_bind ?_
    unfold checkCount
    refine wpAny_ite_false rfl (wpAny_ite_false rfl (wpAny_ite_false rfl (wpAny_pure ?_)))
    refine wpAny_bind (wpAny_pure ?_)
    refine wpAny_bind ?_
    unfold setUsed
    refine wpAny_bind (wpAny_setState_of hS rfl (by rfl) (wpAny_pure ?_))
    refine wpAny_ite_false rfl ?_
    refine wpAny_bind ?_
    unfold Builtin.Frozenset.updateFrom
    refine wpAny_bind ?_
    unfold Builtin.Frozenset.isAnySet
    refine (show wpAny _ _ (isInstance (.ref l) (.type "set")>>=_) _ _ _ from wpAny_bind (wpAny_isInstance hTt PySem.F.sub_list_set ?_))
    refine (show wpAny _ _ (isInstance (.ref l) (.type "frozenset")) _ _ _ from wpAny_isInstance hTt PySem.F.sub_list_frozenset ?_)
    refine wpAny_ite_false rfl (wpAny_bind (wpAny_typeOf hTt (wpAny_ite_false rfl (wpAny_bind (wpAny_pyIter_list hl ?_)))))
    refine wpAny_bind (wpAny_runValue ?_)
    have hlt:S < hp.objs.size:=Heap.lt_size hS
    obtain ⟨o,ho,hor⟩:=hl
    have hlt2:l < hp.objs.size:=Heap.lt_size ho
    have hne:l≠hp.objs.size:=Nat.ne_of_lt hlt2
    have W:=Walks.list (prog:=prog) (w:=w) (A:=A.in1) hh hp.objs.size l hne items
    have lit:items.size=ns.length:=by rw [← Array.length_toList];exact dy hi
    have hSl:S≠l:=fun e=>by
      rw [e,ho] at hS
      cases hS
      exact absurd (Value.type.inj hor.1) (by decide)
    refine lT W S (by simp only [List.mem_cons,List.not_mem_nil,or_false,not_or];exact ⟨Nat.ne_of_lt hlt,hSl⟩) (fun i=>ns.getD i 0) ?_ (by omega) items.size 0 _ [] (by omega) (Nat.zero_le _) ?_ ?_ ?_ (Nat.le_refl 0) ?_
    · intro i v hv
      exact gz hi (by simpa using hv)
    · exact ⟨⟨_,Heap.get?_push_size _ rfl,rfl,rfl⟩,⟨o,Heap.get?_push_of_some _ ho,hor⟩⟩
    · refine ⟨_,#[],0,_,[],Heap.get?_push_of_some _ hS,⟨rfl,rfl,rfl⟩,rfl,(show dX 7=true by decide),rfl,rfl,rfl,rfl,⟨List.Pairwise.nil,rfl,(show 0 * 5 < 7 * 3 by decide)⟩,.nil,by simp,List.nodup_nil,by simp⟩
    · intro x
      simp
    · intro h' tk' ks' q1 q2 q3
      refine wpAny_pure (wpAny_pure (h h' tk' ks' q2 ?_ ?_))
      · intro x
        rw [q3]
        constructor
        · rintro ⟨j,hj,rfl⟩
          show ns.getD j 0∈ns
          rw [List.getD_eq_getElem?_getD,List.getElem?_eq_getElem (show j < ns.length by omega)]
          exact List.getElem_mem _
        · intro hx
          obtain ⟨j,hj,e⟩:=List.mem_iff_getElem.mp hx
          refine ⟨j,by omega,?_⟩
          show ns.getD j 0=x
          rw [List.getD_eq_getElem?_getD,List.getElem?_eq_getElem hj]
          exact e
      · intro b o' hbS e
        refine q1 b o' hbS ?_ (Heap.get?_push_of_some _ e)
        simp only [List.mem_singleton]
        exact Nat.ne_of_lt (Heap.lt_size e)
theorem sF {l:Addr} {items:Array Value} {ns:List Int} {Q:Value→Shared→Prop} (hh:A.handled=none) (k:Bool) (hl:nY s.heap l items k) (hi:IntsAre items.toList ns) (hn:ns.length≤300)
  (h:∀ (h':Heap) (tk:Nat) (ks:List Int),gP w h' s.heap.objs.size ks→(∀ x,x∈ks↔x∈ns)→(∀ b o,s.heap.get? b=some o→h'.get? b=some o)→Q (.ref s.heap.objs.size) { s with heap:=h',toks:=tk }):wpAny (model prog w) A (call (.type "set") [.ref l]) Q E s:=by
 obtain ⟨c,tl,hmro⟩:=F.called_set.mro
 have hmade:=F.called_set.made
 have hsub:=F.called_set.sub
 have h1:=F.called_set.notType
 have h2:=F.called_set.canCreate
 have hct:=F.typeCall_set_1 (Value.ref l)
 refine wpAny_call (codeAny_of_tree ?_)
 refine (show wpAny _ _ (pure (Fin.again (Code.builtin "type.__call__" ⟨[.type "set",.ref l],[]⟩))) _ _ _ from wpAny_pure ⟨Code.quiet_builtin _ (by decide +kernel),codeAny_builtin F.entry_type_call ?_⟩)
 rw [Around.under_plain (weight_type_call_type "set" [Value.ref l] []) rfl]
 unfold Builtin.«type.__call__»
 dsimp only
 refine wpAny_ite_false rfl (wpAny_ite_false (by rw [h2];rfl) (wpAny_bind (wpAny_of_eq hct (wpAny_bind (wpAny_of_eq hmro (wpAny_ite_false rfl (wpAny_bind (wpAny_of_eq hmade ?_))))))))
 dsimp only
 refine wpAny_bind (wpAny_pure (wpAny_bind (wpAny_holding (wpAny_call (codeAny_mono (mE (E:=fun _ _=>False) (Q₁:=fun obj s₁=>obj=.ref s.heap.objs.size∧s₁={ s with heap:=s.heap.push { cls:=.type "set",data:=.set #[] 0 (SetTable.fresh 0 0 (!(w.params.followText "set-order"))) } }) (.ref l) ⟨rfl,rfl⟩) fun r s₁ hr=>?_)))))
 generalize hs1:({ s with heap:=s.heap.push { cls:=.type "set",data:=.set #[] 0 (SetTable.fresh 0 0 (!(w.params.followText "set-order"))) } }:Shared)=sN at hr
 cases r with
 | error e=>exact False.elim hr
 | ok f=>
  cases f with
  | ret v=>
   obtain ⟨e1,e2⟩:=hr
   subst e1 e2
   have hT:Shared.TypeIs s₁ (.ref s.heap.objs.size) "set":=by
    rw [← hs1]
    exact ⟨_,Heap.get?_push_size _ rfl,rfl⟩
   show wpAny _ _ _ _ _ _
   refine wpAny_bind (wpAny_isInstance (T:="set") (b:=true) hT hsub ?_)
   refine wpAny_ite_false rfl (wpAny_bind (wpAny_holding ?_))
   refine wpAny_callSpecial?_slot (name:=Str.ofString "__init__") hT F.called_set.init (wpAny_call (codeAny_call_builtin F.called_set.init.plain F.entry_set_init (check_set_init_1 hT ?_)))
   subst hs1
   obtain ⟨hp,g,d,tk,os⟩:=s
   refine sj (hp:=hp.push _) hh (Heap.get?_push_size _ rfl) k (by
    cases k with
    | false=>
     obtain ⟨o,e,r⟩:=(show Heap.IsTuple _ l items from hl)
     exact (show Heap.IsTuple _ l items from ⟨o,Heap.get?_push_of_some _ e,r⟩)
    | true=>
     obtain ⟨o,e,r⟩:=(show Heap.IsList _ l items from hl)
     exact (show Heap.IsList _ l items from ⟨o,Heap.get?_push_of_some _ e,r⟩)) hi hn fun h' tk' ks q1 q2 q3=>?_
   refine wpAny_ite_false rfl (wpAny_pure (h h' tk' ks q1 q2 fun b o e=>q3 b o (Nat.ne_of_lt (Heap.lt_size e)) (Heap.get?_push_of_some _ e)))
  | _=>exact False.elim hr
end
theorem hG {α:Type}:∀ (l:List α) (k:Nat) (h:k < l.length),List.Perm (l[k] :: l.eraseIdx k) l
 | x :: l,0,_=>by simp
 | x :: l,k+1,h=>by
  have hk:k < l.length:=by simpa using h
  have ih:=hG l k hk
  simp only [List.getElem_cons_succ,List.eraseIdx_cons_succ]
  exact (List.Perm.swap ..).trans (List.Perm.cons x ih)
section
variable {prog:Program} {w:World} {A:Around} {E:Value→Shared→Prop} {s:Shared}
abbrev AL (w:World):Bool:=w.params.followText "set-order"
structure EM (w:World) (o:Obj) (es:Array (Int×Value)) (ep:Nat) (t:SetTable) (pl:List Nat):Prop where
 dat:o.data=.set es ep t
 cls:o.cls=.type "set"
 dum:t.dummies=#[]
 plain:t.plain=true
 led:t.led=!AL w
 place:t.place=pl.toArray
 ri:ZS.Ri pl
 lpl:pl.length=es.size
 room:es.size≤t.mask
 few:es.size≤300
end
end L2
namespace L2
open PySem PySem.Spec PyProof.Rows ZS
def hT (ks:List Int):Int:=reduceHash (Builtin.Tuple.tupleHashOf (ks.map hashInt))
section
variable {κ:Type} [DecidableEq κ]
def ff (kvs:List (κ×V)) (k:κ):Option V:=(kvs.find? fun kv=>decide (kv.1=k)).map (·.2)
def putK (kvs:List (κ×V)) (k:κ) (v:V):List (κ×V):=
 if (kvs.any fun kv=>decide (kv.1=k))=true then kvs.map (fun kv=>if kv.1=k then (kv.1,v) else kv) else kvs++[(k,v)]
theorem gX {p:κ×V} {r:List (κ×V)} {k:κ} (e:p.1=k):ff (p :: r) k=some p.2:=by simp [ff,List.find?_cons,e]
theorem fL {p:κ×V} {r:List (κ×V)} {k:κ} (e:¬p.1=k):ff (p :: r) k=ff r k:=by simp [ff,List.find?_cons,e]
theorem oN (k:κ):∀ kvs:List (κ×V),(kvs.any fun kv=>decide (kv.1=k))=(ff kvs k).isSome
 | []=>rfl
 | p :: r=>by
  rw [List.any_cons]
  by_cases e:p.1=k
  ·simp only [gX e,decide_eq_true e,Bool.true_or,Option.isSome_some]
  ·rw [fL e,decide_eq_false e,Bool.false_or];exact oN k r
theorem gx (kvs:List (κ×V)) (k:κ) (v:V):(putK kvs k v).length≤kvs.length+1:=by
 unfold putK
 split
 ·rw [List.length_map];omega
 ·rw [List.length_append,List.length_cons,List.length_nil];omega
theorem eG.tB {o:Option V} {u:Option Value} (r:eG o u):o.isSome=u.isSome:=by
 cases o with
 | none=>cases u with
  | none=>rfl
  | some _=>exact (show False from r).elim
 | some _=>cases u with
  | none=>exact (show False from r).elim
  | some _=>rfl
theorem eG.getD {o:Option V} {u:Option Value} {d:V} {d':Value} (r:eG o u) (rd:RelV d d'):RelV (o.getD d) (u.getD d'):=by
 cases o with
 | none=>cases u with
  | none=>exact rd
  | some _=>exact (show False from r).elim
 | some _=>cases u with
  | none=>exact (show False from r).elim
  | some _=>exact r
theorem KV.val {kvs:List (κ×V)} {vs:List (κ×Value)} (r:KV kvs vs) (k:κ):eG (ff kvs k) (valueAt vs k):=by
 unfold KV at r
 induction r with
 | nil=>exact True.intro
 | @cons p q ps qs h t ih=>
  obtain ⟨h1,h2⟩:=h
  by_cases e:p.1=k
  ·have e':q.1=k:=h1.symm.trans e
   have b:valueAt (q :: qs) k=some q.2:=by simp [valueAt,List.find?_cons,e']
   rw [gX e,b];exact h2
  ·have e':¬q.1=k:=fun z=>e (h1.trans z)
   have b:valueAt (q :: qs) k=valueAt qs k:=by simp [valueAt,List.find?_cons,e']
   rw [fL e,b];exact ih
theorem KV.any {kvs:List (κ×V)} {vs:List (κ×Value)} (r:KV kvs vs) (k:κ):(kvs.any fun kv=>decide (kv.1=k))=vs.any fun kv=>decide (kv.1=k):=by
 unfold KV at r
 induction r with
 | nil=>rfl
 | cons h t ih=>rw [List.any_cons,List.any_cons,ih,h.1]
theorem KV.vP {kvs:List (κ×V)} {vs:List (κ×Value)} (r:KV kvs vs) (k:κ) {y:V} {u:Value} (ry:RelV y u) :
  KV (kvs.map fun kv=>if kv.1=k then (kv.1,y) else kv) (vs.map fun kv=>if kv.1=k then (kv.1,u) else kv):=by
 unfold KV at r ⊢
 induction r with
 | nil=>exact .nil
 | @cons p q ps qs h t ih=>
  rw [List.map_cons,List.map_cons]
  refine .cons ?_ ih
  obtain ⟨h1,h2⟩:=h
  by_cases e:p.1=k
  ·rw [if_pos e,if_pos (h1.symm.trans e)];exact ⟨h1,ry⟩
  ·rw [if_neg e,if_neg (fun z=>e (h1.trans z))];exact ⟨h1,h2⟩
theorem KV.put {kvs:List (κ×V)} {vs:List (κ×Value)} (r:KV kvs vs) (k:κ) {y:V} {u:Value} (ry:RelV y u):KV (putK kvs k y) (stored vs k u):=by
 unfold putK stored
 rw [r.any k]
 by_cases e:(vs.any fun kv=>decide (kv.1=k))=true
 ·rw [if_pos e,if_pos e];exact r.vP k ry
 ·rw [if_neg e,if_neg e];exact Paired.snoc r ⟨rfl,ry⟩
theorem KV.length {kvs:List (κ×V)} {vs:List (κ×Value)} (r:KV kvs vs):kvs.length=vs.length:=Paired.length r
end
theorem kN {P:Program} {w:World} {k:Key} {u:Value} (r:RelV (kV k) u):(ba P w).is k u=true:=by
 cases k with
 | inl i=>obtain ⟨t,e⟩:=(show ∃ t,u=Value.int i t from r);subst e;exact o6 P w i t
 | inr x=>obtain ⟨t,e⟩:=(show ∃ t,u=Value.str x t from r);subst e;exact o7 P w x t
theorem lU {P:Program} {w:World}:∀ {ks:List Key} {us:List Value},Vals (ks.map kV) us→ItemsAre (ba P w) ks us
 | [],_,r=>by rw [List.map_nil] at r;cases r;exact .nil
 | k :: ks,_,r=>by
  rw [List.map_cons] at r
  cases r with
  | cons h t=>exact .cons (kN h) (lU t)
abbrev KT (H:Hp):List (List Key×V)→List (List Key×Addr×Value)→Prop:=Paired fun p q=>p.1=q.1∧H q.2.1=some (.tup (p.1.map kV))∧RelV p.2 q.2.2
theorem KT.val {H:Hp} {kvs:List (List Key×V)} {xs:List (List Key×Addr×Value)} (r:KT H kvs xs) (k:List Key):eG (ff kvs k) ((atKey xs k).map (·.2)):=by
 induction r with
 | nil=>exact True.intro
 | @cons p q ps qs h t ih=>
  obtain ⟨h1,_,h2⟩:=h
  by_cases e:p.1=k
  ·have e':q.1=k:=h1.symm.trans e
   have b:atKey (q :: qs) k=some q.2:=by simp [atKey,List.find?_cons,e']
   rw [gX e,b];exact h2
  ·have e':¬q.1=k:=fun z=>e (h1.trans z)
   have b:atKey (q :: qs) k=atKey qs k:=by simp [atKey,List.find?_cons,e']
   rw [fL e,b];exact ih
theorem KT.vP {H:Hp} {kvs:List (List Key×V)} {xs:List (List Key×Addr×Value)} (r:KT H kvs xs) (k:List Key) {y:V} {u:Value} (ry:RelV y u) :
  KT H (kvs.map fun kv=>if kv.1=k then (kv.1,y) else kv) (xs.map (putAt k u)):=by
 induction r with
 | nil=>exact .nil
 | @cons p q ps qs h t ih=>
  rw [List.map_cons,List.map_cons]
  refine .cons ?_ ih
  obtain ⟨h1,h2,h3⟩:=h
  unfold putAt
  by_cases e:p.1=k
  ·rw [if_pos e,if_pos (h1.symm.trans e)];exact ⟨h1,h2,ry⟩
  ·rw [if_neg e,if_neg (fun z=>e (h1.trans z))];exact ⟨h1,h2,h3⟩
theorem KT.put {H:Hp} {kvs:List (List Key×V)} {xs:List (List Key×Addr×Value)} (r:KT H kvs xs) (k:List Key) {b:Addr} {y:V} {u:Value} (hb:H b=some (.tup (k.map kV))) (ry:RelV y u) :
  KT H (putK kvs k y) (storedH xs k b u):=by
 have e:(kvs.any fun kv=>decide (kv.1=k))=(atKey xs k).isSome:=by
  rw [oN,(r.val k).tB,Option.isSome_map]
 unfold putK storedH
 rw [e]
 by_cases q:(atKey xs k).isSome=true
 ·rw [if_pos q,if_pos q];exact r.vP k ry
 ·rw [if_neg q,if_neg q];exact Paired.snoc r ⟨rfl,hb,ry⟩
theorem KT.keeps {H H':Hp} {kvs:List (List Key×V)} {xs:List (List Key×Addr×Value)} (r:KT H kvs xs) (ht:∀ b ys,H b=some (.tup ys)→H' b=some (.tup ys)):KT H' kvs xs:=
 Paired.vG r fun _ _ z=>⟨z.1,ht _ _ z.2.1,z.2.2⟩
section
variable {P:Program} {w:World} {H:Hp} {h:Heap} {a:Addr}
theorem wu {u:HO} (ok:HOk P w H h) (e:Rd H a u):bz P w H h a u:=e.ok ok
theorem kB {kvs:List (Key×V)} (ok:HOk P w H h) (e:Rd H a (.dK kvs)):kvs.length≤sizeLine∧(a == sysModules)=false∧∃ vs,KV kvs vs∧h.DictOf (ba P w) a vs:=
 show bz P w H h a (.dK kvs) from wu ok e
theorem B4 {kvs:List (Key×V)} (ok:HOk P w H h) (e:H a=some (.dK kvs)):kvs.length≤sizeLine∧(a == sysModules)=false∧∃ vs,KV kvs vs∧h.DictOf (ba P w) a vs:=kB ok (.inl e)
theorem kP {ks:List Key} (ok:HOk P w H h) (e:H a=some (.tup (ks.map kV))):(tupleKind (ba P w)).is h ks a:=by
 obtain ⟨_,its,r,o,h1,h2,n,h3⟩:=(show bz P w H h a (.tup (ks.map kV)) from ok a _ e)
 exact ⟨o,its.toArray,n,h1,h2,h3,by simpa using lU r⟩
theorem kY {kvs:List (List Key×V)} (ok:HOk P w H h) (e:Rd H a (.dT kvs)):kvs.length≤sizeLine∧(a == sysModules)=false ∧
  ∃ xs,KT H kvs xs∧h.DictOfH (tupleKind (ba P w)) a xs:=by
 obtain ⟨z,y,xs,r,o,es,ep,h1,h2,h3,h4,h5⟩:=(show bz P w H h a (.dT kvs) from wu ok e)
 refine ⟨z,y,xs,r,o,es,ep,h1,h2,h3,h4,fun x hx=>?_,h5⟩
 have all:∀ {l:List (List Key×V)} {m:List (List Key×Addr×Value)},KT H l m→∀ x∈m,(tupleKind (ba P w)).is h x.1 x.2.1:=by
  intro l m q
  induction q with
  | nil=>intro x hx;exact nomatch hx
  | @cons p q ps qs hq t ih=>
   intro x hx
   rcases List.mem_cons.mp hx with e | hx
   ·subst e
    exact kP ok (by rw [← hq.1];exact hq.2.1)
   ·exact ih x hx
 exact all r x hx
theorem Dt {kvs:List (List Key×V)} (ok:HOk P w H h) (e:H a=some (.dT kvs)):kvs.length≤sizeLine∧(a == sysModules)=false ∧
  ∃ xs,KT H kvs xs∧h.DictOfH (tupleKind (ba P w)) a xs:=kY ok (.inl e)
end
def lE (H:Hp) (a:Addr) (y:V) (r:Option V):Prop:=
 (∃ kvs k,Rd H a (.dK kvs)∧y=kV k∧r=ff kvs k)∨∃ kvs k b,Rd H a (.dT kvs)∧y=.ref b∧H b=some (.tup (k.map kV))∧r=ff kvs k
def nN (H:Hp) (a:Addr) (y v:V) (H':Hp):Prop:=
 (∃ kvs k,H a=some (.dK kvs)∧y=kV k∧kvs.length < sizeLine∧H'=upd H a (.dK (putK kvs k v))) ∨
 ∃ kvs k b,H a=some (.dT kvs)∧y=.ref b∧H b=some (.tup (k.map kV))∧kvs.length < sizeLine∧H'=upd H a (.dT (putK kvs k v))
theorem nN.k {H:Hp} {a:Addr} {kvs:List (Key×V)} {k:Key} {v:V} (e:H a=some (.dK kvs)) (hl:kvs.length < sizeLine):nN H a (kV k) v (upd H a (.dK (putK kvs k v))):=.inl ⟨kvs,k,e,rfl,hl,rfl⟩
section
variable {X:Cx} {pins:List (Addr×Obj)} {σ:St} {H:Hp} {s:Shared} {a:Addr} {y v:V} {u r:Value} {o:Option V} {A:Around} {E:Value→Shared→Prop}
theorem Inv.big (I:Inv X pins σ H s):sysModules < s.heap.objs.size:=by
 have h:mainGlobals < s.heap.objs.size:=(I.mod.glob.keeps I.bk).lt
 exact Nat.lt_trans (by decide) h
theorem r_ {Q:Value→Shared→Prop} (hu:A.units+1 < cLine) (I:Inv X pins σ H s) (g:lE H a y (some v)) (ry:RelV y u) (h:∀ w' s',Inv X pins σ H s'→RelV v w'→Q w' s') :
  wpAny (model X.prog X.w) A (getItem (.ref a) u) Q E s:=by
 rcases g with ⟨kvs,k,e,ey,l⟩ | ⟨kvs,k,b,e,ey,eb,l⟩
 ·subst ey
  obtain ⟨z,hd,vs,rel,dd⟩:=kB I.hok e
  obtain ⟨w',hw,rw'⟩:=eG.some_of (v:=v) (o:=valueAt vs k) (by rw [l];exact rel.val k)
  exact wpAny_getItem_of (kN ry) dd.mapOf hw (h w' _ (I.tok _) rw')
 ·subst ey
  cases (show u=Value.ref b from ry)
  obtain ⟨z,hd,xs,rel,dd⟩:=kY I.hok e
  obtain ⟨w',hw,rw'⟩:=eG.some_of (v:=v) (o:=(atKey xs k).map (·.2)) (by rw [l];exact rel.val k)
  obtain ⟨p,hp,hp2⟩:=Option.map_eq_some_iff.mp hw
  refine wpAny_getItem_heap (tupleKind_room_in1 hu) (kP I.hok eb) dd hp ?_
  rw [hp2]
  exact h w' _ (I.tok _) rw'
theorem ph {h':Heap} {t':Nat} {ob:HO} (I:Inv X pins σ H s) (mu:Mut (H a)) (hs:Heap.SameBut a s.heap h') (he:∃ q,h'.get? a=some q) (new:bz X.prog X.w (upd H a ob) h' a ob) :
  Inv X pins σ (upd H a ob) { s with heap:=h',toks:=t' }:=
 I.write (x:=a) (e:=a) mu (.inl rfl) (fun b q hb z=>(hs.2 b hb).trans z) he new
theorem tJ {P:Program} {w:World} {H':Hp} {h':Heap} {kvs:List (Key×V)} {vs:List (Key×Value)} (z:kvs.length≤sizeLine) (hd:(a == sysModules)=false) (rel:KV kvs vs) (dd:h'.DictOf (ba P w) a vs) :
  bz P w H' h' a (.dK kvs):=⟨z,hd,vs,rel,dd⟩
theorem tF {H':Hp} {Q:Unit→Shared→Prop} (hu:A.units+1 < cLine) (I:Inv X pins σ H s) (g:nN H a y v H') (ry:RelV y u) (rv:RelV v r) (h:∀ s',Inv X pins σ H' s'→Q () s') :
  wpAny (model X.prog X.w) A (setItem (.ref a) u r) Q E s:=by
 rcases g with ⟨kvs,k,e,ey,l,eH⟩ | ⟨kvs,k,b,e,ey,eb,l,eH⟩
 ·subst ey eH
  obtain ⟨z,hd,vs,rel,dd⟩:=B4 I.hok e
  have hz:vs.length≤sizeLine:=by rw [← rel.length];exact z
  have hl:(putK kvs k v).length≤sizeLine:=by have:=gx kvs k v;omega
  refine wpAny_setItem_pairs (hsz:=hz) (kN ry) dd fun h' dd' hs=>h _ ?_
  have he:∃ q,h'.get? a=some q:=let ⟨q,_,_,hq,_⟩:=dd';⟨q,hq⟩
  exact ph I (by rw [e];exact True.intro) hs he (tJ hl hd (rel.put k rv) dd')
 ·subst ey eH
  cases (show u=Value.ref b from ry)
  obtain ⟨z,hd,xs,rel,dd⟩:=Dt I.hok e
  have hz:xs.length≤sizeLine:=by rw [← Paired.length rel];exact z
  have hl:(putK kvs k v).length≤sizeLine:=by have:=gx kvs k v;omega
  refine wpAny_setItem_heap (hsz:=hz) (tupleKind_room_in1 hu) (kP I.hok eb) dd fun h' dd' hs=>h _ ?_
  obtain ⟨q,es,ep,hq,h2,h3,h4,_,h5⟩:=dd'
  refine ph I (by rw [e];exact True.intro) hs ⟨q,hq⟩ ⟨hl,hd,_,(rel.put k eb rv).keeps fun c ys ec=>?_,q,es,ep,hq,h2,h3,h4,h5⟩
  rw [aD (DH ec e (fun z=>nomatch z))]
  exact ec
end
def u_ (i:Expr):Prop:=∀ ov iv,subscripted i false ov iv=operate [ov,iv] (getItem ov iv)
theorem xj {prog:Program} {w:World} {A:Around} {E:Value→Shared→Prop} {s:Shared} {env:Env} {value slice:Expr} {pos:Pos} {T id:String} {Q:Value→Shared→Prop}
    (hl:typeLookup (.type T) "__getitem__"=pure (some (.builtin id))) (hs:u_ slice)
    (h:wpAny (model prog w) A (eval value env) (fun o s₁=>wpAny (model prog w) A (eval slice env) (fun i s₂=>s₂.TypeIs o T∧wpAny (model prog w) A (getItem o i) Q E s₂) E s₁) E s) :
    wpAny (model prog w) A (eval (.Subscript value slice pos) env) Q E s:=by
  refine Subscript_ (wpAny_mono h (fun o s₁ h₁=>wpAny_mono h₁ (fun i s₂ h₂=>?_) fun _ _ x=>x) fun _ _ x=>x)
  obtain ⟨hT,h₂⟩:=h₂
  unfold subscriptTail
  refine wpAny_bind ?_
  rw [getitemInPython_of_ne hT.not_modules]
  refine wpAny_bind (wpAny_specialOf hT hl ?_)
  have fin:wpAny (model prog w) A (subscripted slice false o i) (fun r s₃=>wpAny (model prog w) A (letTemporaryGo value o r>>=fun _=>pure r) Q E s₃) E s₂:=by
    rw [hs o i]
    exact wpAny_operating (wpAny_mono h₂ (fun r s₃ h₃=>wpAny_bind (wpAny_letTemporaryGo (wpAny_pure h₃))) fun _ _ x=>x)
  first
    | exact wpAny_pure (wpAny_bind fin)
    | exact wpAny_bind (wpAny_pure (wpAny_bind fin))
    | exact wpAny_bind fin
theorem pd {X:Cx} {pins:List (Addr×Obj)} {σ:St} {H:Hp} {s:Shared} {a:Addr} {y:V} {o:Option V} (I:Inv X pins σ H s) (g:lE H a y o):s.TypeIs (.ref a) "dict":=by
 rcases g with ⟨kvs,k,e,_,_⟩ | ⟨kvs,k,b,e,_,_,_⟩
 ·obtain ⟨_,_,vs,_,dd⟩:=kB I.hok e
  exact dd.typeIs
 ·obtain ⟨_,_,xs,_,dd⟩:=kY I.hok e
  exact dd.typeIs
def Dy (td ty:TE):TE:=fun σ H Q=>td σ H fun x H1=>ty σ H1 fun y H2=>∃ a v,x=.ref a∧lE H2 a y (some v)∧Q v H2
def Cn (td ty tv:TE):TS:=fun D σ H=>tv σ H fun v H1=>td σ H1 fun x H2=>ty σ H2 fun y H3=>∃ a H4,x=.ref a∧nN H3 a y v H4∧D.nx σ H4
section
variable {X:Cx} {o i e value:Expr} {pos pos' tpos:Pos} {td ty tv:TE}
theorem yR (hu:X.A.units+1 < cLine) (ho:PE X o td) (hi:PE X i ty) (hs:u_ i):PE X (.Subscript o i pos) (Dy td ty):=by
 intro pins s σ H Q I h
 refine xj PySem.F.slot_dict_getitem.lookup hs (thn (ho pins s σ H _ I h) fun u s1 ⟨x,H1,I1,rx,q1⟩=>thn (hi pins s1 σ H1 _ I1 q1) fun iv s2 ⟨y,H2,I2,ry,a,v,ex,g,q2⟩=>?_)
 subst ex
 obtain rfl:u=Value.ref a:=rx
 exact ⟨pd I2 g,r_ hu I2 g ry fun w' s3 I3 rw'=>⟨v,H2,I3,rw',q2⟩⟩
theorem xU (hu:X.A.units+1 < cLine) (ho:PE X o td) (hi:PE X i ty) (hv:PE X value tv) (hs:swapsWith value (some (.Subscript o i pos')) pos.line X.env=pure false) :
  PS X (.Assign [.Subscript o i pos'] value pos) (Cn td ty tv):=by
 intro pins s σ H D I h
 refine wpAny_Assign_Subscript (thn (hv pins s σ H _ I h) fun r s1 ⟨v,H1,I1,rv,q1⟩=>thn (ho pins s1 σ H1 _ I1 q1) fun u s2 ⟨x,H2,I2,rx,q2⟩=>thn (hi pins s2 σ H2 _ I2 q2) fun iv s3 ⟨y,H3,I3,ry,a,H4,ex,g,q3⟩=>?_) hs
 subst ex
 obtain rfl:u=Value.ref a:=rx
 exact tF hu I3 g ry rv fun s4 I4=>⟨σ,H4,I4,q3⟩
end
theorem vW {P:Program} {w:World} {H:Hp} (h:Heap) (hb:sysModules < h.objs.size):bz P w H (h.push { cls:=.type "dict",data:=.dict #[] }) h.objs.size (.dK []):=
 ⟨Nat.zero_le _,beq_eq_false_iff_ne.mpr (Ne.symm (Nat.ne_of_lt hb)),[],.nil,Heap.DictOf.new h⟩
def zf:TE:=fun _ H Q=>∀ p,H p=none→Q (.ref p) (upd H p (.dK []))
section
variable {X:Cx} {pos:Pos}
theorem uP:PE X (.Dict [] [] pos) zf:=fun pins s σ H Q I h=>
 wpAny_Dict_empty ⟨.ref s.heap.objs.size,_,I.laid (a:=s.heap.objs.size) (o:=.dK []) (t':=s.toks) (fun _ _ q=>Heap.get?_push_of_some _ q) (Nat.le_refl _) (vW s.heap I.big),rfl,h _ (I.hok.fresh (Nat.le_refl _))⟩
end
def tL:List (TE×TE)→St→Hp→(List (V×V)→Hp→Prop)→Prop
 | [],_,H,Q=>Q [] H
 | (tk,tv) :: r,σ,H,Q=>tk σ H fun x H1=>tv σ H1 fun y H2=>tL r σ H2 fun ps H3=>Q ((x,y) :: ps) H3
abbrev VV:List (V×V)→List (Value×Value)→Prop:=Paired fun p q=>RelV p.1 q.1∧RelV p.2 q.2
def PPs (X:Cx) (pos:Pos) (keys:List (Option Expr)) (values:List Expr) (trs:List (TE×TE)):Prop:=
 ∀ (pins:List (Addr×Obj)) (s:Shared) (σ:St) (H:Hp) (Q:List (V×V)→Hp→Prop),Inv X pins σ H s→tL trs σ H Q →
  wpAny (model X.prog X.w) X.A (evalPairs (pairTrees keys values X.env pos)) (fun vs s'=>∃ ps H',Inv X pins σ H' s'∧VV ps vs∧Q ps H') X.xe s
def cq (kvs more:List (Key×V)):List (Key×V):=more.foldl (fun acc kv=>putK acc kv.1 kv.2) kvs
theorem fg:∀ (more kvs:List (Key×V)),(cq kvs more).length≤kvs.length+more.length
 | [],kvs=>by show kvs.length≤kvs.length+0;omega
 | p :: r,kvs=>by
  have h1:=fg r (putK kvs p.1 p.2)
  have h2:=gx kvs p.1 p.2
  show (cq (putK kvs p.1 p.2) r).length≤_
  rw [List.length_cons];omega
structure M1 (X:Cx) (o:Expr) (m:Str) (apos:Pos) (e:Expr) (cpos:Pos):Prop where
 base:attributeBase o m X.env (eval o X.env)=eval o X.env
 few:((backTo cpos (starEach [e] X.env)).all (fun x=>!x.1) && (backToKw cpos (keywordEach [] X.env)).all (fun x=>x.1.isSome)
  && decide (([e]:List Expr).length+([]:List Keyword).length+(if ([]:List Keyword).isEmpty then 0 else 1) < 30))=true
 line:(apos.endLine == cpos.line)=true
 trees:backTo cpos (starEach [e] X.env)=[(false,eval e X.env)]
structure M2 (X:Cx) (o:Expr) (m:Str) (apos:Pos) (e f:Expr) (cpos:Pos):Prop where
 base:attributeBase o m X.env (eval o X.env)=eval o X.env
 few:((backTo cpos (starEach [e,f] X.env)).all (fun x=>!x.1) && (backToKw cpos (keywordEach [] X.env)).all (fun x=>x.1.isSome)
  && decide (([e,f]:List Expr).length+([]:List Keyword).length+(if ([]:List Keyword).isEmpty then 0 else 1) < 30))=true
 line:(apos.endLine == cpos.line)=true
 trees:backTo cpos (starEach [e,f] X.env)=[(false,eval e X.env),(false,eval f X.env)]
def IsD (H:Hp) (a:Addr):Prop:=(∃ kvs,Rd H a (.dK kvs))∨∃ kvs,Rd H a (.dT kvs)
theorem y9 {X:Cx} {pins:List (Addr×Obj)} {σ:St} {H:Hp} {s:Shared} {a:Addr} (I:Inv X pins σ H s) (d:IsD H a) :
  s.TypeIs (.ref a) "dict"∧(∀ b,Value.ref a=.ref b→∃ ob,s.heap.get? b=some ob∧ob.dict=none)∧(a == sysModules)=false:=by
 rcases d with ⟨kvs,e⟩ | ⟨kvs,e⟩
 ·obtain ⟨_,hd,vs,_,dd⟩:=kB I.hok e
  refine ⟨dd.typeIs,fun b q=>?_,hd⟩
  cases q
  obtain ⟨ob,_,_,h1,h2,_⟩:=dd
  exact ⟨ob,h1,h2.2.1⟩
 ·obtain ⟨_,hd,xs,_,dd⟩:=kY I.hok e
  refine ⟨dd.typeIs,fun b q=>?_,hd⟩
  cases q
  obtain ⟨ob,_,_,h1,h2,_⟩:=dd
  exact ⟨ob,h1,h2.2.1⟩
section
variable {X:Cx} {pins:List (Addr×Obj)} {σ:St} {H:Hp} {s:Shared} {a:Addr} {y d:V} {u r:Value} {o:Option V} {A:Around} {E:Value→Shared→Prop}
theorem Af {Q:Value→Shared→Prop} (hu:A.units+1 < cLine) (I:Inv X pins σ H s) (g:lE H a y o) (ry:RelV y u) (rd:RelV d r) (h:∀ w' s',Inv X pins σ H s'→RelV (o.getD d) w'→Q w' s') :
  wpAny (model X.prog X.w) A (call (.builtin "dict.get") [.ref a,u,r]) Q E s:=by
 rcases g with ⟨kvs,k,e,ey,l⟩ | ⟨kvs,k,b,e,ey,eb,l⟩
 ·subst ey
  obtain ⟨z,hd,vs,rel,dd⟩:=kB I.hok e
  refine call_meetsIn PySem.F.slot_dict_get dd.typeIs PySem.F.entry_dict_get (PySem.F.args_dict_get_3 _ _ _) (meets_dict_get_default (ba X.prog X.w) a (kN ry) hd r) ⟨_,dd.mapOf,h _ _ (I.tok _) ?_⟩
  rw [l]
  exact (rel.val k).getD rd
 ·subst ey
  cases (show u=Value.ref b from ry)
  obtain ⟨z,hd,xs,rel,dd⟩:=kY I.hok e
  refine call_meetsIn PySem.F.slot_dict_get dd.typeIs PySem.F.entry_dict_get (PySem.F.args_dict_get_3 _ _ _) (meetsH_dict_get_default (tupleKind (ba X.prog X.w)) a b hd r) ⟨tupleKind_room_in1 hu,k,xs,kP I.hok eb,dd,h _ _ (I.tok _) ?_⟩
  rw [l]
  exact (rel.val k).getD rd
end
def Au (td ty tx:TE):TE:=fun σ H Q=>td σ H fun x H1=>∃ a,x=.ref a∧IsD H1 a∧ty σ H1 fun y H2=>tx σ H2 fun z H3=>∃ o,lE H3 a y o∧Q (o.getD z) H3
section
variable {X:Cx} {o e f:Expr} {apos cpos:Pos} {td ty tx:TE}
theorem uI (hu:X.A.units+1 < cLine) (ho:PE X o td) (he:PE X e ty) (hf:PE X f tx) (m:M2 X o "get" apos e f cpos):PE X (.Call (.Attribute o "get" apos) [e,f] [] cpos) (Au td ty tx):=by
 intro pins s σ H Q I h
 refine wpAny_Call_method m.base m.few m.line PySem.F.plainAttrs_dict PySem.F.slot_dict_get PySem.F.type_dict_get (thn (ho pins s σ H _ I h) fun u s1 ⟨x,H1,I1,rx,a,ex,d,q1⟩=>?_)
 subst ex
 obtain rfl:u=Value.ref a:=rx
 obtain ⟨t1,t2,_⟩:=y9 I1 d
 refine ⟨t1,t2,?_⟩
 rw [m.trees]
 refine Calls.callWith_builtin rfl (Calls.evalArgs_plain (Calls.spliced_cons (thn (he pins s1 σ H1 _ I1 q1) fun iv s2 ⟨y,H2,I2,ry,q2⟩=>
  Calls.spliced_cons (thn (hf pins s2 σ H2 _ I2 q2) fun fv s3 ⟨z,H3,I3,rz,ov,g,q3⟩=>Calls.spliced_nil ?_))))
 exact Af hu I3 g ry rz fun w' s4 I4 rw'=>⟨_,H3,I4,rw',q3⟩
end
inductive Vl where
 | d (x:D) | r (n:Nat) | fd (kvs:List (Key×D)) | fn (x:Str) | sc (ns:List Int) | pr (x:D) (n:Nat)
inductive Ob where
 | lst (xs:List D) | dct (kvs:List (Key×D)) | dead
abbrev Sto:=List Ob
inductive R (α:Type) where
 | ok (a:α) (S:Sto) | ex (c:Str) (xs:List (Str×D)) (S:Sto) | bad
def R.bind {α β:Type} (x:R α) (f:α→Sto→R β):R β:=match x with
 | .ok a S=>f a S
 | .ex c xs S=>.ex c xs S
 | .bad=>.bad
abbrev Nv:=List (Option Vl)
abbrev XE:=Nv→Sto→R Vl
abbrev XT:=Nv→Sto→R Bool
abbrev XA:=Nv→Sto→R (List Vl)
abbrev XO:=Nv→Sto→R (Option Int)
inductive Fl where
 | nx | bk | ct | rt (v:Vl)
abbrev XS:=Nv→Sto→R (Fl×Nv)
abbrev XG:=Vl→Nv→Sto→R Nv
abbrev XGs:=List Vl→Nv→Sto→R Nv
abbrev XF:=List Vl→Sto→R Vl
structure Its where
 items:List Vl
 gd:Option (Nat×Ob)
def Its.ok (I:Its) (S:Sto):Prop:=match I.gd with
 | none=>True
 | some (n,o)=>S[n]?=some o
abbrev XI:=Nv→Sto→R Its
def Al (μ:Nat→Addr) (S:Sto) (b:Addr):Prop:=∃ n o,S[n]?=some o∧o≠.dead∧μ n=b
open Classical in
noncomputable def vh (μ:Nat→Addr) (S:Sto) (H:Hp):Hp:=fun b=>if Al μ S b then none else H b
section
variable {μ μ' μ1 μ2:Nat→Addr} {S S' S1 S2:Sto} {H H' H1 H2:Hp} {b:Addr} {o:HO}
theorem bO (h:H b=some o) (n:¬Al μ S b):vh μ S H b=some o:=by unfold vh;rw [if_neg n];exact h
theorem aO (h:vh μ S H b=some o):¬Al μ S b∧H b=some o:=by
 unfold vh at h
 split at h
 ·cases h
 ·exact ⟨‹_›,h⟩
theorem fB:dr (vh μ S H) H:=fun _ _ h=>(aO h).2
def ObR (μ:Nat→Addr) (S:Sto) (H:Hp) (a:Addr):Ob→Prop
 | .lst ds=>∃ vs,H a=some (.lst vs)∧av (vh μ S H) vs ds
 | .dct kvs=>∃ vs:List V,vs.length=kvs.length∧H a=some (.dK ((kvs.map (·.1)).zip vs))∧av (vh μ S H) vs (kvs.map (·.2))
 | .dead=>True
structure HR (μ:Nat→Addr) (S:Sto) (H:Hp):Prop where
 ob:∀ n o,S[n]?=some o→ObR μ S H (μ n) o
 inj:∀ n m o o',S[n]?=some o→S[m]?=some o'→o≠.dead→o'≠.dead→μ n=μ m→n=m
theorem ObR.some {a:Addr} {ob:Ob} (h:ObR μ S H a ob) (n:ob≠.dead):∃ o,H a=Option.some o:=by
 cases ob with
 | lst ds=>obtain ⟨vs,e,_⟩:=h;exact ⟨_,e⟩
 | dct kvs=>obtain ⟨vs,_,e,_⟩:=h;exact ⟨_,e⟩
 | dead=>exact absurd rfl n
theorem HR.al (h:HR μ S H) (a:Al μ S b):∃ o,H b=some o:=by
 obtain ⟨n,ob,e,nd,rfl⟩:=a
 exact (h.ob n ob e).some nd
theorem HR.nal (h:HR μ S H) (e:H b=none):¬Al μ S b:=fun a=>by
 obtain ⟨o,q⟩:=h.al a
 rw [e] at q;cases q
theorem ObR.mono {a:Addr} {ob:Ob} (h:ObR μ S H a ob) (e:ob≠.dead→H' a=H a) (k:dr (vh μ S H) (vh μ' S' H')):ObR μ' S' H' a ob:=by
 cases ob with
 | lst ds=>obtain ⟨vs,q,r⟩:=h;exact ⟨vs,by rw [e (by simp)];exact q,r.mono k⟩
 | dct kvs=>obtain ⟨vs,l,q,r⟩:=h;exact ⟨vs,l,by rw [e (by simp)];exact q,r.mono k⟩
 | dead=>exact True.intro
structure Step (μ:Nat→Addr) (S:Sto) (H:Hp) (μ':Nat→Addr) (S':Sto) (H':Hp):Prop where
 ag:∀ n,n < S.length→μ' n=μ n
 le:S.length≤S'.length
 hr:HR μ' S' H'
 dd:∀ n:Nat,S[n]?=some Ob.dead→S'[n]?=some Ob.dead
 nw:∀ n o,S.length≤n→S'[n]?=some o→o≠.dead→H (μ' n)=none
 ko:∀ b o,H b=some o→¬Al μ S b→H' b=some o
 dm:∀ b o,H b=some o→∃ o',H' b=some o'
theorem Step.refl (h:HR μ S H):Step μ S H μ S H:=
 ⟨fun _ _=>rfl,Nat.le_refl _,h,fun _ e=>e,fun n o l e _=>(by rw [List.getElem?_eq_none l] at e;cases e),fun _ _ e _=>e,fun _ o e=>⟨o,e⟩⟩
theorem Step.nal (a:Step μ S H μ' S' H') (h:H b=some o) (n:¬Al μ S b):¬Al μ' S' b:=by
 rintro ⟨k,ob,e,nd,rfl⟩
 by_cases hk:k < S.length
 ·have e0:S[k]?=some S[k]:=List.getElem?_eq_getElem hk
  by_cases hd:S[k]=.dead
  ·rw [hd] at e0
   rw [a.dd k e0] at e
   cases e
   exact nd rfl
  ·exact n ⟨k,_,e0,hd,(a.ag k hk).symm⟩
 ·rw [a.nw k ob (by omega) e nd] at h
  cases h
theorem Step.vis (a:Step μ S H μ' S' H'):dr (vh μ S H) (vh μ' S' H'):=fun b o h=>by
 obtain ⟨n,h⟩:=aO h
 exact bO (a.ko b o h n) (a.nal h n)
theorem Step.trans (a:Step μ S H μ1 S1 H1) (b:Step μ1 S1 H1 μ2 S2 H2):Step μ S H μ2 S2 H2 where
 ag:=fun n h=>(b.ag n (Nat.lt_of_lt_of_le h a.le)).trans (a.ag n h)
 le:=Nat.le_trans a.le b.le
 hr:=b.hr
 dd:=fun n e=>b.dd n (a.dd n e)
 nw:=fun n o l e nd=>by
  by_cases hn:n < S1.length
  ·rw [b.ag n hn]
   refine a.nw n S1[n] l (List.getElem?_eq_getElem hn) fun z=>?_
   have e0:S1[n]?=some S1[n]:=List.getElem?_eq_getElem hn
   rw [z] at e0
   rw [b.dd n e0] at e
   cases e
   exact nd rfl
  ·have q:=b.nw n o (by omega) e nd
   cases e2:H (μ2 n) with
   | none=>rfl
   | some u=>
    obtain ⟨u',e3⟩:=a.dm _ _ e2
    rw [q] at e3;cases e3
 ko:=fun c o h n=>b.ko c o (a.ko c o h n) (a.nal h n)
 dm:=fun c o h=>by
  obtain ⟨o1,e1⟩:=a.dm c o h
  exact b.dm c o1 e1
theorem Step.new (h:HR μ S H) {p:Addr} (hp:H p=none) (o:HO):Step μ S H μ S (upd H p o):=by
 have k:dr (vh μ S H) (vh μ S (upd H p o)):=fun b u q=>by
  obtain ⟨n,q⟩:=aO q
  exact bO (by rw [aD (aX q hp)];exact q) n
 refine ⟨fun _ _=>rfl,Nat.le_refl _,⟨fun n ob e=>?_,h.inj⟩,fun _ e=>e,fun n ob l e _=>(by rw [List.getElem?_eq_none l] at e;cases e),fun b u q _=>by rw [aD (aX q hp)];exact q,fun b u q=>⟨u,by rw [aD (aX q hp)];exact q⟩⟩
 refine (h.ob n ob e).mono (fun nd=>?_) k
 obtain ⟨u,q⟩:=(h.ob n ob e).some nd
 exact aD (aX q hp)
def ext (μ:Nat→Addr) (k:Nat) (p:Addr):Nat→Addr:=fun n=>if n=k then p else μ n
theorem cy {k:Nat} {p:Addr}:ext μ k p k=p:=by unfold ext;rw [if_pos rfl]
theorem jm {k n:Nat} {p:Addr} (h:n≠k):ext μ k p n=μ n:=by unfold ext;rw [if_neg h]
def ObL (G:Hp):Ob→HO→Prop
 | .lst ds,o=>∃ vs,o=.lst vs∧av G vs ds
 | .dct kvs,o=>∃ vs:List V,vs.length=kvs.length∧o=.dK ((kvs.map (·.1)).zip vs)∧av G vs (kvs.map (·.2))
 | .dead,_=>False
theorem ObL.ne {G:Hp} {ob:Ob} {o:HO} (h:ObL G ob o):ob≠.dead:=by
 rintro rfl
 exact h
theorem ObL.at {ob:Ob} {o:HO} {a:Addr} {G:Hp} (h:ObL G ob o) (e:H a=some o) (k:dr G (vh μ S H)):ObR μ S H a ob:=by
 cases ob with
 | lst ds=>obtain ⟨vs,rfl,r⟩:=h;exact ⟨vs,e,r.mono k⟩
 | dct kvs=>obtain ⟨vs,l,rfl,r⟩:=h;exact ⟨vs,l,e,r.mono k⟩
 | dead=>exact h.elim
theorem Step.alloc (h:HR μ S H) {p:Addr} (hp:H p=none) {ob:Ob} {o:HO} (hl:ObL (vh μ S H) ob o):Step μ S H (ext μ S.length p) (S++[ob]) (upd H p o):=by
 have nd:=hl.ne
 have old:∀ n u,n < S.length→(S++[ob])[n]?=some u→S[n]?=some u∧ext μ S.length p n=μ n:=fun n u hn e=>by
  rw [List.getElem?_append_left hn] at e
  exact ⟨e,jm (Nat.ne_of_lt hn)⟩
 have new:∀ n u,S.length≤n→(S++[ob])[n]?=some u→n=S.length∧u=ob:=fun n u hn e=>by
  rw [List.getElem?_append_right hn] at e
  have hz:n - S.length=0:=by
   refine Nat.eq_zero_of_not_pos fun z=>?_
   rw [List.getElem?_eq_none (by simp;omega)] at e;cases e
  rw [hz] at e
  exact ⟨by omega,by simpa using e.symm⟩
 have nal:∀ {b u},H b=some u→¬Al μ S b→¬Al (ext μ S.length p) (S++[ob]) b:=by
  rintro b u q n ⟨k,v,e,d,rfl⟩
  by_cases hk:k < S.length
  ·obtain ⟨e1,e2⟩:=old k v hk e
   exact n ⟨k,v,e1,d,e2.symm⟩
  ·obtain ⟨rfl,rfl⟩:=new k v (by omega) e
   rw [cy,hp] at q;cases q
 have k:dr (vh μ S H) (vh (ext μ S.length p) (S++[ob]) (upd H p o)):=fun b u q=>by
  obtain ⟨n,q⟩:=aO q
  exact bO (by rw [aD (aX q hp)];exact q) (nal q n)
 refine ⟨fun n hn=>jm (Nat.ne_of_lt hn),by simp,⟨fun n u e=>?_,fun n m u v e1 e2 d1 d2 q=>?_⟩,fun n e=>?_,fun n u l e _=>?_,fun b u q _=>by rw [aD (aX q hp)];exact q,fun b u q=>⟨u,by rw [aD (aX q hp)];exact q⟩⟩
 ·by_cases hn:n < S.length
  ·obtain ⟨e1,e2⟩:=old n u hn e
   rw [e2]
   refine (h.ob n u e1).mono (fun nd=>?_) k
   obtain ⟨x,q⟩:=(h.ob n u e1).some nd
   exact aD (aX q hp)
  ·obtain ⟨rfl,rfl⟩:=new n u (by omega) e
   rw [cy]
   exact hl.at bV k
 ·by_cases hn:n < S.length
  ·obtain ⟨a1,a2⟩:=old n u hn e1
   obtain ⟨x,qx⟩:=(h.ob n u a1).some d1
   by_cases hm:m < S.length
   ·obtain ⟨b1,b2⟩:=old m v hm e2
    rw [a2,b2] at q
    exact h.inj n m u v a1 b1 d1 d2 q
   ·obtain ⟨rfl,rfl⟩:=new m v (by omega) e2
    rw [a2,cy] at q
    rw [q,hp] at qx;cases qx
  ·obtain ⟨rfl,rfl⟩:=new n u (by omega) e1
   by_cases hm:m < S.length
   ·obtain ⟨b1,b2⟩:=old m v hm e2
    obtain ⟨x,qx⟩:=(h.ob m v b1).some d2
    rw [b2,cy] at q
    rw [← q,hp] at qx;cases qx
   ·exact (new m v (by omega) e2).1.symm
 ·have hn:n < S.length:=by
   refine Nat.lt_of_not_le fun z=>?_
   rw [List.getElem?_eq_none z] at e;cases e
  rw [List.getElem?_append_left hn];exact e
 ·obtain ⟨rfl,rfl⟩:=new n u l e
  rw [cy];exact hp
theorem eL {n m:Nat} {ob u:Ob} (hn:n < S.length) (e:(S.set n ob)[m]?=some u):(m=n∧u=ob)∨(m≠n∧S[m]?=some u):=by
 rw [List.getElem?_set] at e
 by_cases q:n=m
 ·subst q
  rw [if_pos rfl,if_pos hn] at e
  exact .inl ⟨rfl,(Option.some.inj e).symm⟩
 ·rw [if_neg q] at e
  exact .inr ⟨fun z=>q z.symm,e⟩
theorem Step.put (h:HR μ S H) {n:Nat} {ob ob0:Ob} {o:HO} (e0:S[n]?=some ob0) (d0:ob0≠.dead) (hl:ObL (vh μ S H) ob o):Step μ S H μ (S.set n ob) (upd H (μ n) o):=by
 have nd:=hl.ne
 have hn:n < S.length:=(List.getElem?_eq_some_iff.mp e0).1
 have al0:Al μ S (μ n):=⟨n,ob0,e0,d0,rfl⟩
 have al:∀ {b},Al μ (S.set n ob) b→Al μ S b:=by
  rintro b ⟨m,u,e,d,rfl⟩
  rcases eL hn e with ⟨rfl,rfl⟩ | ⟨z,q⟩
  ·exact al0
  ·exact ⟨m,u,q,d,rfl⟩
 have k:dr (vh μ S H) (vh μ (S.set n ob) (upd H (μ n) o)):=fun b u q=>by
  obtain ⟨z,q⟩:=aO q
  exact bO (by rw [aD (fun c=>z (by rw [c];exact al0))];exact q) fun c=>z (al c)
 refine ⟨fun _ _=>rfl,by rw [List.length_set];exact Nat.le_refl _,⟨fun m u e=>?_,fun m m' u v e1 e2 d1 d2 q=>?_⟩,fun m e=>?_,fun m u l e _=>?_,fun b u q z=>by rw [aD (fun c=>z (by rw [c];exact al0))];exact q,fun b u q=>?_⟩
 ·rcases eL hn e with ⟨rfl,rfl⟩ | ⟨z,q⟩
  ·exact hl.at bV k
  ·refine (h.ob m u q).mono (fun d=>aD fun c=>z (h.inj m n u ob0 q e0 d d0 c)) k
 ·have a1:∃ w,S[m]?=some w∧w≠.dead:=by
   rcases eL hn e1 with ⟨rfl,rfl⟩ | ⟨z,q⟩
   ·exact ⟨ob0,e0,d0⟩
   ·exact ⟨u,q,d1⟩
  have a2:∃ w,S[m']?=some w∧w≠.dead:=by
   rcases eL hn e2 with ⟨rfl,rfl⟩ | ⟨z,q⟩
   ·exact ⟨ob0,e0,d0⟩
   ·exact ⟨v,q,d2⟩
  obtain ⟨w1,x1,y1⟩:=a1
  obtain ⟨w2,x2,y2⟩:=a2
  exact h.inj m m' w1 w2 x1 x2 y1 y2 q
 ·rw [List.getElem?_set_ne]
  ·exact e
  ·rintro rfl
   rw [e0] at e;cases e;exact d0 rfl
 ·rw [List.getElem?_eq_none (by rw [List.length_set];exact l)] at e;cases e
 ·by_cases z:b=μ n
  ·subst z;exact ⟨o,bV⟩
  ·exact ⟨u,by rw [aD z];exact q⟩
theorem Step.freeze (h:HR μ S H) {n:Nat} {ob:Ob} (e0:S[n]?=some ob) (d0:ob≠.dead):Step μ S H μ (S.set n .dead) H∧¬Al μ (S.set n .dead) (μ n):=by
 have hn:n < S.length:=(List.getElem?_eq_some_iff.mp e0).1
 have al:∀ {b},Al μ (S.set n .dead) b→Al μ S b:=by
  rintro b ⟨m,u,e,d,rfl⟩
  rcases eL hn e with ⟨rfl,rfl⟩ | ⟨z,q⟩
  ·exact absurd rfl d
  ·exact ⟨m,u,q,d,rfl⟩
 have k:dr (vh μ S H) (vh μ (S.set n .dead) H):=fun b u q=>by
  obtain ⟨z,q⟩:=aO q
  exact bO q fun c=>z (al c)
 have inn:∀ m u,(S.set n .dead)[m]?=some u→u≠.dead→S[m]?=some u∧m≠n:=fun m u e d=>by
  rcases eL hn e with ⟨rfl,rfl⟩ | ⟨z,q⟩
  ·exact absurd rfl d
  ·exact ⟨q,z⟩
 refine ⟨⟨fun _ _=>rfl,by rw [List.length_set];exact Nat.le_refl _,⟨fun m u e=>?_,fun m m' u v e1 e2 d1 d2 q=>h.inj m m' u v (inn m u e1 d1).1 (inn m' v e2 d2).1 d1 d2 q⟩,fun m e=>?_,fun m u l e _=>?_,fun b u q z=>q,fun b u q=>⟨u,q⟩⟩,?_⟩
 ·by_cases d:u=.dead
  ·subst d;exact True.intro
  ·exact (h.ob m u (inn m u e d).1).mono (fun _=>rfl) k
 ·by_cases z:m=n
  ·subst z;rw [List.getElem?_set,if_pos rfl,if_pos hn]
  ·rw [List.getElem?_set_ne (fun c=>z c.symm)];exact e
 ·rw [List.getElem?_eq_none (by rw [List.length_set];exact l)] at e;cases e
 ·rintro ⟨m,u,e,d,q⟩
  obtain ⟨e1,z⟩:=inn m u e d
  exact z (h.inj m n u ob e1 e0 d d0 q)
theorem Step.uJ (h:HR μ S H) {n:Nat} {ob:Ob} (o':HO) (e0:S[n]?=some ob) (d0:ob≠.dead):Step μ S H μ (S.set n .dead) (upd H (μ n) o')∧¬Al μ (S.set n .dead) (μ n):=by
 have hn:n < S.length:=(List.getElem?_eq_some_iff.mp e0).1
 have al0:Al μ S (μ n):=⟨n,ob,e0,d0,rfl⟩
 obtain ⟨st,na⟩:=Step.freeze h e0 d0
 have k:dr (vh μ S H) (vh μ (S.set n .dead) (upd H (μ n) o')):=fun b u q=>by
  obtain ⟨z,q'⟩:=aO q
  exact bO (by rw [aD (fun c=>z (by rw [c];exact al0))];exact q') (aO (st.vis b u q)).1
 refine ⟨⟨st.ag,st.le,⟨fun m u e=>?_,st.hr.inj⟩,st.dd,fun m u l e d=>st.nw m u l e d,fun b u q z=>by rw [aD (fun c=>z (by rw [c];exact al0))];exact q,fun b u q=>?_⟩,na⟩
 ·rcases eL hn e with ⟨rfl,rfl⟩ | ⟨z,q⟩
  ·exact True.intro
  ·by_cases d:u=.dead
   ·subst d;exact True.intro
   ·exact (h.ob m u q).mono (fun _=>aD fun c=>z (h.inj m n u ob q e0 d d0 c)) k
 ·by_cases z:b=μ n
  ·subst z;exact ⟨o',bV⟩
  ·exact ⟨u,by rw [aD z];exact q⟩
theorem cK {k n:Nat} {u:Ob} (e:(S.take k)[n]?=some u):n < k∧S[n]?=some u:=by
 rw [List.getElem?_take] at e
 split at e
 ·exact ⟨‹_›,e⟩
 ·cases e
theorem Step.take (a:Step μ S H μ' S' H'):Step μ S H μ' (S'.take S.length) H':=by
 have al:∀ {b},Al μ' (S'.take S.length) b→Al μ' S' b:=by
  rintro b ⟨m,u,e,d,rfl⟩
  exact ⟨m,u,(cK e).2,d,rfl⟩
 have k:dr (vh μ' S' H') (vh μ' (S'.take S.length) H'):=fun b u q=>by
  obtain ⟨z,q⟩:=aO q
  exact bO q fun c=>z (al c)
 refine ⟨a.ag,by rw [List.length_take];have:=a.le;omega,⟨fun m u e=>(a.hr.ob m u (cK e).2).mono (fun _=>rfl) k,fun m m' u v e1 e2=>a.hr.inj m m' u v (cK e1).2 (cK e2).2⟩,fun n e=>?_,fun n u l e _=>?_,a.ko,a.dm⟩
 ·have hn:n < S.length:=(List.getElem?_eq_some_iff.mp e).1
  rw [List.getElem?_take,if_pos hn]
  exact a.dd n e
 ·have:=(cK e).1
  omega
theorem Step.move (a:Step μ S H μ' S' H') {n:Nat} {ob:Ob} (hn:S.length≤n) (e0:S'[n]?=some ob) (d0:ob≠.dead):Step μ S H (ext μ' S.length (μ' n)) (S'.take S.length++[ob]) H':=by
 have lt:(S'.take S.length).length=S.length:=by rw [List.length_take];have:=a.le;omega
 have get:∀ m u,(S'.take S.length++[ob])[m]?=some u→∃ j,S'[j]?=some u∧ext μ' S.length (μ' n) m=μ' j∧((m < S.length∧j=m)∨(m=S.length∧j=n)):=fun m u e=>by
  by_cases hm:m < S.length
  ·rw [List.getElem?_append_left (by omega)] at e
   exact ⟨m,(cK e).2,jm (Nat.ne_of_lt hm),.inl ⟨hm,rfl⟩⟩
  ·rw [List.getElem?_append_right (by omega)] at e
   have hz:m - (S'.take S.length).length=0:=by
    refine Nat.eq_zero_of_not_pos fun z=>?_
    rw [List.getElem?_eq_none (by simp;omega)] at e;cases e
   rw [hz] at e
   have hm':m=S.length:=by omega
   subst hm'
   obtain rfl:ob=u:=by simpa using e
   exact ⟨n,e0,cy,.inr ⟨rfl,rfl⟩⟩
 have al:∀ {b},Al (ext μ' S.length (μ' n)) (S'.take S.length++[ob]) b→Al μ' S' b:=by
  rintro b ⟨m,u,e,d,rfl⟩
  obtain ⟨j,q,z,_⟩:=get m u e
  exact ⟨j,u,q,d,z.symm⟩
 have k:dr (vh μ' S' H') (vh (ext μ' S.length (μ' n)) (S'.take S.length++[ob]) H'):=fun b u q=>by
  obtain ⟨z,q⟩:=aO q
  exact bO q fun c=>z (al c)
 refine ⟨fun m hm=>(jm (Nat.ne_of_lt hm)).trans (a.ag m hm),by rw [List.length_append,lt];simp,⟨fun m u e=>?_,fun m m' u v e1 e2 d1 d2 q=>?_⟩,fun m e=>?_,fun m u l e d=>?_,a.ko,a.dm⟩
 ·obtain ⟨j,q,z,_⟩:=get m u e
  rw [z]
  exact (a.hr.ob j u q).mono (fun _=>rfl) k
 ·obtain ⟨j,q1,z1,w1⟩:=get m u e1
  obtain ⟨j',q2,z2,w2⟩:=get m' v e2
  rw [z1,z2] at q
  have:=a.hr.inj j j' u v q1 q2 d1 d2 q
  omega
 ·have hm:m < S.length:=(List.getElem?_eq_some_iff.mp e).1
  rw [List.getElem?_append_left (by omega),List.getElem?_take,if_pos hm]
  exact a.dd m e
 ·obtain ⟨j,q,z,w⟩:=get m u e
  rw [z]
  have hj:S.length≤j:=by omega
  exact a.nw j u hj q d
end
section
variable (K:PySem.W.Frag) (mg:Str→Option Value)
def aM (μ:Nat→Addr) (S:Sto) (H:Hp) (v:V):Vl→Prop
 | .d x=>Rep (vh μ S H) v x
 | .r n=>v=.ref (μ n)∧n < S.length
 | .fd kvs=>∃ (a:Addr) (vs:List V) (o:Obj),v=.ref a∧vs.length=kvs.length∧vh μ S H a=some (.frz o (.dK ((kvs.map (·.1)).zip vs)))∧av (vh μ S H) vs (kvs.map (·.2))
 | .fn x=>∃ f:Addr,mg x=some (.ref f)∧v=.ref f
 | .sc ns=>∃ l:Addr,v=.ref l∧SqL K (vh μ S H) l (ns.map V.int)
 | .pr x n=>∃ (a:Addr) (u:V),v=.ref a∧vh μ S H a=some (.tup [u,.ref (μ n)])∧Rep (vh μ S H) u x∧n < S.length
inductive bu (μ:Nat→Addr) (S:Sto) (H:Hp):List V→List Vl→Prop
 | nil:bu μ S H [] []
 | cons {v:V} {x:Vl} {vs:List V} {xs:List Vl}:aM K mg μ S H v x→bu μ S H vs xs→bu μ S H (v :: vs) (x :: xs)
structure bW (μ:Nat→Addr) (S:Sto) (H:Hp) (σ:St) (τ:Nv):Prop where
 len:σ.length=τ.length
 get:∀ (i:Nat) (x:Vl),τ[i]?=some (some x)→∃ v,σ[i]?=some (some v)∧aM K mg μ S H v x
end
section
variable {K:PySem.W.Frag} {mg:Str→Option Value} {μ μ':Nat→Addr} {S S':Sto} {H H':Hp}
theorem SqL.mono {l:Addr} {xs:List V} {H H':Hp} (k:dr H H') (h:SqL K H l xs):SqL K H' l xs:=by
 rcases h with (h | ⟨o,h⟩) | h
 ·exact .inl (.inl (k _ _ h))
 ·exact .inl (.inr ⟨o,k _ _ h⟩)
 ·exact .inr h
theorem aM.step {v:V} {x:Vl} (a:Step μ S H μ' S' H') (h:aM K mg μ S H v x):aM K mg μ' S' H' v x:=by
 cases x with
 | d x=>exact Rep.mono a.vis h
 | r n=>obtain ⟨rfl,hn⟩:=h;exact ⟨by rw [a.ag n hn],Nat.lt_of_lt_of_le hn a.le⟩
 | fd kvs=>obtain ⟨p,vs,o,e,l,q,r⟩:=h;exact ⟨p,vs,o,e,l,a.vis _ _ q,r.mono a.vis⟩
 | pr x n=>obtain ⟨p,u,e,q,r,hn⟩:=h;exact ⟨p,u,e,by rw [a.ag n hn];exact a.vis _ _ q,Rep.mono a.vis r,Nat.lt_of_lt_of_le hn a.le⟩
 | fn x=>exact h
 | sc ns=>obtain ⟨l,e,q⟩:=h;exact ⟨l,e,q.mono a.vis⟩
theorem bu.step (a:Step μ S H μ' S' H'):∀ {vs:List V} {xs:List Vl},bu K mg μ S H vs xs→bu K mg μ' S' H' vs xs
 | _,_,.nil=>.nil
 | _,_,.cons r t=>.cons (r.step a) (bu.step a t)
theorem bu.length:∀ {vs:List V} {xs:List Vl},bu K mg μ S H vs xs→vs.length=xs.length
 | _,_,.nil=>rfl
 | _,_,.cons _ t=>by simp [bu.length t]
theorem bu.get:∀ {vs:List V} {xs:List Vl} {i:Nat} {x:Vl},bu K mg μ S H vs xs→xs[i]?=some x→∃ v,vs[i]?=some v∧aM K mg μ S H v x
 | _,_,_,_,.nil,e=>by simp at e
 | _,_,0,_,.cons r _,e=>by simp at e;subst e;exact ⟨_,rfl,r⟩
 | _,_,i+1,x,.cons _ t,e=>by
  obtain ⟨d,h1,h2⟩:=bu.get (i:=i) (x:=x) t (by simpa using e)
  exact ⟨d,by simpa using h1,h2⟩
theorem bu.pO:∀ {vs:List V} {ds:List D},av (vh μ S H) vs ds→bu K mg μ S H vs (ds.map Vl.d)
 | _,_,.nil=>.nil
 | _,_,.cons r t=>.cons (show aM K mg μ S H _ (.d _) from r) (bu.pO t)
theorem bW.step {σ:St} {τ:Nv} (a:Step μ S H μ' S' H') (h:bW K mg μ S H σ τ):bW K mg μ' S' H' σ τ:=
 ⟨h.len,fun i x e=>by obtain ⟨v,e1,r⟩:=h.get i x e;exact ⟨v,e1,r.step a⟩⟩
theorem bW.set {σ:St} {τ:Nv} {v:V} {x:Vl} (i:Nat) (h:bW K mg μ S H σ τ) (r:aM K mg μ S H v x):bW K mg μ S H (σ.set i (some v)) (τ.set i (some x)):=by
 refine ⟨by rw [List.length_set,List.length_set];exact h.len,fun j y e=>?_⟩
 rw [List.getElem?_set] at e ⊢
 by_cases q:i=j
 ·subst q
  rw [if_pos rfl] at e ⊢
  by_cases hl:i < τ.length
  ·rw [if_pos hl] at e
   cases e
   exact ⟨v,by rw [if_pos (by rw [h.len];exact hl)],r⟩
  ·rw [if_neg hl] at e;cases e
 ·rw [if_neg q] at e ⊢
  exact h.get j y e
theorem bW.pre {σ:St} {τ:Nv} (k:Nat) (h:bW K mg μ S H σ τ):bW K mg μ S H (List.replicate k none++σ) (List.replicate k none++τ):=by
 refine ⟨by simp [h.len],fun i x e=>?_⟩
 by_cases hi:i < k
 ·rw [List.getElem?_append_left (by simpa using hi),List.getElem?_replicate,if_pos hi] at e
  cases e
 ·rw [List.getElem?_append_right (by simpa using hi)] at e ⊢
  simpa using h.get (i - k) x (by simpa using e)
theorem bW.beg {N:List Str} {vs:List V} {us:List Vl} (h:bu K mg μ S H vs us):bW K mg μ S H (L2.start N vs) (us.map some++List.replicate (N.length - us.length) none):=by
 have l:=h.length
 refine ⟨by simp [L2.start,l],fun i x e=>?_⟩
 unfold L2.start
 by_cases hi:i < us.length
 ·rw [List.getElem?_append_left (by simpa using hi),List.getElem?_map] at e
  cases q:us[i]? with
  | none=>rw [q] at e;cases e
  | some y=>
   rw [q] at e
   cases e
   obtain ⟨v,e1,r⟩:=h.get q
   exact ⟨v,by rw [List.getElem?_append_left (by simp;omega),List.getElem?_map,e1];rfl,r⟩
 ·rw [List.getElem?_append_right (by simpa using hi),List.getElem?_replicate] at e
  split at e<;>cases e
end
abbrev WX:=Str→List (Str×D)→Sto→(Nat→Addr)→Hp→Prop
abbrev W0:WX:=fun _ _ _ _ _=>False
def aJ {α β:Type} (Rl:(Nat→Addr)→Sto→Hp→β→α→Prop) (WE:WX) (μ:Nat→Addr) (S:Sto) (H:Hp) (res:R α) (Q:β→Hp→Prop):Prop:=match res with
 | .ok a S'=>∀ b μ' H',Step μ S H μ' S' H'→Rl μ' S' H' b a→Q b H'
 | .ex c xs S'=>∀ μ' H',Step μ S H μ' S' H'→WE c xs S' μ' H'
 | .bad=>False
section
variable {α β γ δ:Type} {Rl:(Nat→Addr)→Sto→Hp→β→α→Prop} {Rl2:(Nat→Addr)→Sto→Hp→δ→γ→Prop} {WE:WX} {μ μ1:Nat→Addr} {S S1:Sto} {H H1:Hp} {res:R α} {Q:β→Hp→Prop} {Q2:δ→Hp→Prop}
theorem aJ.shift (h:aJ Rl WE μ S H res Q) (a:Step μ S H μ1 S1 H1):aJ Rl WE μ1 S1 H1 res Q:=by
 cases res with
 | ok x S'=>exact fun b μ' H' st r=>h b μ' H' (a.trans st) r
 | ex c xs S'=>exact fun μ' H' st=>h μ' H' (a.trans st)
 | bad=>exact h
theorem aJ.bind {f:α→Sto→R γ} (h:aJ Rl2 WE μ S H (res.bind f) Q2) (k:∀ b a S1 μ1 H1,Step μ S H μ1 S1 H1→Rl μ1 S1 H1 b a→aJ Rl2 WE μ1 S1 H1 (f a S1) Q2→Q b H1):aJ Rl WE μ S H res Q:=by
 cases res with
 | ok x S'=>exact fun b μ' H' st r=>k b x S' μ' H' st r (aJ.shift (show aJ Rl2 WE μ S H (f x S') Q2 from h) st)
 | ex c xs S'=>exact h
 | bad=>exact h
theorem aJ.here {a:α} {b:β} (hr:HR μ S H) (h:aJ Rl WE μ S H (.ok a S) Q) (r:Rl μ S H b a):Q b H:=h b μ H (Step.refl hr) r
end
inductive FlV where
 | nx | bk | ct | rt (v:V)
def Ends.at (D:Ends) (p:FlV×St) (H:Hp):Prop:=match p.1 with
 | .nx=>D.nx p.2 H
 | .bk=>D.bk p.2 H
 | .ct=>D.ct p.2 H
 | .rt v=>D.rt v H
section
variable (K:PySem.W.Frag) (mg:Str→Option Value)
def FlR (μ:Nat→Addr) (S:Sto) (H:Hp):FlV→Fl→Prop
 | .nx,.nx=>True
 | .bk,.bk=>True
 | .ct,.ct=>True
 | .rt v,.rt z=>aM K mg μ S H v z
 | _,_=>False
def RlS (μ:Nat→Addr) (S:Sto) (H:Hp) (p:FlV×St) (q:Fl×Nv):Prop:=bW K mg μ S H p.2 q.2∧FlR K mg μ S H p.1 q.1
abbrev RlQ {α:Type} (_:Nat→Addr) (_:Sto) (_:Hp) (b a:α):Prop:=b=a
structure fe (μ:Nat→Addr) (S:Sto) (H:Hp) (J:It) (I:Its):Prop where
 ok:I.ok S
 len:I.items.length≤sizeLine
 go:∀ i z μ' S' H',Step μ S H μ' S' H'→I.ok S'→I.items[i]?=some z→J.go i H'
 yld:∀ i z μ' S' H' x H2,Step μ S H μ' S' H'→I.ok S'→I.items[i]?=some z→J.yld i H' x H2→Step μ' S' H' μ' S' H2∧aM K mg μ' S' H2 x z
 stop:∀ i μ' S' H',Step μ S H μ' S' H'→I.ok S'→I.items.length=i→J.stop i H'
def trE (WE:WX) (m:XE):TE:=fun σ H Q=>∃ μ S τ,HR μ S H∧bW K mg μ S H σ τ∧aJ (aM K mg) WE μ S H (m τ S) Q
def trT (WE:WX) (m:XT):TT:=fun σ H Q=>∃ μ S τ,HR μ S H∧bW K mg μ S H σ τ∧aJ RlQ WE μ S H (m τ S) Q
def trA (WE:WX) (m:XA):TA:=fun σ H Q=>∃ μ S τ,HR μ S H∧bW K mg μ S H σ τ∧aJ (bu K mg) WE μ S H (m τ S) Q
def trO (WE:WX) (m:XO):TO:=fun σ H Q=>∃ μ S τ,HR μ S H∧bW K mg μ S H σ τ∧aJ RlQ WE μ S H (m τ S) Q
def trS (WE:WX) (m:XS):TS:=fun D σ H=>∃ μ S τ,HR μ S H∧bW K mg μ S H σ τ∧aJ (RlS K mg) WE μ S H (m τ S) D.at
def trG (WE:WX) (g:XG):TG:=fun v σ H Q=>∃ μ S τ z,HR μ S H∧bW K mg μ S H σ τ∧aM K mg μ S H v z∧aJ (bW K mg) WE μ S H (g z τ S) Q
def DR (WE:WX) (g:XGs):TGs:=fun vs σ H Q=>∃ μ S τ zs,HR μ S H∧bW K mg μ S H σ τ∧bu K mg μ S H vs zs∧aJ (bW K mg) WE μ S H (g zs τ S) Q
def trI (WE:WX) (it:XI):TI:=fun σ H Rr=>∃ μ S τ,HR μ S H∧bW K mg μ S H σ τ∧aJ (fe K mg) WE μ S H (it τ S) Rr
end
structure RE (X:Cx) (WE:WX) (e:Expr) (m:XE):Prop where
 h:PE X e (trE X.K X.mg WE m)
structure RT (X:Cx) (WE:WX) (e:Expr) (m:XT):Prop where
 h:PT X e (trT X.K X.mg WE m)
structure RW (X:Cx) (WE:WX) (e:Expr) (m:XT):Prop where
 h:PW X e (trT X.K X.mg WE m)
structure RA (X:Cx) (WE:WX) (es:List Expr) (m:XA):Prop where
 h:PA X es (trA X.K X.mg WE m)
structure RO (X:Cx) (WE:WX) (e:Option Expr) (m:XO):Prop where
 h:PO X e (trO X.K X.mg WE m)
structure RS (X:Cx) (WE:WX) (s:Stmt) (m:XS):Prop where
 h:PS X s (trS X.K X.mg WE m)
structure RB (X:Cx) (WE:WX) (s:List Stmt) (m:XS):Prop where
 h:PSs X s (trS X.K X.mg WE m)
structure RG (X:Cx) (WE:WX) (t:Expr) (g:XG):Prop where
 h:PG X t (trG X.K X.mg WE g)
structure RGs (X:Cx) (WE:WX) (ts:List Expr) (g:XGs):Prop where
 h:PGs X ts (DR X.K X.mg WE g)
structure RI (X:Cx) (WE:WX) (tg iter:Expr) (it:XI):Prop where
 h:PI X tg iter (trI X.K X.mg WE it)
structure RTs (X:Cx) (WE:WX) (ifs:List Expr) (m:XT):Prop where
 h:PTs X ifs (trT X.K X.mg WE m)
section
variable {X:Cx}
theorem PE.weak {e:Expr} {t t':TE} (h:PE X e t) (k:∀ σ H Q,t' σ H Q→t σ H Q):PE X e t':=fun pins s σ H Q I q=>h pins s σ H Q I (k σ H Q q)
theorem PT.weak {e:Expr} {t t':TT} (h:PT X e t) (k:∀ σ H Q,t' σ H Q→t σ H Q):PT X e t':=fun pins s σ H Q I q=>h pins s σ H Q I (k σ H Q q)
theorem PW.weak {e:Expr} {t t':TT} (h:PW X e t) (k:∀ σ H Q,t' σ H Q→t σ H Q):PW X e t':=fun wh pins s σ H Q I q=>h wh pins s σ H Q I (k σ H Q q)
theorem PA.weak {e:List Expr} {t t':TA} (h:PA X e t) (k:∀ σ H Q,t' σ H Q→t σ H Q):PA X e t':=fun po pins s σ H Q I q=>h po pins s σ H Q I (k σ H Q q)
theorem PS.weak {e:Stmt} {t t':TS} (h:PS X e t) (k:∀ D σ H,t' D σ H→t D σ H):PS X e t':=fun pins s σ H D I q=>h pins s σ H D I (k D σ H q)
theorem PSs.weak {e:List Stmt} {t t':TS} (h:PSs X e t) (k:∀ D σ H,t' D σ H→t D σ H):PSs X e t':=fun pins s σ H D I q=>h pins s σ H D I (k D σ H q)
theorem PG.weak {e:Expr} {t t':TG} (h:PG X e t) (k:∀ v σ H Q,t' v σ H Q→t v σ H Q):PG X e t':=fun pins s σ H v u Q I r q=>h pins s σ H v u Q I r (k v σ H Q q)
theorem PGs.weak {e:List Expr} {t t':TGs} (h:PGs X e t) (k:∀ v σ H Q,t' v σ H Q→t v σ H Q):PGs X e t':=fun pins s σ H v u Q I r q=>h pins s σ H v u Q I r (k v σ H Q q)
theorem PI.weak {tg e:Expr} {t t':TI} (h:PI X tg e t) (k:∀ σ H Q,t' σ H Q→t σ H Q):PI X tg e t':=fun pins s σ H Q I q=>h pins s σ H Q I (k σ H Q q)
end
def cF (K:PySem.W.Frag) (mg:Str→Option Value) (r:R2) (f:Vl→Vl→Sto→R Vl):Prop:=∀ (WE:WX) (μ:Nat→Addr) (S:Sto) (H:Hp) (v w:V) (x y:Vl) (Q:VK),HR μ S H→aM K mg μ S H v x→aM K mg μ S H w y→aJ (aM K mg) WE μ S H (f x y S) Q→r v w H Q
def zA (K:PySem.W.Frag) (mg:Str→Option Value) (r:V→Hp→VK→Prop) (f:Vl→Sto→R Vl):Prop:=∀ (WE:WX) (μ:Nat→Addr) (S:Sto) (H:Hp) (v:V) (x:Vl) (Q:VK),HR μ S H→aM K mg μ S H v x→aJ (aM K mg) WE μ S H (f x S) Q→r v H Q
def fc (K:PySem.W.Frag) (mg:Str→Option Value) (r:List V→Hp→VK→Prop) (f:List Vl→Sto→R Vl):Prop:=∀ (WE:WX) (μ:Nat→Addr) (S:Sto) (H:Hp) (vs:List V) (xs:List Vl) (Q:VK),HR μ S H→bu K mg μ S H vs xs→aJ (aM K mg) WE μ S H (f xs S) Q→r vs H Q
def aa (i:Nat):XE:=fun τ S=>match τ[i]? with
 | some (some v)=>.ok v S
 | _=>.bad
def xC (d:D):XE:=fun _ S=>.ok (.d d) S
def xFn (x:Str):XE:=fun _ S=>.ok (.fn x) S
def xOp (f:Vl→Vl→Sto→R Vl) (a b:XE):XE:=fun τ S=>(a τ S).bind fun x S1=>(b τ S1).bind fun y S2=>f x y S2
def xUn (f:Vl→Sto→R Vl) (a:XE):XE:=fun τ S=>(a τ S).bind fun x S1=>f x S1
def eR (f f':Vl→Vl→Sto→R Vl) (a b c:XE):XE:=fun τ S=>(a τ S).bind fun x S1=>(b τ S1).bind fun y S2=>(f x y S2).bind fun z S3=>match z with
 | .d (.bl k)=>if k=true then (c τ S3).bind fun w S4=>f' y w S4 else .ok (.d (.bl false)) S3
 | _=>.bad
def asB (z:Vl) (S:Sto):R Bool:=match z with
 | .d (.bl b)=>.ok b S
 | _=>.bad
def aR (a:XE):XT:=fun τ S=>(a τ S).bind asB
def tru (z:Vl) (S:Sto):R Bool:=match z with
 | .d .non=>.ok false S
 | .d (.bl b)=>.ok b S
 | .d (.int i)=>.ok (i != 0) S
 | .d (.tup xs)=>.ok (!xs.isEmpty) S
 | .d (.lst xs)=>.ok (!xs.isEmpty) S
 | .r n=>match S[n]? with
  | some (.lst xs)=>.ok (!xs.isEmpty) S
  | some (.dct kvs)=>.ok (!kvs.isEmpty) S
  | _=>.bad
 | _=>.bad
def du (a:XE):XT:=fun τ S=>(a τ S).bind tru
def rh (a b:XT):XT:=fun τ S=>(a τ S).bind fun c S1=>if c=true then b τ S1 else .ok false S1
def xOr (a b:XT):XT:=fun τ S=>(a τ S).bind fun c S1=>if c=true then .ok true S1 else b τ S1
def c5 (a:XT):XT:=fun τ S=>(a τ S).bind fun c S1=>.ok (!c) S1
def cu (a b:XE):XE:=fun τ S=>(a τ S).bind fun x S1=>(asB x S1).bind fun c S2=>if c=true then b τ S2 else .ok (.d (.bl false)) S2
def v_ (a b:XE):XE:=fun τ S=>(a τ S).bind fun x S1=>(asB x S1).bind fun c S2=>if c=true then .ok (.d (.bl true)) S2 else b τ S2
def qc (a:XE):XE:=fun τ S=>(a τ S).bind fun x S1=>(asB x S1).bind fun c S2=>.ok (.d (.bl (!c))) S2
def EG (c:XT) (a b:XE):XE:=fun τ S=>(c τ S).bind fun k S1=>if k=true then a τ S1 else b τ S1
def ak:XA:=fun _ S=>.ok [] S
def ab (a:XE) (r:XA):XA:=fun τ S=>(a τ S).bind fun x S1=>(r τ S1).bind fun xs S2=>.ok (x :: xs) S2
def gb:List Vl→Option (List D)
 | []=>some []
 | .d x :: r=>(gb r).map (x :: ·)
 | _=>none
def mkT (xs:List Vl) (S:Sto):R Vl:=match gb xs with
 | some ds=>if ds.length≤100000 then .ok (.d (.tup ds)) S else .bad
 | none=>.bad
def mkL (xs:List Vl) (S:Sto):R Vl:=match gb xs with
 | some ds=>if ds.length≤100000 then .ok (.d (.lst ds)) S else .bad
 | none=>.bad
def mkM (xs:List Vl) (S:Sto):R Vl:=match gb xs with
 | some ds=>if ds.length≤100000 then .ok (.r S.length) (S++[.lst ds]) else .bad
 | none=>.bad
def xN (f:List Vl→Sto→R Vl) (as:XA):XE:=fun τ S=>(as τ S).bind f
def frz (z:Vl) (S:Sto):R Vl:=match z with
 | .r n=>match S[n]? with
  | some (.lst xs)=>.ok (.d (.lst xs)) (S.set n .dead)
  | some (.dct kvs)=>.ok (.fd kvs) (S.set n .dead)
  | _=>.bad
 | z=>.ok z S
def xFz (a:XE):XE:=fun τ S=>(a τ S).bind frz
def cD:XO:=fun _ S=>.ok none S
def de (a:XE):XO:=fun τ S=>(a τ S).bind fun x S1=>match x with
 | .d (.int i)=>.ok (some i) S1
 | _=>.bad
def xSl (f:Vl→Option Int→Option Int→Sto→R Vl) (a:XE) (l h:XO):XE:=fun τ S=>(a τ S).bind fun x S1=>(l τ S1).bind fun i S2=>(h τ S2).bind fun j S3=>f x i j S3
section
variable {X:Cx} {WE:WX} {a b c e:Expr} {xa xb xc xe:XE} {pos:Pos} {es:List Expr} {t u:XT}
theorem rv (i:Nat) {x:Str} (hN:X.N[i]?=some x:=by rfl) (hv:Vis X.env.scope x:=by first | exact Or.inl rfl | exact Or.inr (Or.inl rfl) | exact Or.inr (Or.inr rfl)) (hd:(x == ("__debug__":Str))=false:=by decide)
  (hcd:(x == ("__classdict__":Str))=false:=by decide):RE X WE (.Name x pos) (aa i):=⟨(AF hN hv hd hcd).weak fun σ H Q ⟨μ,S,τ,hr,sr,p⟩=>by
 unfold aa at p
 split at p
 ·obtain ⟨v,e1,r⟩:=sr.get _ _ ‹_›
  exact ⟨v,e1,p.here hr r⟩
 ·exact p.elim⟩
theorem ai {i j}:RE X WE (.Constant (.int i) j pos) (xC (.int i)):=⟨Bv.weak fun _ _ _ ⟨_,_,_,hr,_,p⟩=>p.here hr (Rep.int i)⟩
theorem dF {i j}:RE X WE (.Constant (.bool i) j pos) (xC (.bl i)):=⟨B2.weak fun _ _ _ ⟨_,_,_,hr,_,p⟩=>p.here hr (Rep.bl i)⟩
theorem mZ {j}:RE X WE (.Constant .none j pos) (xC .non):=⟨AQ.weak fun _ _ _ ⟨_,_,_,hr,_,p⟩=>p.here hr Rep.non⟩
theorem bC {x j}:RE X WE (.Constant (.str x) j pos) (xC (.str x)):=⟨za.weak fun _ _ _ ⟨_,_,_,hr,_,p⟩=>p.here hr (Rep.str x)⟩
theorem two {r:R2} {f:Vl→Vl→Sto→R Vl} (hf:cF X.K X.mg r f) {σ:St} {H:Hp} {Q:VK} (h:trE X.K X.mg WE (xOp f xa xb) σ H Q):tOp r (trE X.K X.mg WE xa) (trE X.K X.mg WE xb) σ H Q:=by
 obtain ⟨μ,S,τ,hr,sr,p⟩:=h
 refine ⟨μ,S,τ,hr,sr,p.bind fun v x S1 μ1 H1 st1 r1 p1=>?_⟩
 refine ⟨μ1,S1,τ,st1.hr,sr.step st1,p1.bind fun w y S2 μ2 H2 st2 r2 p2=>?_⟩
 exact hf WE μ2 S2 H2 v w x y Q st2.hr (r1.step st2) r2 p2
theorem aC {op:Operator} {r:R2} {f:Vl→Vl→Sto→R Vl} (ho:OpR X (binaryOp op) r) (hf:cF X.K X.mg r f) (ha:RE X WE a xa) (hb:RE X WE b xb):RE X WE (.BinOp a op b pos) (xOp f xa xb):=
 ⟨(C2 ho ha.h hb.h).weak fun _ _ _ h=>two hf h⟩
theorem wA {op:UnaryOp} {r:V→Hp→VK→Prop} {f:Vl→Sto→R Vl} (ho:UnR X (unaryOp op) r) (hf:zA X.K X.mg r f) (ha:RE X WE a xa):RE X WE (.UnaryOp op a pos) (xUn f xa):=
 ⟨(B6 ho ha.h).weak fun σ H Q ⟨μ,S,τ,hr,sr,p⟩=>⟨μ,S,τ,hr,sr,p.bind fun v x S1 μ1 H1 st1 r1 p1=>hf WE μ1 S1 H1 v x Q st1.hr r1 p1⟩⟩
theorem b9 {op:CmpOp} {r:R2} {f:Vl→Vl→Sto→R Vl} (ho:OpR X (compareOp op) r) (hf:cF X.K X.mg r f) (ha:RE X WE a xa) (hb:RE X WE b xb) (hm:behindInMarks op b=false:=by first | exact sQ _ | with_unfolding_all rfl):RE X WE (.Compare a [op] [b] pos) (xOp f xa xb):=
 ⟨(xR ho ha.h hb.h hm).weak fun _ _ _ h=>two hf h⟩
theorem qa {σ:St} {H:Hp} {Q:Bool→Hp→Prop} (h:trT X.K X.mg WE (aR xa) σ H Q):trE X.K X.mg WE xa σ H fun v H'=>∃ k,v=.bl k∧Q k H':=by
 obtain ⟨μ,S,τ,hr,sr,p⟩:=h
 refine ⟨μ,S,τ,hr,sr,p.bind fun v x S1 μ1 H1 st1 r1 p1=>?_⟩
 unfold asB at p1
 split at p1
 ·cases (show Rep (vh μ1 S1 H1) v (.bl _) from r1)
  exact ⟨_,rfl,p1.here st1.hr rfl⟩
 ·exact p1.elim
theorem aZ {op:CmpOp} {r:R2} {f:Vl→Vl→Sto→R Vl} (ho:OpR X (compareOp op) r) (hf:cF X.K X.mg r f) (ha:RE X WE a xa) (hb:RE X WE b xb) (hm:behindInMarks op b=false:=by first | exact sQ _ | with_unfolding_all rfl):RT X WE (.Compare a [op] [b] pos) (aR (xOp f xa xb)):=
 ⟨(yq ho ha.h hb.h hm).weak fun _ _ _ h=>two hf (qa h)⟩
theorem mX {r r':R2} {f f':Vl→Vl→Sto→R Vl} (hf:cF X.K X.mg r f) (hf':cF X.K X.mg r' f') {σ:St} {H:Hp} {Q:VK} (h:trE X.K X.mg WE (eR f f' xa xb xc) σ H Q):oG r r' (trE X.K X.mg WE xa) (trE X.K X.mg WE xb) (trE X.K X.mg WE xc) σ H Q:=by
 obtain ⟨μ,S,τ,hr,sr,p⟩:=h
 refine ⟨μ,S,τ,hr,sr,p.bind fun v x S1 μ1 H1 st1 r1 p1=>?_⟩
 refine ⟨μ1,S1,τ,st1.hr,sr.step st1,p1.bind fun w y S2 μ2 H2 st2 r2 p2=>?_⟩
 refine hf WE μ2 S2 H2 v w x y _ st2.hr (r1.step st2) r2 (p2.bind fun z zz S3 μ3 H3 st3 r3 p3=>?_)
 try dsimp only at p3
 split at p3
 ·cases (show Rep (vh μ3 S3 H3) z (.bl _) from r3)
  refine ⟨_,rfl,?_⟩
  split at p3
  ·rename_i k hk
   rw [if_pos hk]
   refine ⟨μ3,S3,τ,st3.hr,sr.step (st1.trans (st2.trans st3)),p3.bind fun q qq S4 μ4 H4 st4 r4 p4=>?_⟩
   exact hf' WE μ4 S4 H4 w q y qq Q st4.hr (r2.step (st3.trans st4)) r4 p4
  ·rename_i k hk
   rw [if_neg hk]
   exact p3.here st3.hr (Rep.bl false)
 ·exact p3.elim
theorem jQ {op op':CmpOp} {r r':R2} {f f':Vl→Vl→Sto→R Vl} (ho:OpR X (compareOp op) r) (hf:cF X.K X.mg r f) (ho':OpR X (compareOp op') r') (hf':cF X.K X.mg r' f') (ha:RE X WE a xa) (hb:RE X WE b xb) (hc:RE X WE c xc)
  (hm:lastMarks [op,op'] [b,c]=false:=by with_unfolding_all rfl):RE X WE (.Compare a [op,op'] [b,c] pos) (eR f f' xa xb xc):=⟨(vA ho ho' ha.h hb.h hc.h hm).weak fun _ _ _ h=>mX hf hf' h⟩
theorem v3 {op op':CmpOp} {r r':R2} {f f':Vl→Vl→Sto→R Vl} (ho:OpR X (compareOp op) r) (hf:cF X.K X.mg r f) (ho':OpR X (compareOp op') r') (hf':cF X.K X.mg r' f') (ha:RE X WE a xa) (hb:RE X WE b xb) (hc:RE X WE c xc)
  (hm:lastMarks [op,op'] [b,c]=false:=by with_unfolding_all rfl):RT X WE (.Compare a [op,op'] [b,c] pos) (aR (eR f f' xa xb xc)):=⟨(vQ ho ho' ha.h hb.h hc.h hm).weak fun _ _ _ h=>mX hf hf' (qa h)⟩
theorem isE {α β:Type} {xs:List α} {ys:List β} (h:xs.length=ys.length):(!xs.isEmpty)=!ys.isEmpty:=by
  cases xs<;>cases ys<;>first | rfl | simp at h
theorem zc {K:PySem.W.Frag} {mg:Str→Option Value} {WE:WX} {μ:Nat→Addr} {S:Sto} {H:Hp} {v:V} {x:Vl} {Q:Bool→Hp→Prop} (hr:HR μ S H) (r:aM K mg μ S H v x) (p:aJ RlQ WE μ S H (tru x S) Q):∃ k,vT K v H k∧Q k H:=by
 unfold tru at p
 split at p
 ·cases (show Rep (vh μ S H) v .non from r);exact ⟨false,rfl,p.here hr rfl⟩
 ·cases (show Rep (vh μ S H) v (.bl _) from r);exact ⟨_,rfl,p.here hr rfl⟩
 ·cases (show Rep (vh μ S H) v (.int _) from r);exact ⟨_,rfl,p.here hr rfl⟩
 ·cases (show Rep (vh μ S H) v (.tup _) from r) with
  | tup h rs=>exact ⟨_,.inr (.inl ⟨_,SqT.of (aO h).2,rfl⟩),by rw [isE rs.length];exact p.here hr rfl⟩
 ·cases (show Rep (vh μ S H) v (.lst _) from r) with
  | lst h rs=>exact ⟨_,.inl ⟨_,SqL.of (aO h).2,rfl⟩,by rw [isE rs.length];exact p.here hr rfl⟩
 ·obtain ⟨rfl,hn⟩:=r
  split at p
  ·rename_i xs e
   obtain ⟨vs,h,rs⟩:=hr.ob _ _ e
   exact ⟨_,.inl ⟨_,SqL.of h,rfl⟩,by rw [isE rs.length];exact p.here hr rfl⟩
  ·rename_i kvs e
   obtain ⟨vs,l,h,rs⟩:=hr.ob _ _ e
   exact ⟨_,.inr (.inr ⟨_,h,rfl⟩),by rw [isE (ys:=kvs) (by simp [l])];exact p.here hr rfl⟩
  ·exact p.elim
 ·exact p.elim
theorem cx (ha:RE X WE a xa) (he:∀ whole,isTrue a X.env whole=(do let v ← whole;standAt a.pos;holding [v] (truthy v)):=by intro _;rfl):RT X WE a (du xa):=
 ⟨(vz ha.h he).weak fun σ H Q ⟨μ,S,τ,hr,sr,p⟩=>⟨μ,S,τ,hr,sr,p.bind fun v x S1 μ1 H1 st1 r1 p1=>zc st1.hr r1 p1⟩⟩
theorem pv (ha:RT X WE a t):RW X WE (.BoolOp .And [a] pos) t:=⟨yl ha.h⟩
theorem iY (ha:RT X WE a t):RW X WE (.BoolOp .Or [a] pos) t:=⟨z9 ha.h⟩
theorem t8 (ha:RT X WE a t) (hb:RW X WE (.BoolOp .And (b :: es) pos) u):RW X WE (.BoolOp .And (a :: b :: es) pos) (rh t u):=
 ⟨(BK ha.h hb.h).weak fun σ H Q ⟨μ,S,τ,hr,sr,p⟩=>⟨μ,S,τ,hr,sr,p.bind fun k k' S1 μ1 H1 st1 r1 p1=>by
  cases (show k=k' from r1)
  try dsimp only at p1
  split at p1
  ·rename_i hk;rw [if_pos hk];exact ⟨μ1,S1,τ,st1.hr,sr.step st1,p1⟩
  ·rename_i hk;rw [if_neg hk];exact p1.here st1.hr rfl⟩⟩
theorem gQ (ha:RT X WE a t) (hb:RW X WE (.BoolOp .Or (b :: es) pos) u):RW X WE (.BoolOp .Or (a :: b :: es) pos) (xOr t u):=
 ⟨(CH ha.h hb.h).weak fun σ H Q ⟨μ,S,τ,hr,sr,p⟩=>⟨μ,S,τ,hr,sr,p.bind fun k k' S1 μ1 H1 st1 r1 p1=>by
  cases (show k=k' from r1)
  try dsimp only at p1
  split at p1
  ·rename_i hk;rw [if_pos hk];exact p1.here st1.hr rfl
  ·rename_i hk;rw [if_neg hk];exact ⟨μ1,S1,τ,st1.hr,sr.step st1,p1⟩⟩⟩
theorem RW.rt (h:RW X WE a t):RT X WE a t:=⟨h.h.pt⟩
theorem cj (ha:RT X WE a t):RT X WE (.UnaryOp .Not a pos) (c5 t):=
 ⟨(Bc ha.h).weak fun σ H Q ⟨μ,S,τ,hr,sr,p⟩=>⟨μ,S,τ,hr,sr,p.bind fun k k' S1 μ1 H1 st1 r1 p1=>by
  cases (show k=k' from r1)
  exact p1.here st1.hr rfl⟩⟩
theorem om {K:PySem.W.Frag} {mg:Str→Option Value} {α β:Type} {Rl:(Nat→Addr)→Sto→Hp→β→α→Prop} {μ:Nat→Addr} {S:Sto} {H:Hp} {v:V} {x:Vl} {Q:β→Hp→Prop} {f:Bool→Sto→R α} (r:aM K mg μ S H v x) (p:aJ Rl WE μ S H ((asB x S).bind f) Q):∃ k,v=.bl k∧aJ Rl WE μ S H (f k S) Q:=by
 unfold asB at p
 split at p
 ·cases (show Rep (vh μ S H) v (.bl _) from r)
  exact ⟨_,rfl,p⟩
 ·exact p.elim
theorem cM {op} (ha:RE X WE a xa):RE X WE (.BoolOp op [a] pos) xa:=⟨yY ha.h⟩
theorem cc (ha:RE X WE a xa) (hb:RE X WE (.BoolOp .And (b :: es) pos) xb):RE X WE (.BoolOp .And (a :: b :: es) pos) (cu xa xb):=
 ⟨(Bi ha.h hb.h).weak fun σ H Q ⟨μ,S,τ,hr,sr,p⟩=>⟨μ,S,τ,hr,sr,p.bind fun v x S1 μ1 H1 st1 r1 p1=>by
  obtain ⟨k,rfl,p1⟩:=om r1 p1
  refine ⟨k,rfl,?_⟩
  split at p1
  ·rename_i hk;rw [if_pos hk];exact ⟨μ1,S1,τ,st1.hr,sr.step st1,p1⟩
  ·rename_i hk;rw [if_neg hk];exact p1.here st1.hr (Rep.bl false)⟩⟩
theorem Dc (ha:RE X WE a xa) (hb:RE X WE (.BoolOp .Or (b :: es) pos) xb):RE X WE (.BoolOp .Or (a :: b :: es) pos) (v_ xa xb):=
 ⟨(Cv ha.h hb.h).weak fun σ H Q ⟨μ,S,τ,hr,sr,p⟩=>⟨μ,S,τ,hr,sr,p.bind fun v x S1 μ1 H1 st1 r1 p1=>by
  obtain ⟨k,rfl,p1⟩:=om r1 p1
  refine ⟨k,rfl,?_⟩
  split at p1
  ·rename_i hk;rw [if_pos hk];exact p1.here st1.hr (Rep.bl true)
  ·rename_i hk;rw [if_neg hk];exact ⟨μ1,S1,τ,st1.hr,sr.step st1,p1⟩⟩⟩
theorem AZ (ha:RE X WE a xa):RE X WE (.UnaryOp .Not a pos) (qc xa):=
 ⟨(Bt ha.h).weak fun σ H Q ⟨μ,S,τ,hr,sr,p⟩=>⟨μ,S,τ,hr,sr,p.bind fun v x S1 μ1 H1 st1 r1 p1=>by
  obtain ⟨k,rfl,p1⟩:=om r1 p1
  exact ⟨k,rfl,p1.here st1.hr (Rep.bl _)⟩⟩⟩
theorem ah:RA X WE [] ak:=⟨fU.weak fun σ H Q ⟨μ,S,τ,hr,sr,p⟩=>p.here hr .nil⟩
theorem ae {ts:XA} [n:NS e] (ha:RE X WE e xe) (hr:RA X WE es ts):RA X WE (e :: es) (ab xe ts):=
 ⟨(dR ha.h hr.h (n.eq es X.env)).weak fun σ H Q ⟨μ,S,τ,hr,sr,p⟩=>⟨μ,S,τ,hr,sr,p.bind fun v x S1 μ1 H1 st1 r1 p1=>⟨μ1,S1,τ,st1.hr,sr.step st1,p1.bind fun vs xs S2 μ2 H2 st2 r2 p2=>
  p2.here st2.hr (.cons (r1.step st2) r2)⟩⟩⟩
theorem ft {K:PySem.W.Frag} {mg:Str→Option Value} {μ:Nat→Addr} {S:Sto} {H:Hp}:∀ {vs:List V} {xs:List Vl} {ds:List D},bu K mg μ S H vs xs→gb xs=some ds→av (vh μ S H) vs ds
 | _,_,_,.nil,e=>by simp [gb] at e;subst e;exact .nil
 | _,_,ds,@bu.cons _ _ _ _ _ v x vs xs r t,e=>by
  cases x with
  | d x=>
   simp only [gb,Option.map_eq_some_iff] at e
   obtain ⟨es,e1,rfl⟩:=e
   exact .cons r (ft t e1)
  | _=>simp [gb] at e
theorem jV {n:Nat} (h:n≤100000):n≤sizeLine:=by rw [sizeLine_eq];omega
theorem aJ.rO {K:PySem.W.Frag} {mg:Str→Option Value} {μ:Nat→Addr} {S:Sto} {H:Hp} {Q:VK} {vs:List V} {ds:List D} (hr:HR μ S H) (rs:av (vh μ S H) vs ds) (p:aJ (aM K mg) WE μ S H (.ok (.d (.tup ds)) S) Q) (q:Addr) (hq:H q=none):Q (.ref q) (upd H q (.tup vs)):=by
 have st:=Step.new hr hq (.tup vs)
 exact p _ μ _ st (Rep.tup (bO bV (hr.nal hq)) (rs.mono st.vis))
theorem b4 {ts:XA} {k:Nat} (h:RA X WE es ts):RE X WE (.Tuple es k pos) (xN mkT ts):=
 ⟨(AO h.h).weak fun σ H Q ⟨μ,S,τ,hr,sr,p⟩=>⟨μ,S,τ,hr,sr,p.bind fun vs xs S1 μ1 H1 st1 r1 p1=>by
  unfold mkT at p1
  split at p1
  ·rename_i ds e
   split at p1
   ·have rs:=ft r1 e
    refine ⟨jV (by rw [rs.length];assumption),fun q hq=>p1.rO st1.hr rs q hq⟩
   ·exact p1.elim
  ·exact p1.elim⟩⟩
end
section
variable {X:Cx} {WE:WX} {a b c e:Expr} {xa xb xc xe:XE} {pos:Pos} {es:List Expr} {t u:XT} {K:PySem.W.Frag} {mg:Str→Option Value} {μ:Nat→Addr} {S:Sto} {H:Hp} {Q:VK} {vs:List V} {ds:List D}
theorem aJ.lK (hr:HR μ S H) (rs:av (vh μ S H) vs ds) (p:aJ (aM K mg) WE μ S H (.ok (.d (.lst ds)) S) Q) (q:Addr) (hq:H q=none):Q (.ref q) (upd H q (.lst vs)):=by
 have st:=Step.new hr hq (.lst vs)
 exact p _ μ _ st (Rep.lst (bO bV (hr.nal hq)) (rs.mono st.vis))
theorem aJ.vd (hr:HR μ S H) (rs:av (vh μ S H) vs ds) (p:aJ (aM K mg) WE μ S H (.ok (.r S.length) (S++[.lst ds])) Q) (q:Addr) (hq:H q=none):Q (.ref q) (upd H q (.lst vs)):=
 p _ _ _ (Step.alloc hr hq (ob:=.lst ds) ⟨vs,rfl,rs⟩) ⟨by rw [cy],by simp⟩
theorem jj {ts:XA} (h:RA X WE es ts):RE X WE (.List es pos) (xN mkL ts):=
 ⟨(rV h.h).weak fun σ H Q ⟨μ,S,τ,hr,sr,p⟩=>⟨μ,S,τ,hr,sr,p.bind fun vs xs S1 μ1 H1 st1 r1 p1=>by
  unfold mkL at p1
  split at p1
  ·rename_i ds e
   split at p1
   ·have rs:=ft r1 e
    refine ⟨jV (by rw [rs.length];assumption),fun q hq=>p1.lK st1.hr rs q hq⟩
   ·exact p1.elim
  ·exact p1.elim⟩⟩
theorem ju {ts:XA} (h:RA X WE es ts):RE X WE (.List es pos) (xN mkM ts):=
 ⟨(rV h.h).weak fun σ H Q ⟨μ,S,τ,hr,sr,p⟩=>⟨μ,S,τ,hr,sr,p.bind fun vs xs S1 μ1 H1 st1 r1 p1=>by
  unfold mkM at p1
  split at p1
  ·rename_i ds e
   split at p1
   ·have rs:=ft r1 e
    refine ⟨jV (by rw [rs.length];assumption),fun q hq=>p1.vd st1.hr rs q hq⟩
   ·exact p1.elim
  ·exact p1.elim⟩⟩
theorem mS (ha:RE X WE a xa):RE X WE a (xFz xa):=
 ⟨fun pins s σ H Q I ⟨μ,S,τ,hr,sr,p⟩=>by
  refine thn (ha.h pins s σ H (fun v H1=>∃ μ1 S1 x,HR μ1 S1 H1∧aM X.K X.mg μ1 S1 H1 v x∧aJ (aM X.K X.mg) WE μ1 S1 H1 (frz x S1) Q) I ⟨μ,S,τ,hr,sr,p.bind fun v x S1 μ1 H1 st1 r1 p1=>⟨μ1,S1,x,st1.hr,r1,p1⟩⟩) fun u s1 ⟨v,H1,I1,ru,μ1,S1,x,hr1,r1,p1⟩=>?_
  unfold frz at p1
  split at p1
  ·obtain ⟨rfl,hn⟩:=r1
   split at p1
   ·rename_i n xs e
    obtain ⟨vs,h,rs⟩:=hr1.ob _ _ e
    obtain ⟨st2,na⟩:=Step.freeze hr1 e (by simp)
    exact ⟨_,H1,I1,ru,p1 _ _ _ st2 (Rep.lst (bO h na) (rs.mono st2.vis))⟩
   ·rename_i n _ kvs e
    obtain ⟨vs,l,h,rs⟩:=hr1.ob _ _ e
    have ok:bz X.prog X.w H1 s1.heap (μ1 n) (.dK ((kvs.map (·.1)).zip vs)):=I1.hok _ _ h
    obtain ⟨z1,z2,ws,rel,o,es,ep,ho,r⟩:=ok
    obtain ⟨st2,na⟩:=Step.uJ hr1 (.frz o (.dK ((kvs.map (·.1)).zip vs))) e (by simp)
    exact ⟨_,_,I1.write (o:=.frz o (.dK ((kvs.map (·.1)).zip vs))) (h':=s1.heap) (x:=μ1 n) (e:=μ1 n) (t':=s1.toks) (by rw [h];exact True.intro) (.inl rfl) (fun b q _ hq=>hq) ⟨o,ho⟩ (show _∧_ from ⟨ho,z1,z2,ws,rel,o,es,ep,ho,r⟩),ru,p1 _ _ _ st2 ⟨_,vs,o,rfl,l,bO bV na,rs.mono st2.vis⟩⟩
   ·exact p1.elim
  ·exact ⟨_,H1,I1,ru,p1.here hr1 r1⟩⟩
theorem aB {x:Str} {p:Pos} {id:String} {r:List V→Hp→VK→Prop} {f:List Vl→Sto→R Vl} {ts:XA} [n:NS e] (hc:bI X (.builtin id) r) (hf:fc X.K X.mg r f) (hm:X.mg x=none) (hv:bootBuiltins x=some (.builtin id)) (ha:RA X WE (e :: es) ts) (hg:Gl X x:=by exact rfl) (hn:x≠"__name__":=by decide) (hdb:(x == ("__debug__":Str))=false:=by decide)
  (hpl:(backTo pos (starEach es X.env)).any (·.1)=false:=by rfl):RE X WE (.Call (.Name x p) (e :: es) [] pos) (xN f ts):=
 ⟨(vv hc hg hm hv ha.h hn hdb (n.eq es X.env) hpl).weak fun σ H Q ⟨μ,S,τ,hr,sr,p⟩=>⟨μ,S,τ,hr,sr,p.bind fun vs xs S1 μ1 H1 st1 r1 p1=>hf WE μ1 S1 H1 vs xs Q st1.hr r1 p1⟩⟩
theorem bG {x:Str} {p:Pos} {T:String} {r:List V→Hp→VK→Prop} {f:List Vl→Sto→R Vl} {ts:XA} [n:NS e] (hc:bI X (.type T) r) (hf:fc X.K X.mg r f) (hm:X.mg x=none) (hv:bootBuiltins x=some (.type T)) (ha:RA X WE (e :: es) ts) (hg:Gl X x:=by exact rfl) (hn:x≠"__name__":=by decide) (hdb:(x == ("__debug__":Str))=false:=by decide)
  (hpl:(backTo pos (starEach es X.env)).any (·.1)=false:=by rfl):RE X WE (.Call (.Name x p) (e :: es) [] pos) (xN f ts):=
 ⟨(tV hc hg hm hv ha.h hn hdb (n.eq es X.env) hpl).weak fun σ H Q ⟨μ,S,τ,hr,sr,p⟩=>⟨μ,S,τ,hr,sr,p.bind fun vs xs S1 μ1 H1 st1 r1 p1=>hf WE μ1 S1 H1 vs xs Q st1.hr r1 p1⟩⟩
def spM (K:PySem.W.Frag) (mg:Str→Option Value) (F:XF):Sp:=fun vs H Q _=>∃ μ S us,HR μ S H∧bu K mg μ S H vs us∧aJ (aM K mg) W0 μ S H (F us S) Q
def noX {α:Type} (r:R α):R α:=match r with
 | .ex _ _ _=>.bad
 | r=>r
def ay (F:XF) (as:XA):XE:=fun τ S=>(as τ S).bind fun us S1=>noX (F us S1)
theorem aJ.noX {α β:Type} {Rl:(Nat→Addr)→Sto→Hp→β→α→Prop} {res:R α} {Q:β→Hp→Prop} (h:aJ Rl WE μ S H (noX res) Q):aJ Rl W0 μ S H res Q:=by
 cases res with
 | ok a S'=>exact h
 | ex c xs S'=>exact h.elim
 | bad=>exact h.elim
end
section
variable {X:Cx} {WE:WX} {e:Expr} {es:List Expr} {pos p:Pos} {lev j:Nat} {ps:List Str} {F:XF} {x:Str} {ts:XA}
def OkE (P:Program) (w:World) (K:PySem.W.Frag) (mg:Str→Option Value) (lev:Nat) (x:Str) (ps:List Str) (M:XF):Prop:=∃ (f:Addr) (fd:FuncData),mg x=some (.ref f)∧PySem.W.keepIn K (.ref f)=true∧(∀ us:List Value,us.length=ps.length→bindArgs fd ⟨us,[]⟩=pure (ps.zip us))∧∀ base,eB P w K mg base CX0 lev f fd ps (spM K mg M)
theorem aq [n:NS e] (G:OkE X.prog X.w X.K X.mg lev x ps F) (hr:cE j X.A) (ha:RA X WE (e :: es) ts) (hj:lev≤j:=by decide) (hg:Gl X x:=by exact rfl)
  (hdb:(x == ("__debug__":Str))=false:=by decide) (hpl:(backTo pos (starEach es X.env)).any (·.1)=false:=by rfl):RE X WE (.Call (.Name x p) (e :: es) [] pos) (ay F ts):=by
 obtain ⟨f,fd,hm,hk,hb,G⟩:=G
 exact ⟨(xu (G X.base) (hr.mono hj) hg hm hk (.all hb) .nil CU ha.h hdb (n.eq es X.env) hpl).weak fun σ H Q ⟨μ,S,τ,hr,sr,p⟩=>⟨μ,S,τ,hr,sr,p.bind fun vs xs S1 μ1 H1 st1 r1 p1=>by
  rw [List.append_nil]
  exact ⟨μ1,S1,xs,st1.hr,r1,p1.noX⟩⟩⟩
end
def out (S:Sto) (z:Vl) (S':Sto):R Vl:=match z with
 | .r n=>if n < S.length then .ok (.r n) (S'.take S.length) else match S'[n]? with
  | some (.lst xs)=>.ok (.r S.length) (S'.take S.length++[.lst xs])
  | some (.dct kvs)=>.ok (.r S.length) (S'.take S.length++[.dct kvs])
  | _=>.bad
 | .pr x n=>if n < S.length then .ok (.pr x n) (S'.take S.length) else match S'[n]? with
  | some (.lst xs)=>.ok (.pr x S.length) (S'.take S.length++[.lst xs])
  | _=>.bad
 | z=>.ok z (S'.take S.length)
def leave (S:Sto) (r:R (Fl×Nv)):R Vl:=match r with
 | .ok q S'=>(match q.1 with
  | .nx=>out S (.d .non) S'
  | .rt z=>out S z S'
  | _=>.bad)
 | .ex c xs S'=>.ex c xs (S'.take S.length)
 | .bad=>.bad
def aN (k n:Nat) (b:XS):XF:=fun us S=>if us.length=k then leave S (b (us.map some++List.replicate (n - k) none) S) else .bad
section
variable {K:PySem.W.Frag} {mg:Str→Option Value} {μ μ':Nat→Addr} {S S':Sto} {H H':Hp} {Q:VK}
theorem eJ {k:Nat}:dr (vh μ S H) (vh μ (S.take k) H):=fun b u q=>by
 obtain ⟨z,q⟩:=aO q
 refine bO q ?_
 rintro ⟨m,u,e,d,rfl⟩
 exact z ⟨m,u,(cK e).2,d,rfl⟩
theorem yE {k n:Nat} {ob:Ob} (hk:k≤S.length) (e0:S[n]?=some ob) (d0:ob≠.dead):dr (vh μ S H) (vh (ext μ k (μ n)) (S.take k++[ob]) H):=fun b u q=>by
 obtain ⟨z,q⟩:=aO q
 refine bO q ?_
 rintro ⟨m,u,e,d,rfl⟩
 have lt:(S.take k).length=k:=by rw [List.length_take];omega
 by_cases hm:m < k
 ·rw [List.getElem?_append_left (by omega)] at e
  exact z ⟨m,u,(cK e).2,d,by rw [jm (Nat.ne_of_lt hm)]⟩
 ·have hm':m=k:=by
   have:=(List.getElem?_eq_some_iff.mp e).1
   simp only [List.length_append,lt,List.length_singleton] at this
   omega
  subst hm'
  exact z ⟨n,ob,e0,d0,by rw [cy]⟩
theorem sU {WE:WX} {v:V} {z:Vl} (st:Step μ S H μ' S' H') (r:aM K mg μ' S' H' v z) (p:aJ (aM K mg) WE μ S H (out S z S') Q):Q v H':=by
 have st':=st.take
 cases z with
 | d x=>exact p v μ' H' st' (Rep.mono eJ r)
 | fd kvs=>obtain ⟨a,vs,o,e,l,h,rs⟩:=r;exact p v μ' H' st' ⟨a,vs,o,e,l,eJ _ _ h,rs.mono eJ⟩
 | fn x=>exact p v μ' H' st' r
 | sc ns=>obtain ⟨l,e,h⟩:=r;exact p v μ' H' st' ⟨l,e,h.mono eJ⟩
 | pr x n=>
  obtain ⟨a,u,rfl,h,ru,hn⟩:=r
  unfold out at p
  try dsimp only at p
  split at p
  ·exact p _ μ' H' st' ⟨a,u,rfl,eJ _ _ h,Rep.mono eJ ru,by rw [List.length_take];omega⟩
  ·have lt:(S'.take S.length).length=S.length:=by rw [List.length_take];have:=st.le;omega
   split at p
   ·rename_i xs e
    have k:=yE (μ:=μ') (H:=H') (k:=S.length) st.le e (by simp)
    exact p _ _ H' (st.move (by omega) e (by simp)) ⟨a,u,rfl,by rw [cy];exact k _ _ h,Rep.mono k ru,by simp [lt]⟩
   ·exact p.elim
 | r n=>
  obtain ⟨rfl,hn⟩:=r
  unfold out at p
  try dsimp only at p
  split at p
  ·exact p _ μ' H' st' ⟨rfl,by rw [List.length_take];omega⟩
  ·have lt:(S'.take S.length).length=S.length:=by rw [List.length_take];have:=st.le;omega
   split at p
   ·rename_i xs e
    exact p _ _ H' (st.move (by omega) e (by simp)) ⟨by rw [cy],by simp [lt]⟩
   ·rename_i xs e
    exact p _ _ H' (st.move (by omega) e (by simp)) ⟨by rw [cy],by simp [lt]⟩
   ·exact p.elim
theorem Ep {P:Program} {w:World} {base:Heap} {x qual:Str} {st:Stmt} {f:Addr} {fd:FuncData} {N ps:List Str} {lev:Nat} {m:XS} (F:Fun K x qual st f fd) (Sc:gE N ps (bM st))
  (hb:∀ (cdv:Value) (A:Around) (outer:List Env) (s:Shared) (H:Hp) (E:XK),cE lev (A.deeper (envOfC qual (bM st) s.heap.objs.size f cdv))→RB (jg CX0 P w K mg base N qual (bM st) f cdv A outer s H E).nox W0 (dO st) m) :
  eB P w K mg base CX0 (lev+1) f fd ps (spM K mg (aN ps.length N.length m)):=by
 refine F.ok Sc (fun vs H Q E h=>?_) (fun cdv A outer s H vs Q E hr h=>?_)
 ·obtain ⟨μ,S,us,hr,rs,p⟩:=h
  unfold aN at p
  split at p
  ·rw [rs.length];assumption
  ·exact p.elim
 ·refine ⟨_,(hb cdv A outer s H E hr).h,?_⟩
  obtain ⟨μ,S,us,hr,rs,p⟩:=h
  unfold aN at p
  split at p
  ·rename_i hl
   have sr:bW K mg μ S H (start N vs) (us.map some++List.replicate (N.length - ps.length) none):=by
    rw [← hl];exact bW.beg rs
   refine ⟨μ,S,_,hr,sr,?_⟩
   generalize m (us.map some++List.replicate (N.length - ps.length) none) S=res at p
   cases res with
   | bad=>exact p.elim
   | ex c xs S'=>exact fun μ' H' st=>p μ' H' st.take
   | ok q S'=>
    obtain ⟨fl,τ'⟩:=q
    rintro ⟨fv,σ'⟩ μ' H' st ⟨sr',fr⟩
    cases fl with
    | nx=>
     cases fv with
     | nx=>exact sU (K:=K) (mg:=mg) (v:=.non) (z:=.d .non) st Rep.non p
     | _=>exact (show False from fr).elim
    | rt z=>
     cases fv with
     | rt v=>exact sU st fr p
     | _=>exact (show False from fr).elim
    | bk=>exact (show False from p).elim
    | ct=>exact (show False from p).elim
  ·exact p.elim
end
def aS:XS:=fun τ S=>.ok (.nx,τ) S
def az (a b:XS):XS:=fun τ S=>(a τ S).bind fun q S1=>match q.1 with
 | .nx=>b q.2 S1
 | _=>.ok q S1
def ed (e:XE):XS:=fun τ S=>(e τ S).bind fun _ S1=>.ok (.nx,τ) S1
def aE (e:XE):XS:=fun τ S=>(e τ S).bind fun z S1=>.ok (.rt z,τ) S1
def Dn:XS:=fun τ S=>.ok (.rt (.d .non),τ) S
def Bf:XS:=fun τ S=>.ok (.bk,τ) S
def CK:XS:=fun τ S=>.ok (.ct,τ) S
def xIf (c:XT) (a b:XS):XS:=fun τ S=>(c τ S).bind fun k S1=>if k=true then a τ S1 else b τ S1
def b5:XS:=fun _ _=>.bad
def aK (e:XE) (g:XG):XS:=fun τ S=>(e τ S).bind fun z S1=>(g z τ S1).bind fun τ1 S2=>.ok (.nx,τ1) S2
def gNm (i:Nat):XG:=fun z τ S=>.ok (τ.set i (some z)) S
def gTu (n:Nat) (g:XGs):XG:=fun z τ S=>match z with
 | .d (.tup xs)=>if xs.length=n then g (xs.map Vl.d) τ S else .bad
 | _=>.bad
def gN0:XGs:=fun zs τ S=>match zs with
 | []=>.ok τ S
 | _=>.bad
def gCo (g:XG) (gs:XGs):XGs:=fun zs τ S=>match zs with
 | z :: r=>(g z τ S).bind fun τ1 S1=>gs r τ1 S1
 | []=>.bad
def gSb (o i:XE) (f:Vl→Vl→Vl→Sto→R Unit):XG:=fun z τ S=>(o τ S).bind fun x S1=>(i τ S1).bind fun y S2=>(f x y z S2).bind fun _ S3=>.ok τ S3
def gok (gd:Option (Nat×Ob)) (S:Sto):Prop:=match gd with
 | none=>True
 | some (n,o)=>S[n]?=some o
open Classical in
noncomputable def cm (g:XG) (b:XS) (gd:Option (Nat×Ob)):List Vl→Nv→Sto→R (Fl×Nv)
 | [],τ,S=>.ok (.nx,τ) S
 | z :: zs,τ,S=>(g z τ S).bind fun τ1 S1=>(b τ1 S1).bind fun q S2=>match q.1 with
  | .bk=>.ok (.nx,q.2) S2
  | .rt v=>.ok (.rt v,q.2) S2
  | _=>if gok gd S2 then cm g b gd zs q.2 S2 else .bad
noncomputable def gu (it:XI) (g:XG) (b:XS):XS:=fun τ S=>(it τ S).bind fun I S1=>cm g b I.gd I.items τ S1
section
variable {X:Cx} {WE:WX} {e c tg iter:Expr} {xe:XE} {t:XT} {pos:Pos} {st:Stmt} {sts sts':List Stmt} {m m':XS} {g:XG} {gs:XGs} {it:XI}
theorem aP:RB X WE [] aS:=⟨ye.weak fun D σ H ⟨μ,S,τ,hr,sr,p⟩=>p.here (b:=(FlV.nx,σ)) hr ⟨sr,True.intro⟩⟩
theorem au (h:RS X WE st m):RB X WE [st] m:=⟨xW h.h⟩
theorem ao (h:RS X WE st m) (h':RB X WE sts m'):RB X WE (st :: sts) (az m m'):=
 ⟨(vm h.h h'.h).weak fun D σ H ⟨μ,S,τ,hr,sr,p⟩=>⟨μ,S,τ,hr,sr,p.bind fun b q S1 μ1 H1 st1 r1 p1=>by
  obtain ⟨fv,σ1⟩:=b
  obtain ⟨fl,τ1⟩:=q
  obtain ⟨sr1,fr⟩:=r1
  cases fl with
  | nx=>cases fv with
   | nx=>exact ⟨μ1,S1,τ1,st1.hr,sr1,p1⟩
   | _=>exact (show False from fr).elim
  | bk=>cases fv with
   | bk=>exact (show D.at (FlV.bk,σ1) H1 from aJ.here (b:=(FlV.bk,σ1)) st1.hr p1 ⟨sr1,True.intro⟩)
   | _=>exact (show False from fr).elim
  | ct=>cases fv with
   | ct=>exact (show D.at (FlV.ct,σ1) H1 from aJ.here (b:=(FlV.ct,σ1)) st1.hr p1 ⟨sr1,True.intro⟩)
   | _=>exact (show False from fr).elim
  | rt z=>cases fv with
   | rt v=>exact (show D.at (FlV.rt v,σ1) H1 from aJ.here (b:=(FlV.rt v,σ1)) st1.hr p1 ⟨sr1,fr⟩)
   | _=>exact (show False from fr).elim⟩⟩
theorem dP (he:RE X WE e xe) (hs:swapsWith e none pos.line X.env=pure false:=by rfl):RS X WE (.Expr e pos) (ed xe):=
 ⟨(xY he.h hs).weak fun D σ H ⟨μ,S,τ,hr,sr,p⟩=>⟨μ,S,τ,hr,sr,p.bind fun v x S1 μ1 H1 st1 r1 p1=>p1.here (b:=(FlV.nx,σ)) st1.hr ⟨sr.step st1,True.intro⟩⟩⟩
theorem aA (he:RE X WE e xe):RS X WE (.Return (some e) pos) (aE xe):=
 ⟨(AX he.h).weak fun D σ H ⟨μ,S,τ,hr,sr,p⟩=>⟨μ,S,τ,hr,sr,p.bind fun v x S1 μ1 H1 st1 r1 p1=>p1.here (b:=(FlV.rt v,σ)) st1.hr ⟨sr.step st1,r1⟩⟩⟩
theorem jR:RS X WE st b5:=⟨fun _ _ _ _ _ _ ⟨_,_,_,_,_,p⟩=>p.elim⟩
theorem bc (hc:RT X WE c t) (ha:RB X WE sts m) (hb:RB X WE sts' m'):RS X WE (.If c sts sts' pos) (xIf t m m'):=
 ⟨(De hc.h ha.h hb.h).weak fun D σ H ⟨μ,S,τ,hr,sr,p⟩=>⟨μ,S,τ,hr,sr,p.bind fun k k' S1 μ1 H1 st1 r1 p1=>by
  cases (show k=k' from r1)
  try dsimp only at p1
  split at p1
  ·rename_i hk;rw [if_pos hk];exact ⟨μ1,S1,τ,st1.hr,sr.step st1,p1⟩
  ·rename_i hk;rw [if_neg hk];exact ⟨μ1,S1,τ,st1.hr,sr.step st1,p1⟩⟩⟩
structure LQ (sc:Scope) (N:List Str):Prop where
 nd:N.Nodup
theorem aG {i:Nat} {x:Str} {sc:Scope} (q:LQ sc X.N) (hi:X.N[i]?=some x:=by exact rfl) (hx:Loc X.env.scope x:=by first | exact .inl rfl | exact .inr rfl) (hf:X.fn x=true∨X.env.scope.names.lookup x=some .local:=by first | exact .inl rfl | exact .inr rfl | assumption):RG X WE (.Name x pos) (gNm i):=
 ⟨(yA q.nd hi hx hf).weak fun v σ H Q ⟨μ,S,τ,z,hr,sr,r,p⟩=>p.here hr (sr.set i r)⟩
theorem gF:RGs X WE [] gN0:=⟨xE.weak fun vs σ H Q ⟨μ,S,τ,zs,hr,sr,r,p⟩=>by
 unfold gN0 at p
 split at p
 ·cases r;exact ⟨rfl,p.here hr sr⟩
 ·exact p.elim⟩
theorem cA {es:List Expr} (h:RG X WE e g) (h':RGs X WE es gs) (hs:(assignEach (e :: es) X.env).map (·.2)=assign e X.env :: (assignEach es X.env).map (·.2):=by rfl):RGs X WE (e :: es) (gCo g gs):=
 ⟨(uT h.h h'.h hs).weak fun vs σ H Q ⟨μ,S,τ,zs,hr,sr,r,p⟩=>by
  unfold gCo at p
  split at p
  ·cases r with
   | cons r1 rr=>exact ⟨_,_,rfl,μ,S,τ,_,hr,sr,r1,p.bind fun σ1 τ1 S1 μ1 H1 st1 sr1 p1=>⟨μ1,S1,τ1,_,st1.hr,sr1,rr.step st1,p1⟩⟩
  ·exact p.elim⟩
theorem jk {n:Nat} {es:List Expr} {k:Nat} (h:RGs X WE es gs) (hc:X.calm=true:=by exact rfl) (hn:(assignEach es X.env).length=n:=by rfl) (hst:(assignEach es X.env).findIdx? (·.1)=none:=by rfl):RG X WE (.Tuple es k pos) (gTu n gs):=
 ⟨(Be hc h.h hn hst).weak fun v σ H Q ⟨μ,S,τ,z,hr,sr,r,p⟩=>by
  unfold gTu at p
  split at p
  ·split at p
   ·rename_i xs hl
    cases (show Rep (vh μ S H) v (.tup xs) from r) with
    | tup h rs=>exact ⟨_,_,rfl,SqT.of (aO h).2,by rw [rs.length];exact hl,μ,S,τ,_,hr,sr,bu.pO rs,p⟩
   ·exact p.elim
  ·exact p.elim⟩
def tQ (K:PySem.W.Frag) (mg:Str→Option Value) (ts:nK) (f:Vl→Vl→Vl→Sto→R Unit):Prop:=∀ (WE:WX) (μ:Nat→Addr) (S:Sto) (H:Hp) (o i v:V) (x y z:Vl) (Q:Unit→Hp→Prop),HR μ S H→aM K mg μ S H o x→aM K mg μ S H i y→aM K mg μ S H v z→aJ (fun _ _ _ (_ _:Unit)=>True) WE μ S H (f x y z S) Q→ts o i v H (Q ())
theorem i7 {o i:Expr} {xo xi:XE} {ts:nK} {f:Vl→Vl→Vl→Sto→R Unit} (ho:RE X WE o xo) (hi:RE X WE i xi) (hs:qG X ts) (hf:tQ X.K X.mg ts f)
  (ha:∀ v,assign (.Subscript o i pos) X.env v=(do
   let ov ← holding [v] (eval o X.env)
   let iv ← holding [v,ov] (eval i X.env)
   standAt pos
   holding [v,ov,iv] (setItem ov iv v)
   release [v,ov,iv] []):=by intro _;rfl):RG X WE (.Subscript o i pos) (gSb xo xi f):=
 ⟨(BF ho.h hi.h hs ha).weak fun v σ H Q ⟨μ,S,τ,z,hr,sr,r,p⟩=>⟨μ,S,τ,hr,sr,p.bind fun ov x S1 μ1 H1 st1 r1 p1=>⟨μ1,S1,τ,st1.hr,sr.step st1,p1.bind fun iv y S2 μ2 H2 st2 r2 p2=>
  hf WE μ2 S2 H2 ov iv v x y z (fun _ H3=>Q σ H3) st2.hr (r1.step st2) r2 (r.step (st1.trans st2)) (p2.bind fun _ _ S3 μ3 H3 st3 _ p3=>p3.here st3.hr (sr.step (st1.trans (st2.trans st3))))⟩⟩⟩
theorem gK (he:RE X WE e xe) (hg:RG X WE tg g) (hs:swapsWithSole [tg] e pos.line X.env=pure false:=by rfl) (hw:swappedStores [tg] e X.env=pure none:=by rfl)
  (h1:(assignEach [tg] X.env).map (·.2)=[assign tg X.env]:=by rfl):RS X WE (.Assign [tg] e pos) (aK xe g):=
 ⟨(zx he.h hg.h hs hw h1).weak fun D σ H ⟨μ,S,τ,hr,sr,p⟩=>⟨μ,S,τ,hr,sr,p.bind fun v x S1 μ1 H1 st1 r1 p1=>⟨μ1,S1,τ,x,st1.hr,sr.step st1,r1,p1.bind fun σ2 τ2 S2 μ2 H2 st2 sr2 p2=>p2.here (b:=(FlV.nx,σ2)) st2.hr ⟨sr2,True.intro⟩⟩⟩⟩
theorem aL {i:Nat} {x:Str} {pos':Pos} {sc:Scope} (q:LQ sc X.N) (he:RE X WE e xe) (hi:X.N[i]?=some x:=by exact rfl) (hx:Loc X.env.scope x:=by first | exact .inl rfl | exact .inr rfl) (hs:swapsWith e (some (.Name x pos')) pos.line X.env=pure false:=by rfl) (hf:X.fn x=true∨X.env.scope.names.lookup x=some .local:=by first | exact .inl rfl | exact .inr rfl | assumption) :
  RS X WE (.Assign [.Name x pos'] e pos) (aK xe (gNm i)):=
 ⟨(BN q.nd hi hx he.h hs hf).weak fun D σ H ⟨μ,S,τ,hr,sr,p⟩=>⟨μ,S,τ,hr,sr,p.bind fun v x S1 μ1 H1 st1 r1 p1=>p1.here (b:=(FlV.nx,σ.set i (some v))) st1.hr ⟨(sr.step st1).set i r1,True.intro⟩⟩⟩
theorem BJ {I:Its} {S:Sto} (h:gok I.gd S):I.ok S:=h
open Classical in
theorem gL (hi:RI X WE tg iter it) (hg:RG X WE tg g) (hb:RB X WE sts m) (hp:PassesOwn (model X.prog X.w) X.A X.env X.xe:=by exact PassesOwn.never) (hc:X.calm=true:=by exact rfl) (hs:∀ x,foldedSetIterable iter X.env x=pure x:=by intro _;rfl):RS X WE (.For tg iter sts [] pos) (gu it g m):=
 ⟨(Bx hp hc hi.h hg.h hb.h hs).weak fun D σ H ⟨μ,S,τ,hr,sr,p⟩=>⟨μ,S,τ,hr,sr,p.bind fun J I S1 μ1 H1 st1 io p1=>by
  refine ⟨fun i k σ' H'=>∃ μ' S' τ',Step μ1 S1 H1 μ' S' H'∧bW X.K X.mg μ' S' H' σ' τ'∧I.ok S'∧k+i=I.items.length∧aJ (RlS X.K X.mg) WE μ' S' H' (cm g m I.gd (I.items.drop i) τ' S') D.at,
   ⟨I.items.length,μ1,S1,τ,Step.refl st1.hr,sr.step st1,io.ok,by simp,p1⟩,?_⟩
  rintro i k σ' H' ⟨μ',S',τ',st',sr',ok',hk,p'⟩
  by_cases hlt:i < I.items.length
  ·have hz:I.items[i]?=some I.items[i]:=List.getElem?_eq_getElem hlt
   rw [List.drop_eq_getElem_cons hlt,cm] at p'
   refine .inr ⟨io.go i _ μ' S' H' st' ok' hz,_,fun σ2 H2 n=>⟨I.items.length - (i+1),by omega,n⟩,fun x H2 y=>?_⟩
   obtain ⟨st2,rx⟩:=io.yld i _ μ' S' H' x H2 st' ok' hz y
   refine ⟨μ',S',τ',_,st2.hr,sr'.step st2,rx,(p'.shift st2).bind fun σ3 τ3 S3 μ3 H3 st3 sr3 p3=>⟨μ3,S3,τ3,st3.hr,sr3,p3.bind fun q qq S4 μ4 H4 st4 r4 p4=>?_⟩⟩
   obtain ⟨fv,σ4⟩:=q
   obtain ⟨fl,τ4⟩:=qq
   obtain ⟨sr4,fr⟩:=r4
   have go:∀ {b},aJ (RlS X.K X.mg) WE μ4 S4 H4 (if gok I.gd S4 then cm g m I.gd (I.items.drop (i+1)) τ4 S4 else .bad) D.at→b=σ4→∃ μ' S' τ',Step μ1 S1 H1 μ' S' H4∧bW X.K X.mg μ' S' H4 b τ'∧I.ok S'∧I.items.length - (i+1)+(i+1)=I.items.length∧aJ (RlS X.K X.mg) WE μ' S' H4 (cm g m I.gd (I.items.drop (i+1)) τ' S') D.at:=by
    rintro b p5 rfl
    split at p5
    ·exact ⟨μ4,S4,τ4,st'.trans (st2.trans (st3.trans st4)),sr4,BJ ‹_›,by omega,p5⟩
    ·exact p5.elim
   cases fl with
   | nx=>cases fv with
    | nx=>exact go p4 rfl
    | _=>exact (show False from fr).elim
   | ct=>cases fv with
    | ct=>exact go p4 rfl
    | _=>exact (show False from fr).elim
   | bk=>cases fv with
    | bk=>exact (show D.at (FlV.nx,σ4) H4 from aJ.here (b:=(FlV.nx,σ4)) st4.hr p4 ⟨sr4,True.intro⟩)
    | _=>exact (show False from fr).elim
   | rt z=>cases fv with
    | rt v=>exact (show D.at (FlV.rt v,σ4) H4 from aJ.here (b:=(FlV.rt v,σ4)) st4.hr p4 ⟨sr4,fr⟩)
    | _=>exact (show False from fr).elim
  ·rw [List.drop_eq_nil_of_le (by omega),cm] at p'
   exact .inl ⟨io.stop i μ' S' H' st' ok' (by omega),p'.here (b:=(FlV.nx,σ')) st'.hr ⟨sr',True.intro⟩⟩⟩⟩
end
open Classical in
noncomputable def eZ (g:XG) (t:XT) (e:XE) (n:Nat) (gd:Option (Nat×Ob)):List Vl→List D→Nv→Sto→R (List D)
 | [],acc,_,S=>if S[n]?=some (.lst acc) then .ok acc S else .bad
 | z :: zs,acc,τ,S=>(g z τ S).bind fun τ1 S1=>(t τ1 S1).bind fun b S2=>if b=true then (e τ1 S2).bind fun v S3=>(match v with
   | .d x=>if S3[n]?=some (.lst acc)∧gok gd (S3.set n (.lst (acc++[x]))) then eZ g t e n gd zs (acc++[x]) τ1 (S3.set n (.lst (acc++[x]))) else .bad
   | _=>.bad)
  else if gok gd S2 then eZ g t e n gd zs acc τ1 S2 else .bad
def kF (n:Nat) (acc:List D) (S:Sto):R Vl:=.ok (.d (.lst acc)) (if S.length=n+1 then S.take n else S.set n .dead)
noncomputable def oA (fin:Nat→List D→Sto→R Vl) (it:XI) (k:Nat) (g:XG) (t:XT) (e:XE):XE:=fun τ S=>(it τ S).bind fun I S1=>(eZ g t e S1.length I.gd I.items [] (List.replicate k none++τ) (S1++[.lst []])).bind fun acc S2=>fin S1.length acc S2
noncomputable abbrev xLC:XI→Nat→XG→XT→XE→XE:=oA kF
def kM (fin:Nat→List D→Sto→R Vl):Prop:=∀ (K:PySem.W.Frag) (mg:Str→Option Value) (WE:WX) (μ μ':Nat→Addr) (S S':Sto) (H H':Hp) (acc:List D) (D:Addr) (Q:VK),Step μ S H μ' S' H'→S'[S.length]?=some (.lst acc)→μ' S.length=D→aJ (aM K mg) WE μ S H (fin S.length acc S') Q→Q (.ref D) H'
theorem bL:kM kF:=by
 intro K mg WE μ μ' S S' H H' acc D Q st e hD p
 obtain ⟨vs,h,rs⟩:=st.hr.ob _ _ e
 have hn:S.length < S'.length:=(List.getElem?_eq_some_iff.mp e).1
 unfold kF at p
 by_cases hl:S'.length=S.length+1
 ·rw [if_pos hl] at p
  refine p _ _ _ st.take (Rep.lst (vs:=vs) (bO (by rw [← hD];exact h) ?_) (rs.mono eJ))
  rintro ⟨m,u,e2,d2,q⟩
  obtain ⟨hm,e3⟩:=cK e2
  have:=st.hr.inj m S.length u _ e3 e d2 (by simp) (by rw [q,hD])
  omega
 ·rw [if_neg hl] at p
  obtain ⟨st2,na⟩:=Step.freeze st.hr e (by simp)
  refine p _ _ _ (st.trans st2) (Rep.lst (vs:=vs) (bO (by rw [← hD];exact h) (by rw [← hD];exact na)) (rs.mono st2.vis))
section
variable {X:Cx} {WE:WX} {tg elt iter:Expr} {ifs:List Expr} {scope:Scope} {pos:Pos} {it:XI} {g:XG} {t:XT} {e:XE} {N:List Str} {k:Nat} {fin:Nat→List D→Sto→R Vl}
theorem xT:RTs X WE [] (fun _ S=>.ok true S):=⟨fun pins s σ H Q I ⟨μ,S,τ,hr,sr,p⟩=>yj pins s σ H Q I (p.here hr rfl)⟩
theorem ym {c:Expr} (h:RT X WE c t):RTs X WE [c] t:=⟨xQ h.h⟩
theorem aJ.rN {α β γ δ:Type} {Rl:(Nat→Addr)→Sto→Hp→β→α→Prop} {Rl2:(Nat→Addr)→Sto→Hp→δ→γ→Prop} {μ μ1:Nat→Addr} {S S1:Sto} {H H1:Hp} {res:R α} {Q:β→Hp→Prop} {Q2:δ→Hp→Prop} {f:α→Sto→R γ}
  (h:aJ Rl2 WE μ S H (res.bind f) Q2) (a:Step μ S H μ1 S1 H1) (kk:∀ b x S2 μ2 H2,Step μ1 S1 H1 μ2 S2 H2→Rl μ2 S2 H2 b x→aJ Rl2 WE μ S H (f x S2) Q2→Q b H2):aJ Rl WE μ1 S1 H1 res Q:=by
 cases res with
 | ok x S'=>exact fun b μ' H' st r=>kk b x S' μ' H' st r h
 | ex c xs S'=>exact fun μ' H' st=>h μ' H' (a.trans st)
 | bad=>exact h
open Classical in
theorem wW (hfin:kM fin) {σ:St} {H:Hp} {Q:VK} (h:trE X.K X.mg WE (oA fin it k g t e) σ H Q):tLC (trI X.K X.mg WE it) (trG X.K X.mg WE g) (trT X.K X.mg WE t) (trE X.K X.mg WE e) k σ H Q:=by
 obtain ⟨μ,S,τ,hr,sr,p⟩:=h
 refine ⟨μ,S,τ,hr,sr,p.bind fun J I S1 μ1 H1 st1 io p1=>fun D hD=>?_⟩
 have st0:Step μ1 S1 H1 (ext μ1 S1.length D) (S1++[.lst []]) (upd H1 D (.lst [])):=Step.alloc st1.hr hD (ob:=.lst []) ⟨[],rfl,.nil⟩
 have hlen:(S1++[Ob.lst []]).length=S1.length+1:=by simp
 refine ⟨fun i j σ' H'=>∃ μ' S' τ' acc,Step (ext μ1 S1.length D) (S1++[.lst []]) (upd H1 D (.lst [])) μ' S' H'∧bW X.K X.mg μ' S' H' σ' τ'∧I.ok S'∧j+i=I.items.length∧acc.length≤i ∧
   aJ (aM X.K X.mg) WE μ1 S1 H1 ((eZ g t e S1.length I.gd (I.items.drop i) acc τ' S').bind fun acc S2=>fin S1.length acc S2) Q,
  ⟨I.items.length,_,_,_,[],Step.refl st0.hr,((sr.step st1).step st0).pre k,?_,by simp,Nat.le_refl _,p1⟩,?_⟩
 ·have ok:=io.ok
  unfold Its.ok at ok ⊢
  split
  ·trivial
  ·rename_i n o hg
   rw [hg] at ok
   have hn:n < S1.length:=(List.getElem?_eq_some_iff.mp ok).1
   rw [List.getElem?_append_left hn];exact ok
 rintro i j σ' H' ⟨μ',S',τ',acc,st',sr',ok',hj,hacc,p'⟩
 have stA:=st0.trans st'
 have hn:S1.length < S'.length:=by have:=st'.le;omega
 have hμ:μ' S1.length=D:=by rw [st'.ag S1.length (by omega),cy]
 by_cases hlt:i < I.items.length
 ·have hz:I.items[i]?=some I.items[i]:=List.getElem?_eq_getElem hlt
  rw [List.drop_eq_getElem_cons hlt,eZ] at p'
  refine .inr ⟨io.go i _ μ' S' H' stA ok' hz,_,fun σ2 H2 n=>⟨I.items.length - (i+1),by omega,n⟩,fun x H2 y=>?_⟩
  obtain ⟨st2,rx⟩:=io.yld i _ μ' S' H' x H2 stA ok' hz y
  have bb:∀ {α β γ:Type} (r:R α) (f:α→Sto→R β) (f':β→Sto→R γ),(r.bind f).bind f'=r.bind fun a S=>(f a S).bind f':=fun r f f'=>by cases r<;>rfl
  simp only [bb] at p'
  refine ⟨μ',S',τ',_,st2.hr,sr'.step st2,rx,p'.rN (stA.trans st2) fun σ3 τ3 S3 μ3 H3 st3 sr3 p3=>?_⟩
  refine ⟨μ3,S3,τ3,st3.hr,sr3,p3.rN (stA.trans (st2.trans st3)) fun b b' S4 μ4 H4 st4 r4 p4=>?_⟩
  cases (show b=b' from r4)
  have st24:=st2.trans (st3.trans st4)
  by_cases hb:b=true
  ·rw [if_pos hb] at p4 ⊢
   rw [bb] at p4
   refine ⟨μ4,S4,τ3,st4.hr,sr3.step st4,p4.rN (stA.trans st24) fun v z S5 μ5 H5 st5 r5 p5=>?_⟩
   have st25:=st24.trans st5
   cases z with
   | d x=>
    try dsimp only at p5
    by_cases hif:S5[S1.length]?=some (.lst acc)∧gok I.gd (S5.set S1.length (.lst (acc++[x])))
    ·rw [if_pos hif] at p5
     obtain ⟨vs,h5,rs⟩:=st5.hr.ob _ _ hif.1
     have hμ5:μ5 S1.length=D:=by rw [st25.ag S1.length (by omega)];exact hμ
     rw [hμ5] at h5
     have sp:Step μ5 S5 H5 μ5 (S5.set S1.length (.lst (acc++[x]))) (upd H5 (μ5 S1.length) (.lst (vs++[v]))):=Step.put st5.hr hif.1 (by simp) (ob:=.lst (acc++[x])) ⟨_,rfl,rs.append (.cons r5 .nil)⟩
     rw [hμ5] at sp
     have lz:=io.len
     have lv:=rs.length
     refine ⟨vs,h5,by omega,μ5,_,τ3,acc++[x],st'.trans (st25.trans sp),(sr3.step (st4.trans st5)).step sp,hif.2,by omega,by simp;omega,p5⟩
    ·rw [if_neg hif] at p5
     exact p5.elim
   | _=>exact p5.elim
  ·rw [if_neg hb] at p4 ⊢
   by_cases hif:gok I.gd S4
   ·rw [if_pos hif] at p4
    exact ⟨μ4,S4,τ3,acc,st'.trans st24,sr3.step st4,hif,by omega,by omega,p4⟩
   ·rw [if_neg hif] at p4
    exact p4.elim
 ·rw [List.drop_eq_nil_of_le (by omega),eZ] at p'
  refine .inl ⟨io.stop i μ' S' H' stA ok' (by omega),?_⟩
  by_cases hif:S'[S1.length]?=some (.lst acc)
  ·rw [if_pos hif] at p'
   exact hfin X.K X.mg WE μ1 μ' S1 S' H1 H' acc D Q stA hif hμ p'
  ·rw [if_neg hif] at p'
   exact p'.elim
theorem rt0:∀ C s H fp,RTs (bA X scope N C s H fp) WE [] (fun _ S=>.ok true S):=fun _ _ _ _=>xT
theorem b_ {esc:Scope} {EN:List Str} (hfin:kM fin) (N:List Str) (q:LQ esc EN) (hi:RI X WE tg iter it) (hg:∀ C s H fp,LQ scope N→RG (bA X scope N C s H fp) WE tg g) (ht:∀ C s H fp,RTs (bA X scope N C s H fp) WE ifs t) (he:∀ C s H fp,RE (bA X scope N C s H fp) WE elt e) (hd:N.Nodup:=by decide +kernel)
  (Sc:dc esc scope EN N k:=by exact ⟨rfl,by decide +kernel,by decide +kernel,by decide +kernel,by decide +kernel,by decide +kernel⟩) (h1:X.env.scope=esc:=by exact rfl) (h2:X.N=EN:=by exact rfl) (hc:X.calm=true:=by exact rfl) (hs:∀ x,foldedSetIterable iter X.env x=pure x:=by intro _;rfl):RE X WE (.ListComp elt [⟨tg,iter,ifs,0⟩] scope pos) (oA fin it k g t e):=
 ⟨(Cz hc Sc h1 h2 hi.h (fun C s H fp=>(hg C s H fp ⟨hd⟩).h) (fun C s H fp=>(ht C s H fp).h) (fun C s H fp=>(he C s H fp).h) hs).weak fun σ H Q h=>wW (X:=X) hfin h⟩
theorem wN {esc:Scope} {EN:List Str} {i:Nat} {y:Str} {py spos:Pos} (hfin:kM fin) (N:List Str) (q:LQ esc EN) (hi:RI X WE tg iter it) (hg:∀ C s H fp,LQ scope N→RG (bA X scope N C s H fp) WE tg g) (ht:∀ C s H fp,RTs (bA X scope N C s H fp) WE ifs t) (he:∀ C s H fp,RE (bA X scope N C s H fp) WE elt e)
  (hi':X.N[i]?=some y:=by exact rfl) (hy:Loc X.env.scope y:=by first | exact .inl rfl | exact .inr rfl) (hd:N.Nodup:=by decide +kernel)
  (Sc:dc esc scope EN N k:=by exact ⟨rfl,by decide +kernel,by decide +kernel,by decide +kernel,by decide +kernel,by decide +kernel⟩) (h1:X.env.scope=esc:=by exact rfl) (h2:X.N=EN:=by exact rfl) (hc:X.calm=true:=by exact rfl)
  (hsw:swapsWith (.ListComp elt [⟨tg,iter,ifs,0⟩] scope pos) (some (.Name y py)) spos.line X.env=pure true:=by rfl)
  (hs:∀ x,foldedSetIterable iter X.env x=pure x:=by intro _;rfl) (hf:X.fn y=true∨X.env.scope.names.lookup y=some .local:=by first | exact .inl rfl | exact .inr rfl | assumption) :
  RS X WE (.Assign [.Name y py] (.ListComp elt [⟨tg,iter,ifs,0⟩] scope pos) spos) (aK (oA fin it k g t e) (gNm i)):=
 ⟨(CZ (h2 ▸ q.nd) hi' hy hc Sc h1 h2 hi.h (fun C s H fp=>(hg C s H fp ⟨hd⟩).h) (fun C s H fp=>(ht C s H fp).h) (fun C s H fp=>(he C s H fp).h) hsw hs hf).weak fun D0 σ H ⟨μ,S,τ,hr,sr,p⟩=>by
  refine wW (X:=X) (WE:=WE) (g:=g) (t:=t) (e:=e) hfin ⟨μ,S,τ,hr,sr,?_⟩
  exact p.bind fun v x S1 μ1 H1 st1 r1 p1=>p1.here (b:=(FlV.nx,σ.set i (some v))) st1.hr ⟨(sr.step st1).set i r1,True.intro⟩⟩
end
def cB (x:Vl) (S:Sto):Option (List D):=match x with
 | .d (.lst xs)=>some xs
 | .r n=>(match S[n]? with
  | some (.lst xs)=>some xs
  | _=>none)
 | _=>none
def bJ (x:Vl) (S:Sto):Option (List D):=match x with
 | .d (.tup xs)=>some xs
 | x=>cB x S
section
variable {K:PySem.W.Frag} {mg:Str→Option Value} {μ:Nat→Addr} {S:Sto} {H:Hp} {v:V} {x:Vl} {ds:List D} {WE:WX} {Q:VK}
theorem et (hr:HR μ S H) (r:aM K mg μ S H v x) (e:cB x S=some ds):∃ a vs,v=.ref a∧H a=some (.lst vs)∧av (vh μ S H) vs ds:=by
 unfold cB at e
 split at e
 ·cases e
  cases (show Rep (vh μ S H) v (.lst _) from r) with
  | lst h rs=>exact ⟨_,_,rfl,(aO h).2,rs⟩
 ·split at e
  ·rename_i q
   cases e
   obtain ⟨rfl,hn⟩:=r
   obtain ⟨vs,h,rs⟩:=hr.ob _ _ q
   exact ⟨_,vs,rfl,h,rs⟩
  ·cases e
 ·cases e
theorem fF (hr:HR μ S H) (r:aM K mg μ S H v x) (e:bJ x S=some ds):∃ a vs,v=.ref a∧(H a=some (.lst vs)∨H a=some (.tup vs))∧av (vh μ S H) vs ds:=by
 unfold bJ at e
 split at e
 ·cases e
  cases (show Rep (vh μ S H) v (.tup _) from r) with
  | tup h rs=>exact ⟨_,_,rfl,.inr (aO h).2,rs⟩
 ·obtain ⟨a,vs,e1,e2,e3⟩:=et hr r e
  exact ⟨a,vs,e1,.inl e2,e3⟩
theorem jw {a:Addr} {vs:List V} (h:H a=some (.lst vs)∨H a=some (.tup vs)):fP H a=some vs:=h.elim BM zi
theorem aY {i:Int} (r:aM K mg μ S H v (.d (.int i))):v=.int i:=by cases (show Rep (vh μ S H) v (.int i) from r);rfl
theorem kO {i:Bool} (r:aM K mg μ S H v (.d (.bl i))):v=.bl i:=by cases (show Rep (vh μ S H) v (.bl i) from r);rfl
theorem eS {i:Str} (r:aM K mg μ S H v (.d (.str i))):v=.str i:=by cases (show Rep (vh μ S H) v (.str i) from r);rfl
theorem da (r:aM K mg μ S H v (.d .non)):v=.non:=by cases (show Rep (vh μ S H) v .non from r);rfl
theorem eV (r:aM K mg μ S H v (.d (.tup ds))):∃ a vs,v=.ref a∧H a=some (.tup vs)∧vh μ S H a=some (.tup vs)∧av (vh μ S H) vs ds:=by
 cases (show Rep (vh μ S H) v (.tup _) from r) with
 | tup h rs=>exact ⟨_,_,rfl,(aO h).2,h,rs⟩
end
def oI (C:Int→Int→Prop) [∀ i j,Decidable (C i j)] (f:Int→Int→D) (x y:Vl) (S:Sto):R Vl:=match x,y with
 | .d (.int i),.d (.int j)=>if C i j then .ok (.d (f i j)) S else .bad
 | _,_=>.bad
def oI0 (f:Int→Int→D) (x y:Vl) (S:Sto):R Vl:=match x,y with
 | .d (.int i),.d (.int j)=>.ok (.d (f i j)) S
 | _,_=>.bad
section
variable {K:PySem.W.Frag} {mg:Str→Option Value}
theorem bQ {C:Int→Int→Prop} [∀ i j,Decidable (C i j)] (f:Int→Int→Int):cF K mg (rI C fun i j=>V.int (f i j)) (oI C fun i j=>D.int (f i j)):=by
 intro WE μ S H v w x y Q hr rx ry p
 unfold oI at p
 split at p
 ·split at p
  ·exact ⟨_,_,aY rx,aY ry,‹_›,p.here hr (Rep.int _)⟩
  ·exact p.elim
 ·exact p.elim
theorem eo (f:Int→Int→Int):cF K mg (rI0 fun i j=>V.int (f i j)) (oI0 fun i j=>D.int (f i j)):=by
 intro WE μ S H v w x y Q hr rx ry p
 unfold oI0 at p
 split at p
 ·exact ⟨_,_,aY rx,aY ry,p.here hr (Rep.int _)⟩
 ·exact p.elim
theorem bN (f:Int→Int→Bool):cF K mg (rI0 fun i j=>V.bl (f i j)) (oI0 fun i j=>D.bl (f i j)):=by
 intro WE μ S H v w x y Q hr rx ry p
 unfold oI0 at p
 split at p
 ·exact ⟨_,_,aY rx,aY ry,p.here hr (Rep.bl _)⟩
 ·exact p.elim
end
instance (i j:Int):Decidable (gR i j):=by unfold gR;infer_instance
instance (i j:Int):Decidable (lG i j):=by unfold lG;infer_instance
instance (i j:Int):Decidable (lF i j):=by unfold lF;infer_instance
abbrev fb:=oI0 fun i j=>D.int (i - j)
abbrev fR:=oI gR fun i j=>D.int (i * j)
abbrev oMod:=oI (fun _ j=>0 < j) fun i j=>D.int (i % j)
abbrev oDiv:=oI lG fun i j=>D.int (i / j)
abbrev rH:=oI lF fun i j=>D.int (i ^ j.toNat)
abbrev oLt:=oI0 fun i j=>D.bl (decide (i < j))
abbrev oLe:=oI0 fun i j=>D.bl (decide (i≤j))
abbrev oGt:=oI0 fun i j=>D.bl (decide (j < i))
abbrev oGe:=oI0 fun i j=>D.bl (decide (j≤i))
def nh (x:Vl) (S:Sto):R Vl:=match x with
 | .d (.int i)=>.ok (.d (.int (-i))) S
 | _=>.bad
def bh (x y:Vl) (S:Sto):R Vl:=match x,y with
 | .d (.int i),.d (.int j)=>.ok (.d (.int (i+j))) S
 | .d (.tup a),.d (.tup b)=>if a.length+b.length≤100000 then .ok (.d (.tup (a++b))) S else .bad
 | .d (.str a),.d (.str b)=>if a.length+b.length≤100000 then .ok (.d (.str (a++b))) S else .bad
 | x,y=>(match cB x S,cB y S with
  | some a,some b=>if a.length+b.length≤100000 then .ok (.d (.lst (a++b))) S else .bad
  | _,_=>.bad)
def eqD (x y:Vl) (S:Sto):Option Bool:=match x,y with
 | .d .non,.d .non=>some true
 | .d .non,.d (.int _)=>some false
 | .d .non,.d (.str _)=>some false
 | .d (.int _),.d .non=>some false
 | .d (.str _),.d .non=>some false
 | .d (.int i),.d (.int j)=>some (decide (i=j))
 | .d (.bl i),.d (.bl j)=>some (decide (i=j))
 | .d (.str i),.d (.str j)=>some (decide (i=j))
 | .d (.int _),.d (.str _)=>some false
 | .d (.str _),.d (.int _)=>some false
 | .d (.tup a),.d (.tup b)=>if D.depth (.tup a)≤50 then some (D.cW a b) else none
 | x,y=>(match cB x S,cB y S with
  | some a,some b=>if D.depth (.lst a)≤50 then some (D.cW a b) else none
  | _,_=>none)
def oEq (x y:Vl) (S:Sto):R Vl:=match eqD x y S with
 | some b=>.ok (.d (.bl b)) S
 | none=>.bad
def oNe (x y:Vl) (S:Sto):R Vl:=match eqD x y S with
 | some b=>.ok (.d (.bl (!b))) S
 | none=>.bad
def oIs (x y:Vl) (S:Sto):R Vl:=match x,y with
 | .d (.bl a),.d (.bl b)=>.ok (.d (.bl (a == b))) S
 | .d .non,.d .non=>.ok (.d (.bl true)) S
 | .fn _,_=>.bad
 | .sc _,_=>.bad
 | _,.d .non=>.ok (.d (.bl false)) S
 | _,_=>.bad
def mM (x y:Vl) (S:Sto):R Vl:=match x,y with
 | .d (.bl a),.d (.bl b)=>.ok (.d (.bl (a != b))) S
 | .d .non,.d .non=>.ok (.d (.bl false)) S
 | .fn _,_=>.bad
 | .sc _,_=>.bad
 | _,.d .non=>.ok (.d (.bl true)) S
 | _,_=>.bad
section
variable {K:PySem.W.Frag} {mg:Str→Option Value}
theorem pZ:zA K mg (rU fun i=>.int (-i)) nh:=by
 intro WE μ S H v x Q hr rx p
 unfold nh at p
 split at p
 ·exact ⟨_,aY rx,p.here hr (Rep.int _)⟩
 ·exact p.elim
def wH:R2:=fun x y H Q=>wj x y H Q∨∃ i j,x=.str i∧y=.str j∧i.length+j.length≤sizeLine∧Q (.str (i++j)) H
theorem aT {X:Cx}:OpR X (binaryOp .Add) wH:=xZ.or qe
theorem aU:cF K mg wH bh:=by
 intro WE μ S H v w x y Q hr rx ry p
 unfold bh at p
 split at p
 ·exact .inl (.inl ⟨_,_,aY rx,aY ry,p.here hr (Rep.int _)⟩)
 ·split at p
  ·rename_i a b hl
   obtain ⟨p1,us,rfl,h1,g1,r1⟩:=eV rx
   obtain ⟨p2,ws,rfl,h2,g2,r2⟩:=eV ry
   have l1:=r1.length
   have l2:=r2.length
   refine .inl (.inr ⟨p1,p2,rfl,rfl,.inl ⟨us,ws,h1,h2,jV (by omega),fun e=>?_,fun _ e=>?_,fun _ _ q hq=>p.rO hr (r1.append r2) q hq⟩⟩)
   ·subst e
    have:a=[]:=List.eq_nil_of_length_eq_zero l1.symm
    subst this
    exact p.here hr (Rep.tup g2 r2)
   ·subst e
    have:b=[]:=List.eq_nil_of_length_eq_zero l2.symm
    subst this
    rw [List.append_nil] at p
    exact p.here hr (Rep.tup g1 r1)
  ·exact p.elim
 ·split at p
  ·exact .inr ⟨_,_,eS rx,eS ry,jV ‹_›,p.here hr (Rep.str _)⟩
  ·exact p.elim
 ·split at p
  ·rename_i a b e1 e2
   split at p
   ·obtain ⟨p1,us,rfl,h1,r1⟩:=et hr rx e1
    obtain ⟨p2,ws,rfl,h2,r2⟩:=et hr ry e2
    have l1:=r1.length
    have l2:=r2.length
    exact .inl (.inr ⟨p1,p2,rfl,rfl,.inr ⟨us,ws,h1,h2,jV (by omega),fun q hq=>p.lK hr (r1.append r2) q hq⟩⟩)
   ·exact p.elim
  ·exact p.elim
theorem wc {μ:Nat→Addr} {S:Sto} {H:Hp} {v w:V} {x y:Vl} {b:Bool} (hr:HR μ S H) (rx:aM K mg μ S H v x) (ry:aM K mg μ S H w y) (e:eqD x y S=some b) :
  (vD v w=true∧decide (v=w)=b)∨∃ d e,Rep H v d∧Rep H w e∧D.depth d≤50∧((∃ ds es,d=.tup ds∧e=.tup es)∨∃ ds es,d=.lst ds∧e=.lst es)∧D.eqv d e=b:=by
 unfold eqD at e
 split at e
 ·cases e;rw [da rx,da ry];exact .inl ⟨rfl,by decide⟩
 ·cases e;rw [da rx,aY ry];exact .inl ⟨rfl,by simp⟩
 ·cases e;rw [da rx,eS ry];exact .inl ⟨rfl,by simp⟩
 ·cases e;rw [aY rx,da ry];exact .inl ⟨rfl,by simp⟩
 ·cases e;rw [eS rx,da ry];exact .inl ⟨rfl,by simp⟩
 ·cases e;rw [aY rx,aY ry];exact .inl ⟨rfl,by simp only [V.int.injEq]⟩
 ·cases e;rw [kO rx,kO ry];exact .inl ⟨rfl,by simp only [V.bl.injEq]⟩
 ·cases e;rw [eS rx,eS ry];exact .inl ⟨rfl,by simp only [V.str.injEq]⟩
 ·cases e;rw [aY rx,eS ry];exact .inl ⟨rfl,by simp⟩
 ·cases e;rw [eS rx,aY ry];exact .inl ⟨rfl,by simp⟩
 ·split at e
  ·cases e
   refine .inr ⟨_,_,Rep.mono fB rx,Rep.mono fB ry,‹_›,.inl ⟨_,_,rfl,rfl⟩,?_⟩
   simp only [D.eqv]
  ·cases e
 ·split at e
  ·rename_i a b e1 e2
   split at e
   ·cases e
    obtain ⟨p1,us,rfl,h1,r1⟩:=et hr rx e1
    obtain ⟨p2,ws,rfl,h2,r2⟩:=et hr ry e2
    refine .inr ⟨.lst a,.lst b,.lst h1 (r1.mono fB),.lst h2 (r2.mono fB),‹_›,.inr ⟨_,_,rfl,rfl⟩,?_⟩
    simp only [D.eqv]
   ·cases e
  ·cases e
theorem bt:cF K mg AI oEq:=by
 intro WE μ S H v w x y Q hr rx ry p
 unfold oEq at p
 split at p
 ·rename_i b e
  have q:=p.here hr (Rep.bl b)
  rcases wc hr rx ry e with ⟨h1,h2⟩ | ⟨d,d',h1,h2,h3,h4,h5⟩
  ·exact .inl ⟨h1,by rw [h2];exact q⟩
  ·exact .inr ⟨d,d',h1,h2,h3,h4,by rw [h5];exact q⟩
 ·exact p.elim
theorem sI:cF K mg A6 oNe:=by
 intro WE μ S H v w x y Q hr rx ry p
 unfold oNe at p
 split at p
 ·rename_i b e
  have q:=p.here hr (Rep.bl (!b))
  rcases wc hr rx ry e with ⟨h1,h2⟩ | ⟨d,d',h1,h2,h3,h4,h5⟩
  ·exact .inl ⟨h1,by rw [h2];exact q⟩
  ·exact .inr ⟨d,d',h1,h2,h3,h4,by rw [h5];exact q⟩
 ·exact p.elim
theorem xw {μ:Nat→Addr} {S:Sto} {H:Hp} {v:V} {x:Vl} (r:aM K mg μ S H v x) (h1:x≠.d .non):v≠.non:=by
 rintro rfl
 cases x with
 | d x=>cases (show Rep (vh μ S H) .non x from r);exact h1 rfl
 | r n=>obtain ⟨e,_⟩:=r;cases e
 | fd kvs=>obtain ⟨_,_,_,e,_⟩:=r;cases e
 | pr x n=>obtain ⟨_,_,e,_⟩:=r;cases e
 | fn x=>obtain ⟨_,_,e⟩:=r;cases e
 | sc ns=>obtain ⟨_,e,_⟩:=r;cases e
theorem oy:cF K mg BA oIs:=by
 intro WE μ S H v w x y Q hr rx ry p
 unfold oIs at p
 split at p
 ·rw [kO rx,kO ry];exact .inl ⟨_,_,rfl,rfl,p.here hr (Rep.bl _)⟩
 ·rw [da rx,da ry];exact .inr ⟨rfl,by rw [decide_eq_true rfl];exact p.here hr (Rep.bl _)⟩
 ·exact p.elim
 ·exact p.elim
 ·rename_i h _ _
  rw [da ry]
  exact .inr ⟨rfl,by rw [decide_eq_false (xw rx h)];exact p.here hr (Rep.bl _)⟩
 ·exact p.elim
end
def D.flat:D→Bool
 | .tup _=>false
 | .lst _=>false
 | _=>true
def inD (x:D) (ds:List D):Bool:=ds.any fun e=>D.eqv e x
def inX (x y:Vl) (S:Sto):Option Bool:=match x with
 | .d x=>(match bJ y S with
  | some ds=>if (D.flat x && ds.all D.flat)=true then some (inD x ds) else (match cB y S with
   | some ds=>if D.ck ds≤50 then some (inD x ds) else none
   | none=>none)
  | none=>none)
 | _=>none
def oIn (x y:Vl) (S:Sto):R Vl:=match inX x y S with
 | some b=>.ok (.d (.bl b)) S
 | none=>.bad
def eK (x y:Vl) (S:Sto):R Vl:=match inX x y S with
 | some b=>.ok (.d (.bl (!b))) S
 | none=>.bad
def oIx (x y:Vl) (S:Sto):R Vl:=match y with
 | .d (.int i)=>(match bJ x S with
  | some ds=>(match atI ds i with
   | some z=>.ok (.d z) S
   | none=>.bad)
  | none=>.bad)
 | _=>.bad
def dh (xs:List D) (lo hi:Option Int):List D:=(xs.drop (HT.sIx xs.length 0 lo)).take (HT.sIx xs.length xs.length hi - HT.sIx xs.length 0 lo)
def oSl (x:Vl) (lo hi:Option Int) (S:Sto):R Vl:=match x with
 | .d (.tup xs)=>.ok (.d (.tup (dh xs lo hi))) S
 | x=>(match cB x S with
  | some xs=>.ok (.d (.lst (dh xs lo hi))) S
  | none=>.bad)
def Eb (x y:Vl) (S:Sto):R Vl:=match x,y with
 | .d (.tup xs),.d (.int i)=>if i=-1 then .ok (.d (.tup xs.reverse)) S else .bad
 | _,_=>.bad
section
variable {K:PySem.W.Frag} {mg:Str→Option Value}
theorem n5 {H:Hp} {v:V} {d:D} (r:Rep H v d) (h:D.flat d=true):dE v=true:=by cases r<;>first | rfl | cases h
theorem ze {H:Hp} {v w:V} {d e:D} (r:Rep H v d) (q:Rep H w e) (h:D.flat d=true) (h':D.flat e=true):eqV v w=D.eqv d e:=by
  cases r<;>cases q<;>first | rfl | cases h | cases h' | simp [eqV,D.eqv]
theorem lZ {H:Hp}:∀ {vs:List V} {ds:List D},av H vs ds→ds.all D.flat=true→vs.all dE=true
 | _,_,.nil,_=>rfl
 | _,_,.cons r t,h=>by
  rw [List.all_cons,Bool.and_eq_true] at h ⊢
  exact ⟨n5 r h.1,lZ t h.2⟩
theorem ue {H:Hp} {v:V} {d:D} (r:Rep H v d) (h:D.flat d=true):∀ {vs:List V} {ds:List D},av H vs ds→ds.all D.flat=true→inV v vs=inD d ds
 | _,_,.nil,_=>rfl
 | _,_,.cons q t,h'=>by
  rw [List.all_cons,Bool.and_eq_true] at h'
  have ih:=ue r h t h'.2
  unfold inV inD at ih ⊢
  rw [List.any_cons,List.any_cons,ze q r h'.1 h,ih]
def nB (neg:Bool):R2:=fun x y H Q=>v7 neg x y H Q∨vy neg x y H Q
theorem in_of {μ:Nat→Addr} {S:Sto} {H:Hp} {v w:V} {x y:Vl} {b neg:Bool} {Q:VK} (hr:HR μ S H) (rx:aM K mg μ S H v x) (ry:aM K mg μ S H w y) (e:inX x y S=some b) (q:Q (.bl (if neg then !b else b)) H):nB neg v w H Q:=by
 unfold inX at e
 split at e
 ·rename_i x
  split at e
  ·rename_i ds e1
   obtain ⟨a,vs,rfl,ha,rs⟩:=fF hr ry e1
   split at e
   ·rename_i hf
    rw [Bool.and_eq_true] at hf
    cases e
    refine .inl ⟨a,vs,rfl,jw ha,n5 rx hf.1,lZ rs hf.2,?_⟩
    rw [ue rx hf.1 rs hf.2]
    exact q
   ·split at e
    ·rename_i ds e2
     split at e
     ·cases e
      obtain ⟨a',vs',e3,ha',rs'⟩:=et hr ry e2
      cases e3
      exact .inr ⟨_,vs',x,_,rfl,ha',rs'.mono fB,Rep.mono fB rx,‹_›,q⟩
     ·cases e
    ·cases e
  ·cases e
 ·cases e
theorem sZ {X:Cx} (hu:X.A.units+64 < cLine):OpR X (compareOp .In) (nB false):=A9.or (Ak hu)
theorem lh {X:Cx} (hu:X.A.units+64 < cLine):OpR X (compareOp .NotIn) (nB true):=sM.or (tO hu)
theorem ud:cF K mg (nB false) oIn:=by
 intro WE μ S H v w x y Q hr rx ry p
 unfold oIn at p
 split at p
 ·rename_i b e
  exact in_of hr rx ry e (p.here hr (Rep.bl b))
 ·exact p.elim
theorem lH:cF K mg (nB true) eK:=by
 intro WE μ S H v w x y Q hr rx ry p
 unfold eK at p
 split at p
 ·rename_i b e
  exact in_of hr rx ry e (p.here hr (Rep.bl (!b)))
 ·exact p.elim
theorem uK {H:Hp} {vs:List V} {ds:List D} {i:Int} {z:D} (rs:av H vs ds) (e:atI ds i=some z):∃ v,atI vs i=some v∧Rep H v z:=by
 unfold atI at e ⊢
 rw [rs.length]
 cases q:ixN ds.length i with
 | none=>rw [q] at e;cases e
 | some j=>
  rw [q] at e
  obtain ⟨v,e1,r⟩:=rs.get' (show ds[j]?=some z from e)
  exact ⟨v,e1,r⟩
theorem zX:cF K mg zo oIx:=by
 intro WE μ S H v w x y Q hr rx ry p
 unfold oIx at p
 split at p
 ·split at p
  ·rename_i ds e1
   obtain ⟨a,vs,rfl,ha,rs⟩:=fF hr rx e1
   split at p
   ·rename_i z e2
    obtain ⟨u,e3,ru⟩:=uK rs e2
    rw [aY ry]
    exact ⟨a,_,vs,u,rfl,rfl,jw ha,e3,p.here hr ru⟩
   ·exact p.elim
  ·exact p.elim
 ·exact p.elim
theorem jY {H:Hp} {vs:List V} {ds:List D} (rs:av H vs ds) (lo hi:Option Int):av H (fK vs lo hi) (dh ds lo hi):=by
 unfold fK dh
 rw [rs.length]
 exact (rs.drop _).take _
theorem sW {α:Type} {xs:List D} {lo hi:Option Int} (h:fJ xs.length lo hi):dh xs lo hi=xs:=by
 unfold dh
 rw [h.1,h.2]
 simp
theorem eT {X:Cx} {WE:WX} {e:Expr} {lo hi:Option Expr} {xa:XE} {xl xh:XO} {p2 pos:Pos} (he:RE X WE e xa) (hl:RO X WE lo xl) (hh:RO X WE hi xh):RE X WE (.Subscript e (.Slice lo hi none p2) pos) (xSl oSl xa xl xh):=
 ⟨(og Es he.h hl.h hh.h).weak fun σ H Q ⟨μ,S,τ,hr,sr,p⟩=>⟨μ,S,τ,hr,sr,p.bind fun v x S1 μ1 H1 st1 r1 p1=>⟨μ1,S1,τ,st1.hr,sr.step st1,p1.bind fun i i' S2 μ2 H2 st2 r2 p2=>⟨μ2,S2,τ,st2.hr,sr.step (st1.trans st2),p2.bind fun j j' S3 μ3 H3 st3 r3 p3=>by
  cases (show i=i' from r2)
  cases (show j=j' from r3)
  have rv:=r1.step (st2.trans st3)
  unfold oSl at p3
  split at p3
  ·rename_i xs
   obtain ⟨a,vs,rfl,h,g,rs⟩:=eV rv
   refine ⟨a,rfl,.inl ⟨vs,h,fun hw=>?_,fun hw q hq=>p3.rO st3.hr (jY rs i j) q hq⟩⟩
   rw [rs.length] at hw
   rw [sW (α:=Unit) hw] at p3
   exact p3.here st3.hr (Rep.tup g rs)
  ·split at p3
   ·rename_i xs e1
    obtain ⟨a,vs,rfl,h,rs⟩:=et st3.hr rv e1
    exact ⟨a,rfl,.inr ⟨vs,h,fun q hq=>p3.lK st3.hr (jY rs i j) q hq⟩⟩
   ·exact p3.elim⟩⟩⟩⟩
theorem c9 {X:Cx} {WE:WX}:RO X WE none cD:=⟨fun pins s σ H Q I ⟨μ,S,τ,hr,sr,p⟩=>xS pins s σ H Q I (p.here hr rfl)⟩
theorem cG {X:Cx} {WE:WX} {e:Expr} {xa:XE} (he:RE X WE e xa):RO X WE (some e) (de xa):=⟨fun pins s σ H Q I ⟨μ,S,τ,hr,sr,p⟩=>yu he.h pins s σ H Q I ⟨μ,S,τ,hr,sr,p.bind fun v x S1 μ1 H1 st1 r1 p1=>by
 try dsimp only at p1
 split at p1
 ·exact ⟨_,aY r1,p1.here st1.hr rfl⟩
 ·exact p1.elim⟩⟩
theorem ax {X:Cx} {WE:WX} {a b:Expr} {xa xb:XE} {pos:Pos} (ha:RE X WE a xa) (hb:RE X WE b xb) (hs:pH b:=by exact fun _ _=>rfl):RE X WE (.Subscript a b pos) (xOp oIx xa xb):=⟨(Cq Eo ha.h hb.h hs).weak fun _ _ _ h=>two (X:=X) zX h⟩
end
def fw:List D→Option (List Bool)
 | []=>some []
 | .bl b :: r=>(fw r).map (b :: ·)
 | _=>none
def intsOf:List D→Option (List Int)
 | []=>some []
 | .int b :: r=>(intsOf r).map (b :: ·)
 | _=>none
theorem oh:∀ {ds:List D} {bs:List Bool},fw ds=some bs→ds=bs.map D.bl
 | [],_,e=>by simp [fw] at e;subst e;rfl
 | d :: ds,bs,e=>by
  cases d with
  | bl b=>
   simp only [fw,Option.map_eq_some_iff] at e
   obtain ⟨cs,e1,rfl⟩:=e
   rw [oh e1];rfl
  | _=>simp [fw] at e
theorem f7:∀ {ds:List D} {bs:List Int},intsOf ds=some bs→ds=bs.map D.int
 | [],_,e=>by simp [intsOf] at e;subst e;rfl
 | d :: ds,bs,e=>by
  cases d with
  | int b=>
   simp only [intsOf,Option.map_eq_some_iff] at e
   obtain ⟨cs,e1,rfl⟩:=e
   rw [f7 e1];rfl
  | _=>simp [intsOf] at e
theorem gW:∀ bs:List Int,intsOf (bs.map D.int)=some bs
 | []=>rfl
 | b :: bs=>by simp [intsOf,gW bs]
theorem av.tX {H:Hp}:∀ {vs:List V} {ns:List Bool},av H vs (ns.map D.bl)→vs=ns.map V.bl
 | [],[],.nil=>rfl
 | v :: vs,n :: ns,.cons r t=>by
  cases r
  rw [List.map_cons,av.tX t]
def insI (x:Int):List Int→List Int
 | []=>[x]
 | y :: ys=>if x≤y then x :: y :: ys else y :: insI x ys
def sortI:List Int→List Int
 | []=>[]
 | x :: xs=>insI x (sortI xs)
theorem insI_perm (x:Int):∀ ys,(insI x ys).Perm (x :: ys)
 | []=>.refl _
 | y :: ys=>by
  unfold insI
  split
  ·exact .refl _
  ·exact ((insI_perm x ys).cons y).trans (.swap x y ys)
theorem sortI_perm:∀ xs,(sortI xs).Perm xs
 | []=>.refl _
 | x :: xs=>(insI_perm x _).trans ((sortI_perm xs).cons x)
theorem l0 (x:Int):∀ ys:List Int,ys.Pairwise (·≤·)→(insI x ys).Pairwise (·≤·)
 | [],_=>by simp [insI]
 | y :: ys,h=>by
  unfold insI
  split
  ·rename_i hxy
   refine List.pairwise_cons.mpr ⟨fun z hz=>?_,h⟩
   rcases List.mem_cons.mp hz with e | e
   ·omega
   ·have:=(List.pairwise_cons.mp h).1 z e;omega
  ·rename_i hxy
   obtain ⟨h1,h2⟩:=List.pairwise_cons.mp h
   refine List.pairwise_cons.mpr ⟨fun z hz=>?_,l0 x ys h2⟩
   rcases List.mem_cons.mp ((insI_perm x ys).mem_iff.mp hz) with e | e
   ·omega
   ·exact h1 z e
theorem ij:∀ xs,(sortI xs).Pairwise (·≤·)
 | []=>.nil
 | x :: xs=>l0 x _ (ij xs)
theorem k_:∀ {xs ys:List Int},xs.Perm ys→xs.Pairwise (·≤·)→ys.Pairwise (·≤·)→xs=ys
 | [],ys,h,_,_=>by rw [List.nil_perm.mp h]
 | x :: xs,[],h,_,_=>by simpa using h.length_eq
 | x :: xs,y :: ys,h,h1,h2=>by
  obtain ⟨a1,a2⟩:=List.pairwise_cons.mp h1
  obtain ⟨b1,b2⟩:=List.pairwise_cons.mp h2
  have hx:x∈y :: ys:=h.mem_iff.mp (List.mem_cons_self ..)
  have hy:y∈x :: xs:=h.mem_iff.mpr (List.mem_cons_self ..)
  have e:x=y:=by
   rcases List.mem_cons.mp hx with e | e
   ·exact e
   ·rcases List.mem_cons.mp hy with e' | e'
    ·exact e'.symm
    ·have:=a1 y e';have:=b1 x e;omega
  subst e
  rw [k_ (List.Perm.cons_inv h) a2 b2]
theorem oC {xs ys:List Int} (h:ys.Perm xs) (h1:ys.Pairwise (·≤·)):ys=sortI xs:=k_ (h.trans (sortI_perm xs).symm) h1 (ij xs)
def bF (xs:List Vl) (S:Sto):R Vl:=match xs with
 | [x]=>(match bJ x S with
  | some ds=>.ok (.d (.int ds.length)) S
  | none=>.bad)
 | _=>.bad
def bP (xs:List Vl) (S:Sto):R Vl:=match xs with
 | [x]=>(match bJ x S with
  | some ds=>.ok (.d (.tup ds)) S
  | none=>.bad)
 | _=>.bad
def wJ (xs:List Vl) (S:Sto):R Vl:=match xs with
 | [x]=>(match bJ x S with
  | some ds=>.ok (.d (.lst ds)) S
  | none=>.bad)
 | _=>.bad
def ji (xs:List Vl) (S:Sto):R Vl:=match xs with
 | [x]=>(match bJ x S with
  | some ds=>.ok (.r S.length) (S++[.lst ds])
  | none=>.bad)
 | _=>.bad
def eX (xs:List Vl) (S:Sto):R Vl:=match xs with
 | [x]=>(match (cB x S).bind fw with
  | some bs=>.ok (.d (.bl (bs.all id))) S
  | none=>.bad)
 | _=>.bad
def qZ (xs:List Vl) (S:Sto):R Vl:=match xs with
 | [.d (.int i),.d (.int j)]=>.ok (.d (.int (if j > i then j else i))) S
 | _=>.bad
def qy (xs:List Vl) (S:Sto):R Vl:=match xs with
 | [.d (.int i),.d (.int j)]=>.ok (.d (.int (if j < i then j else i))) S
 | _=>.bad
section
variable {K:PySem.W.Frag} {mg:Str→Option Value}
theorem bu.one {μ:Nat→Addr} {S:Sto} {H:Hp} {vs:List V} {x:Vl} (r:bu K mg μ S H vs [x]):∃ v,vs=[v]∧aM K mg μ S H v x:=by
 cases r with | cons r t=>cases t;exact ⟨_,rfl,r⟩
theorem bu.two {μ:Nat→Addr} {S:Sto} {H:Hp} {vs:List V} {x y:Vl} (r:bu K mg μ S H vs [x,y]):∃ v w,vs=[v,w]∧aM K mg μ S H v x∧aM K mg μ S H w y:=by
 cases r with | cons r t=>cases t with | cons r' t'=>cases t';exact ⟨_,_,rfl,r,r'⟩
theorem aQ:fc K mg wO bF:=by
 intro WE μ S H vs xs Q hr rs p
 unfold bF at p
 split at p
 ·obtain ⟨v,rfl,r⟩:=rs.one
  split at p
  ·obtain ⟨a,us,rfl,ha,rr⟩:=fF hr r ‹_›
   exact ⟨a,us,rfl,jw ha,by rw [rr.length];exact p.here hr (Rep.int _)⟩
  ·exact p.elim
 ·exact p.elim
theorem bE:fc K mg pY bP:=by
 intro WE μ S H vs xs Q hr rs p
 unfold bP at p
 split at p
 ·rename_i x
  obtain ⟨v,rfl,r⟩:=rs.one
  split at p
  ·rename_i ds e
   unfold bJ at e
   split at e
   ·cases e
    obtain ⟨a,us,rfl,h,g,rr⟩:=eV r
    exact ⟨a,rfl,.inr ⟨us,h,p.here hr (Rep.tup g rr)⟩⟩
   ·obtain ⟨a,us,rfl,h,rr⟩:=et hr r e
    exact ⟨a,rfl,.inl ⟨us,h,fun q hq=>p.rO hr rr q hq⟩⟩
  ·exact p.elim
 ·exact p.elim
theorem q_:fc K mg tw ji:=by
 intro WE μ S H vs xs Q hr rs p
 unfold ji at p
 split at p
 ·obtain ⟨v,rfl,r⟩:=rs.one
  split at p
  ·obtain ⟨a,us,rfl,ha,rr⟩:=fF hr r ‹_›
   exact ⟨a,us,rfl,jw ha,fun q hq=>p.vd hr rr q hq⟩
  ·exact p.elim
 ·exact p.elim
theorem eE:fc K mg wB eX:=by
 intro WE μ S H vs xs Q hr rs p
 unfold eX at p
 split at p
 ·obtain ⟨v,rfl,r⟩:=rs.one
  split at p
  ·rename_i bs e
   obtain ⟨ds,e1,e2⟩:=Option.bind_eq_some_iff.mp e
   obtain ⟨a,us,rfl,ha,rr⟩:=et hr r e1
   rw [oh e2] at rr
   rw [av.tX rr] at ha
   exact ⟨a,bs,rfl,ha,p.here hr (Rep.bl _)⟩
  ·exact p.elim
 ·exact p.elim
theorem uA:fc K mg Ax qZ:=by
 intro WE μ S H vs xs Q hr rs p
 unfold qZ at p
 split at p
 ·obtain ⟨v,w,rfl,r1,r2⟩:=rs.two
  exact ⟨_,_,by rw [aY r1,aY r2],p.here hr (Rep.int _)⟩
 ·exact p.elim
theorem ux:fc K mg BQ qy:=by
 intro WE μ S H vs xs Q hr rs p
 unfold qy at p
 split at p
 ·obtain ⟨v,w,rfl,r1,r2⟩:=rs.two
  exact ⟨_,_,by rw [aY r1,aY r2],p.here hr (Rep.int _)⟩
 ·exact p.elim
end
def gy (T:String) (x:Vl) (S:Sto):R Vl:=match x with
 | .d d=>.ok (.d (.bl (isT T d))) S
 | .r n=>(match S[n]? with
  | some (.lst xs)=>.ok (.d (.bl (isT T (.lst xs)))) S
  | _=>.bad)
 | _=>.bad
section
variable {X:Cx} {WE:WX}
theorem cT {e:Expr} {xa:XE} {nm:Str} {T:String} {p p2 pos:Pos} [n:NS e] (hm:X.mg "isinstance"=none) (hm2:X.mg nm=none) (hv:bootBuiltins nm=some (.type T)) (ha:RE X WE e xa) (hg:Gl X "isinstance":=by exact rfl) (hg2:Gl X nm:=by exact rfl) (ho:okT T=true:=by exact rfl)
  (hn:nm≠"__name__":=by decide) (hd:(nm == ("__debug__":Str))=false:=by decide) (hb:bootBuiltins "isinstance"=some (.builtin "isinstance"):=by decide +kernel)
  (hs2:starEach [.Name nm p2] X.env=(false,eval (.Name nm p2) X.env) :: starEach [] X.env:=by rfl) (hpl:(backTo pos (starEach [.Name nm p2] X.env)).any (·.1)=false:=by rfl) :
  RE X WE (.Call (.Name "isinstance" p) [e,.Name nm p2] [] pos) (xUn (gy T) xa):=
 ⟨(sH hg hm hg2 hm2 hv ho ha.h hn hd hb (n.eq _ X.env) hs2 hpl).weak fun σ H Q ⟨μ,S,τ,hr,sr,p⟩=>⟨μ,S,τ,hr,sr,p.bind fun v x S1 μ1 H1 st1 r1 p1=>by
  unfold gy at p1
  split at p1
  ·exact ⟨_,Rep.mono fB r1,p1.here st1.hr (Rep.bl _)⟩
  ·split at p1
   ·rename_i e
    obtain ⟨rfl,hn⟩:=r1
    obtain ⟨vs,h,rs⟩:=st1.hr.ob _ _ e
    exact ⟨_,Rep.lst h (rs.mono fB),p1.here st1.hr (Rep.bl _)⟩
   ·exact p1.elim
  ·exact p1.elim⟩⟩
def xLm (f:Nat→List D→D→Sto→R Vl) (o e:XE):XE:=fun τ S=>(o τ S).bind fun x S1=>match x with
 | .r n=>(match S1[n]? with
  | some (.lst _)=>(e τ S1).bind fun y S2=>(match y with
   | .d z=>(match S2[n]? with
    | some (.lst xs)=>f n xs z S2
    | _=>.bad)
   | _=>.bad)
  | _=>.bad)
 | _=>.bad
def jc (n:Nat) (xs:List D) (z:D) (S:Sto):R Vl:=if xs.length < 100000 then .ok (.d .non) (S.set n (.lst (xs++[z]))) else .bad
theorem nS {o e:Expr} {xo xe:XE} {apos cpos:Pos} (ho:RE X WE o xo) (he:RE X WE e xe)
  (hbase:attributeBase o "append" X.env (eval o X.env)=eval o X.env:=by rfl)
  (hfew:((backTo cpos (starEach [e] X.env)).all (fun x=>!x.1) && (backToKw cpos (keywordEach [] X.env)).all (fun x=>x.1.isSome) && decide ([e].length+([]:List Keyword).length+(if ([]:List Keyword).isEmpty then 0 else 1) < 30))=true:=by rfl)
  (hline:(apos.endLine == cpos.line)=true:=by rfl) (hs:starEach [e] X.env=(false,eval e X.env) :: starEach [] X.env:=by rfl):RE X WE (.Call (.Attribute o "append" apos) [e] [] cpos) (xLm jc xo xe):=
 ⟨(AA ho.h he.h hbase hfew hline hs).weak fun σ H Q ⟨μ,S,τ,hr,sr,p⟩=>⟨μ,S,τ,hr,sr,p.bind fun v x S1 μ1 H1 st1 r1 p1=>by
  try dsimp only at p1
  split at p1
  ·rename_i n
   obtain ⟨rfl,hn⟩:=r1
   split at p1
   ·rename_i xs0 e0
    obtain ⟨vs0,h0,_⟩:=st1.hr.ob _ _ e0
    refine ⟨_,vs0,rfl,h0,μ1,S1,τ,st1.hr,sr.step st1,p1.bind fun w y S2 μ2 H2 st2 r2 p2=>?_⟩
    try dsimp only at p2
    split at p2
    ·split at p2
     ·rename_i z _ xs e2
      obtain ⟨vs,h2,rs⟩:=st2.hr.ob _ _ e2
      rw [st2.ag n hn] at h2
      unfold jc at p2
      split at p2
      ·have lv:=rs.length
       have sp:=Step.put st2.hr e2 (by simp) (ob:=.lst (xs++[z])) ⟨_,rfl,rs.append (.cons r2 .nil)⟩
       rw [st2.ag n hn] at sp
       refine ⟨vs,h2,by rw [sizeLine_eq];omega,p2 _ _ _ sp Rep.non⟩
      ·exact p2.elim
     ·exact p2.elim
    ·exact p2.elim
   ·exact p1.elim
  ·exact p1.elim⟩⟩
def zZ (r:V→List V→Hp→VK→Prop) (f:Nat→List D→D→Sto→R Vl):Prop:=∀ (K:PySem.W.Frag) (mg:Str→Option Value) (WE:WX) (μ:Nat→Addr) (S:Sto) (H:Hp) (n:Nat) (xs:List D) (vs:List V) (w:V) (z:D) (Q:VK),HR μ S H→S[n]?=some (.lst xs)→H (μ n)=some (.lst vs)→av (vh μ S H) vs xs→Rep (vh μ S H) w z→aJ (aM K mg) WE μ S H (f n xs z S) Q→r (.ref (μ n)) [w] H Q
theorem we {r:V→List V→Hp→VK→Prop} {f:Nat→List D→D→Sto→R Vl} {name:Str} {id:String} {o e:Expr} {xo xe:XE} {apos cpos:Pos} (slot:Slot "list" name id) (hty:typeOf (.builtin id)=pure (.type "method_descriptor")) (hm:MtM X id r) (hf:zZ r f) (ho:RE X WE o xo) (he:RE X WE e xe)
  (hbase:attributeBase o name X.env (eval o X.env)=eval o X.env:=by rfl)
  (hfew:((backTo cpos (starEach [e] X.env)).all (fun x=>!x.1) && (backToKw cpos (keywordEach [] X.env)).all (fun x=>x.1.isSome) && decide ([e].length+([]:List Keyword).length+(if ([]:List Keyword).isEmpty then 0 else 1) < 30))=true:=by rfl)
  (hline:(apos.endLine == cpos.line)=true:=by rfl) (hs:starEach [e] X.env=(false,eval e X.env) :: starEach [] X.env:=by rfl):RE X WE (.Call (.Attribute o name apos) [e] [] cpos) (xLm f xo xe):=
 ⟨(Dw slot hty hm ho.h he.h hbase hfew hline hs).weak fun σ H Q ⟨μ,S,τ,hr,sr,p⟩=>⟨μ,S,τ,hr,sr,p.bind fun v x S1 μ1 H1 st1 r1 p1=>by
  try dsimp only at p1
  split at p1
  ·rename_i n
   obtain ⟨rfl,hn⟩:=r1
   split at p1
   ·rename_i xs0 e0
    obtain ⟨vs0,h0,_⟩:=st1.hr.ob _ _ e0
    refine ⟨_,vs0,rfl,h0,μ1,S1,τ,st1.hr,sr.step st1,p1.bind fun w y S2 μ2 H2 st2 r2 p2=>?_⟩
    try dsimp only at p2
    split at p2
    ·split at p2
     ·rename_i z _ xs e2
      obtain ⟨vs,h2,rs⟩:=st2.hr.ob _ _ e2
      rw [← st2.ag n hn]
      exact hf X.K X.mg WE μ2 S2 H2 n xs vs w z Q st2.hr e2 h2 rs r2 p2
     ·exact p2.elim
    ·exact p2.elim
   ·exact p1.elim
  ·exact p1.elim⟩⟩
def lJ (n:Nat) (xs:List D) (z:D) (S:Sto):R Vl:=match z with
 | .int i=>if 0≤i∧i < 2 ^ 63 then (match xs[i.toNat]? with
  | some y=>.ok (.d y) (S.set n (.lst (xs.eraseIdx i.toNat)))
  | none=>.bad) else .bad
 | _=>.bad
theorem av.erase {H:Hp}:∀ {vs:List V} {ds:List D} (i:Nat),av H vs ds→av H (vs.eraseIdx i) (ds.eraseIdx i)
 | _,_,_,.nil=>.nil
 | _,_,0,.cons _ t=>t
 | _,_,i+1,.cons r t=>.cons r (av.erase i t)
theorem n6:zZ sP lJ:=by
 intro K mg WE μ S H n xs vs w z Q hr e h rs rw' p
 unfold lJ at p
 split at p
 ·rename_i i
  split at p
  ·rename_i hi
   split at p
   ·rename_i y ey
    obtain ⟨u,eu,ru⟩:=rs.get' ey
    have hl:i.toNat < vs.length:=(List.getElem?_eq_some_iff.mp eu).1
    cases rw'
    refine ⟨_,vs,i,i.toNat,u,rfl,rfl,h,by omega,hi.2,PySem.StrLaws.seqIndex_nonneg hi.1 (by omega),eu,?_⟩
    have sp:=Step.put hr e (by simp) (ob:=.lst (xs.eraseIdx i.toNat)) ⟨_,rfl,rs.erase i.toNat⟩
    exact p _ _ _ sp (Rep.mono sp.vis ru)
   ·exact p.elim
  ·exact p.elim
 ·exact p.elim
end
def b8 (e:XE):XI:=fun τ S=>(e τ S).bind fun z S1=>match z with
 | .d (.tup xs)=>.ok ⟨xs.map Vl.d,none⟩ S1
 | .d (.lst xs)=>.ok ⟨xs.map Vl.d,none⟩ S1
 | .r n=>(match S1[n]? with
  | some (.lst xs)=>.ok ⟨xs.map Vl.d,some (n,.lst xs)⟩ S1
  | _=>.bad)
 | _=>.bad
def lj (as:XA):XI:=fun τ S=>(as τ S).bind fun zs S1=>match zs with
 | [.d (.int j)]=>if -100000≤j∧j≤100000 then .ok ⟨(List.range j.toNat).map fun i=>Vl.d (.int (i:Nat)),none⟩ S1 else .bad
 | _=>.bad
def uM (as:XA):XI:=fun τ S=>(as τ S).bind fun zs S1=>match zs with
 | [.d (.int i),.d (.int j)]=>if (-100000≤i∧i≤100000)∧-100000≤j∧j≤100000 then .ok ⟨(List.range (j - i).toNat).map fun k=>Vl.d (.int (i+(k:Nat))),none⟩ S1 else .bad
 | _=>.bad
section
variable {X:Cx} {WE:WX} {K:PySem.W.Frag} {mg:Str→Option Value} {μ:Nat→Addr} {S:Sto} {H:Hp}
theorem fC {xs:List D} {i:Nat} {z:Vl} (e:(xs.map Vl.d)[i]?=some z):∃ x,xs[i]?=some x∧z=.d x:=by
 rw [List.getElem?_map] at e
 cases q:xs[i]? with
 | none=>rw [q] at e;cases e
 | some x=>rw [q] at e;cases e;exact ⟨x,rfl,rfl⟩
theorem BB {a:Addr} {vs:List V} {xs:List D} (g:vh μ S H a=some (.tup vs)) (rs:av (vh μ S H) vs xs) (hz:vs.length≤sizeLine):fe K mg μ S H (Itt K a) ⟨xs.map Vl.d,none⟩ where
 ok:=True.intro
 len:=by simp only [List.length_map];rw [← rs.length];exact hz
 go:=fun i z μ' S' H' st _ e=>by
  obtain ⟨x,e1,rfl⟩:=fC e
  obtain ⟨u,e2,_⟩:=rs.get' e1
  exact ⟨vs,u,SqT.of (aO (st.vis _ _ g)).2,e2⟩
 yld:=fun i z μ' S' H' u H2 st _ e y=>by
  obtain ⟨rfl,y⟩:=y
  obtain ⟨x,e1,rfl⟩:=fC e
  have e2:=y vs (SqT.of (aO (st.vis _ _ g)).2)
  obtain ⟨x',e3,r⟩:=rs.get e2
  rw [e1] at e3;cases e3
  exact ⟨Step.refl st.hr,Rep.mono st.vis r⟩
 stop:=fun i μ' S' H' st _ hi=>⟨vs,SqT.of (aO (st.vis _ _ g)).2,by rw [rs.length];simpa using Nat.le_of_eq hi⟩
theorem y_ {a:Addr} {vs:List V} {xs:List D} (g:vh μ S H a=some (.lst vs)) (rs:av (vh μ S H) vs xs) (hz:vs.length≤sizeLine):fe K mg μ S H (Itl K a) ⟨xs.map Vl.d,none⟩ where
 ok:=True.intro
 len:=by simp only [List.length_map];rw [← rs.length];exact hz
 go:=fun i z μ' S' H' st _ e=>by
  obtain ⟨x,e1,rfl⟩:=fC e
  obtain ⟨u,e2,_⟩:=rs.get' e1
  exact ⟨vs,u,SqL.of (aO (st.vis _ _ g)).2,e2⟩
 yld:=fun i z μ' S' H' u H2 st _ e y=>by
  obtain ⟨rfl,y⟩:=y
  obtain ⟨x,e1,rfl⟩:=fC e
  have e2:=y vs (SqL.of (aO (st.vis _ _ g)).2)
  obtain ⟨x',e3,r⟩:=rs.get e2
  rw [e1] at e3;cases e3
  exact ⟨Step.refl st.hr,Rep.mono st.vis r⟩
 stop:=fun i μ' S' H' st _ hi=>⟨vs,SqL.of (aO (st.vis _ _ g)).2,by rw [rs.length];simpa using Nat.le_of_eq hi⟩
theorem Bl {n:Nat} {vs:List V} {xs:List D} (hn:n < S.length) (e0:S[n]?=some (.lst xs)) (rs:av (vh μ S H) vs xs) (hz:vs.length≤sizeLine):fe K mg μ S H (Itl K (μ n)) ⟨xs.map Vl.d,some (n,.lst xs)⟩ where
 ok:=e0
 len:=by simp only [List.length_map];rw [← rs.length];exact hz
 go:=fun i z μ' S' H' st ok e=>by
  obtain ⟨us,h,rs'⟩:=st.hr.ob n _ ok
  rw [st.ag n hn] at h
  obtain ⟨x,e1,rfl⟩:=fC e
  obtain ⟨u,e2,_⟩:=rs'.get' e1
  exact ⟨us,u,SqL.of h,e2⟩
 yld:=fun i z μ' S' H' u H2 st ok e y=>by
  obtain ⟨rfl,y⟩:=y
  obtain ⟨us,h,rs'⟩:=st.hr.ob n _ ok
  rw [st.ag n hn] at h
  obtain ⟨x,e1,rfl⟩:=fC e
  have e2:=y us (SqL.of h)
  obtain ⟨x',e3,r⟩:=rs'.get e2
  rw [e1] at e3;cases e3
  exact ⟨Step.refl st.hr,r⟩
 stop:=fun i μ' S' H' st ok hi=>by
  replace hi:=Nat.le_of_eq hi
  obtain ⟨us,h,rs'⟩:=st.hr.ob n _ ok
  rw [st.ag n hn] at h
  exact ⟨us,SqL.of h,by rw [rs'.length];simpa using hi⟩
theorem uc {lo:Int} {m:Nat} (hr:HR μ S H) (hm:m≤sizeLine):fe K mg μ S H (Itr lo m) ⟨(List.range m).map fun k=>Vl.d (.int (lo+(k:Nat))),none⟩ where
 ok:=True.intro
 len:=by simpa using hm
 go:=fun i z μ' S' H' st _ e=>by
  have:=(List.getElem?_eq_some_iff.mp e).1
  exact (show i < m by simpa using this)
 yld:=fun i z μ' S' H' u H2 st _ e y=>by
  obtain ⟨rfl,rfl⟩:=y
  have hi:i < m:=by simpa using (List.getElem?_eq_some_iff.mp e).1
  rw [List.getElem?_map,List.getElem?_range hi] at e
  cases e
  exact ⟨Step.refl st.hr,Rep.int _⟩
 stop:=fun i μ' S' H' st _ hi=>(show m≤i by simpa using Nat.le_of_eq hi)
theorem bS {tg l:Expr} {xl:XE} (hl:RE X WE l xl):RI X WE tg l (b8 xl):=⟨by
 intro pins s σ H Rr I h
 obtain ⟨μ,S,τ,hr,sr,p⟩:=h
 refine thn (hl.h pins s σ H _ I ⟨μ,S,τ,hr,sr,p.bind (Q:=fun v H1=>∃ μ1 S1 z,HR μ1 S1 H1∧aM X.K X.mg μ1 S1 H1 v z∧aJ (fe X.K X.mg) WE μ1 S1 H1 (match z with
   | .d (.tup xs)=>.ok ⟨xs.map Vl.d,none⟩ S1
   | .d (.lst xs)=>.ok ⟨xs.map Vl.d,none⟩ S1
   | .r n=>(match S1[n]? with
    | some (.lst xs)=>.ok ⟨xs.map Vl.d,some (n,.lst xs)⟩ S1
    | _=>.bad)
   | _=>.bad) Rr) fun v x S1 μ1 H1 st1 r1 p1=>⟨μ1,S1,x,st1.hr,r1,p1⟩⟩) fun v s1 ⟨u,H1,I1,ru,μ1,S1,z,hr1,r1,p1⟩=>?_
 have goT:∀ a vs xs,u=.ref a→vh μ1 S1 H1 a=some (.tup vs)→av (vh μ1 S1 H1) vs xs→Rr (Itt X.K a) H1→wpAny (model X.prog X.w) X.A (pyIter v) (PIE X pins σ tg Rr) X.xe s1:=by
  rintro a vs xs rfl g rs q
  cases ru
  obtain ⟨its,rv,pp,hz⟩:=I1.tuple (SqT.of (aO g).2)
  refine wpAny_pyIter_tuple (show s1.heap.IsTuple a its.toArray from pp) ?_
  refine ⟨s1.heap.objs.size,[s1.heap.objs.size],_,_,H1,rfl,I1.kept (t':=s1.toks) fun b o e=>Heap.get?_push_of_some _ e,qz a _,⟨_,Heap.get?_push_size _ rfl,rfl,rfl⟩,fun b hb=>?_,q⟩
  rw [List.mem_singleton.mp hb]
  exact I1.jS (Nat.le_refl _) (I1.hok.fresh (Nat.le_refl _))
 have goL:∀ a vs,u=.ref a→H1 a=some (.lst vs)→Rr (Itl X.K a) H1→wpAny (model X.prog X.w) X.A (pyIter v) (PIE X pins σ tg Rr) X.xe s1:=by
  rintro a vs rfl g q
  cases ru
  obtain ⟨its,rv,pp,hz⟩:=I1.list (SqL.of g)
  refine wpAny_pyIter_list pp.isList ?_
  refine ⟨s1.heap.objs.size,[s1.heap.objs.size],_,_,H1,rfl,I1.kept (t':=s1.toks) fun b o e=>Heap.get?_push_of_some _ e,s_ a _,⟨_,Heap.get?_push_size _ rfl,rfl,rfl⟩,fun b hb=>?_,q⟩
  rw [List.mem_singleton.mp hb]
  exact I1.jS (Nat.le_refl _) (I1.hok.fresh (Nat.le_refl _))
 split at p1
 ·obtain ⟨a,vs,rfl,h,g,rs⟩:=eV r1
  obtain ⟨its,rv,pp,hz⟩:=I1.tuple (SqT.of h)
  exact goT a vs _ rfl g rs (p1.here hr1 (BB g rs hz))
 ·cases (show Rep (vh μ1 S1 H1) u (.lst _) from r1) with
  | lst g rs=>
   obtain ⟨its,rv,pp,hz⟩:=I1.list (SqL.of (aO g).2)
   exact goL _ _ rfl (aO g).2 (p1.here hr1 (y_ g rs hz))
 ·split at p1
  ·rename_i e
   obtain ⟨rfl,hn⟩:=r1
   obtain ⟨vs,h,rs⟩:=hr1.ob _ _ e
   obtain ⟨its,rv,pp,hz⟩:=I1.list (SqL.of h)
   exact goL _ _ rfl h (p1.here hr1 (Bl hn e rs hz))
  ·exact p1.elim
 ·exact p1.elim⟩
theorem gg {tg a:Expr} {as:XA} {p pos:Pos} (hg:Gl X "range") (hm:X.mg "range"=none) (ha:RA X WE [a] as) (hs:starEach [a] X.env=[(false,eval a X.env)]:=by rfl):RI X WE tg (.Call (.Name "range" p) [a] [] pos) (lj as):=
 ⟨(uj hg hm ha.h hs).weak fun σ H Rr ⟨μ,S,τ,hr,sr,p⟩=>⟨μ,S,τ,hr,sr,p.bind fun vs xs S1 μ1 H1 st1 r1 p1=>by
  try dsimp only at p1
  split at p1
  ·split at p1
   ·obtain ⟨v,rfl,r⟩:=r1.one
    rename_i j hj
    refine ⟨j,by rw [aY r],by omega,by omega,p1.here st1.hr ?_⟩
    have q:=uc (K:=X.K) (mg:=X.mg) (lo:=0) (m:=j.toNat) st1.hr (jV (by omega))
    have z:∀ k:Nat,(0:Int)+k=k:=fun k=>by omega
    simp only [z] at q
    exact q
   ·exact p1.elim
  ·exact p1.elim⟩⟩
theorem su {tg a b:Expr} {as:XA} {p pos:Pos} (hg:Gl X "range") (hm:X.mg "range"=none) (ha:RA X WE [a,b] as) (hs:starEach [a,b] X.env=[(false,eval a X.env),(false,eval b X.env)]:=by rfl) (hs2:starEach [b] X.env=[(false,eval b X.env)]:=by rfl):RI X WE tg (.Call (.Name "range" p) [a,b] [] pos) (uM as):=
 ⟨(rR hg hm ha.h hs hs2).weak fun σ H Rr ⟨μ,S,τ,hr,sr,p⟩=>⟨μ,S,τ,hr,sr,p.bind fun vs xs S1 μ1 H1 st1 r1 p1=>by
  try dsimp only at p1
  split at p1
  ·split at p1
   ·obtain ⟨v,w,rfl,r,r'⟩:=r1.two
    rename_i i j hj
    exact ⟨i,j,by rw [aY r,aY r'],⟨by omega,by omega,by omega,by omega⟩,p1.here st1.hr (uc st1.hr (by rw [sizeLine_eq];omega))⟩
   ·exact p1.elim
  ·exact p1.elim⟩⟩
end
section
variable {prog:Program} {w:World} {A:Around} {E:Value→Shared→Prop} {s:Shared}
theorem oY {l:Addr} {vs:List Value} {Q:List Value→Shared→Prop} (hl:IsTup s.heap l vs.toArray)
  (h:Q vs { s with heap:=(s.heap.push (seqObj "list" #[] 0)).update s.heap.objs.size (Obj.mapSeq (·++vs.toArray)) }) (hsz:vs.length≤sizeLine:=by size_fits) :
  wpAny (model prog w) A (collect (.ref l)) Q E s:=by
 obtain ⟨o,ho,hc,n,hd⟩:=id hl
 unfold collect
 refine wpAny_bind (wpAny_runValue (codeAny_builtin entry_proto_collect' ?_))
 show wpAny _ _ (do again (.builtin "list.__iadd__" ⟨[← newList [],.ref l],[]⟩)) _ _ s
 refine wpAny_bind (wpAny_newList (wpAny_pure ⟨Code.quiet_builtin _ (by decide +kernel),codeAny_builtin entry_list_iadd' ?_⟩))
 show wpAny _ _ (Builtin.List.listExtendWith (.ref s.heap.objs.size) (.ref l) (.ref s.heap.objs.size)) _ _ { s with heap:=s.heap.push (seqObj "list" #[] 0) }
 unfold Builtin.List.listExtendWith
 have ho':(s.heap.push (seqObj "list" #[] 0)).get? l=some o:=Heap.get?_push_of_some _ ho
 refine wpAny_bind (wpAny_typeOf (T:="tuple") ⟨o,ho',hc⟩ ?_)
 have ht:(Value.type "tuple" == Value.type "tuple")=true:=by rfl
 rw [if_pos (by rw [ht];simp)]
 refine wpAny_bind (listItems_at ho' hd ?_)
 refine wpAny_bind (listItems_at (xs:=#[]) (n:=0) (Heap.get?_push_size _ rfl) rfl ?_)
 rw [if_neg (by simp)]
 refine wpAny_bind (listUpdate_at (xs:=#[]) (n:=0) (Heap.get?_push_size _ rfl) rfl ?_ (Nat.zero_le _) (by show (#[]++vs.toArray).size≤sizeLine+1;simp only [Array.size_append,List.size_toArray,List.length_nil];omega))
 refine wpAny_pure ?_
 show wpAny (model prog w) A (do
   let o ← load s.heap.objs.size
   match o.data with
   | .seq xs _=>pure xs.toList
   | _=>unsupported "internal:collect") Q E { s with heap:=(s.heap.push (seqObj "list" #[] 0)).update s.heap.objs.size (Obj.mapSeq (·++vs.toArray)) }
 refine wpAny_bind (wpAny_load (get?_update_seq (Heap.get?_push_size _ rfl) _) ?_)
 show wpAny _ _ (pure ((#[]:Array Value)++vs.toArray).toList) Q E _
 rw [show ((#[]:Array Value)++vs.toArray).toList=vs by simp]
 exact wpAny_pure h
theorem qS {l:Addr} {vs:List Value} {ns:List Int} {Q:Value→Shared→Prop} (hl:IsTup s.heap l vs.toArray) (hI:IntsAre vs ns) (h64:vs.length < 64)
  (h:∀ (out:Array Value) (ns':List Int),IntsAre out.toList ns'→ns'.Perm ns→ns'.Pairwise (·≤·)→Q (.ref (s.heap.objs.size+1)) { s with heap:=sortedAll s.heap vs out }) :
  wpAny (model prog w) A (call (.builtin "sorted") [.ref l]) Q E s:=by
 refine Calls.call_function_entry kind_sorted plain_sorted entry_sorted (args_sorted1 _) ?_
 unfold Builtin.«sorted»
 refine wpAny_bind (m:=checkCount "sorted" 1 1 _) (wpAny_pure ?_)
 refine wpAny_bind (oY hl ?_ (Nat.le_of_lt (jd (by omega))))
 refine wpAny_bind (wpAny_newList ?_)
 have hsz:((s.heap.push (seqObj "list" #[] 0)).update s.heap.objs.size (Obj.mapSeq (·++vs.toArray))).objs.size=s.heap.objs.size+1:=by
  rw [Heap.size_update,size_push']
 have hoL:(((s.heap.push (seqObj "list" #[] 0)).update s.heap.objs.size (Obj.mapSeq (·++vs.toArray))).push (seqObj "list" vs.toArray 0)).get? (s.heap.objs.size+1)=some (seqObj "list" vs.toArray 0):=by
  rw [← hsz];exact Heap.get?_push_size _ rfl
 show wpAny _ _ _ _ _ { s with heap:=((s.heap.push (seqObj "list" #[] 0)).update s.heap.objs.size (Obj.mapSeq (·++vs.toArray))).push (seqObj "list" vs.toArray 0) }
 rw [hsz]
 refine wpAny_bind (wpAny_holding (wpAny_call_entry slot_list_sort ⟨_,hoL,rfl⟩ entry_list_sort (list_sort_tree hoL hI h64 fun out ns' a1 a2 a3=>⟨_,rfl,?_⟩) (args_list_sort _)))
 exact wpAny_pure ⟨_,rfl,h out ns' a1 a2 a3⟩
end
section
variable {X:Cx}
def uv:List V→Hp→VK→Prop:=fun vs H Q=>∃ (p:Addr) (ns:List Int),vs=[.ref p]∧H p=some (.tup (ns.map V.int))∧ns.length < 64∧∀ (l:Addr) (ms:List Int),H l=none→List.Perm ms ns→ms.Pairwise (·≤·)→Q (.ref l) (upd H l (.lst (ms.map V.int)))
theorem rJ:bI X (.builtin "sorted") uv:=by
 intro pins s σ H xs us Q I r h
 obtain ⟨p,ns,rfl,hq,hl,q⟩:=h
 obtain ⟨u,rfl,rx⟩:=vals1 r
 cases rx
 obtain ⟨its,rv,pl,hz⟩:=I.tuple (SqT.of hq)
 have hI:IntsAre its ns:=intsAre_of rv
 have h64:its.length < 64:=by rw [← rv.length,List.length_map];exact hl
 refine qS pl hI h64 fun out ms hout hperm hpair=>?_
 obtain ⟨e,he⟩:=sortedAll_at s.heap its out
 refine ⟨.ref (s.heap.objs.size+1),_,I.laid (t':=s.toks) (o:=.lst (ms.map V.int)) (fun b ob q=>sortedAll_old q) (Nat.le_succ _) ?_,rfl,q _ ms (I.hok.fresh (Nat.le_succ _)) hperm hpair⟩
 have hlm:ms.length=ns.length:=hperm.length_eq
 exact ⟨by rw [List.length_map];have:(64:Nat)≤sizeLine:=(by decide);omega,out.toList,e,gc hout,by simpa using he⟩
def uh:List V→Hp→VK→Prop:=fun vs H Q=>n8 vs H Q∨uv vs H Q
theorem kJ:bI X (.builtin "sorted") uh:=nZ.or rJ
def gi (xs:List Vl) (S:Sto):R Vl:=match xs with
 | [x]=>(match (bJ x S).bind intsOf with
  | some ns=>if ns.length < 64 then .ok (.d (.lst ((sortI ns).map D.int))) S else .bad
  | none=>.bad)
 | _=>.bad
theorem lS {K:PySem.W.Frag} {mg:Str→Option Value}:fc K mg uh gi:=by
 intro WE μ S H vs xs Q hr rs p
 unfold gi at p
 split at p
 ·obtain ⟨v,rfl,r⟩:=rs.one
  split at p
  ·rename_i ns e
   split at p
   ·rename_i hb
    obtain ⟨ds,e1,e2⟩:=Option.bind_eq_some_iff.mp e
    obtain ⟨a,us,rfl,ha,rr⟩:=fF hr r e1
    rw [f7 e2] at rr
    rw [av.jB rr] at ha
    rcases ha with ha | ha
    ·refine .inl ⟨a,ns,rfl,ha,hb,fun l ms hl h1 h2=>?_⟩
     rw [oC h1 h2]
     exact p.lK hr (av.ints _) l hl
    ·refine .inr ⟨a,ns,rfl,ha,hb,fun l ms hl h1 h2=>?_⟩
     rw [oC h1 h2]
     exact p.lK hr (av.ints _) l hl
   ·exact p.elim
  ·exact p.elim
 ·exact p.elim
end
section
variable {X:Cx} {WE:WX}
def dG (x y z:Vl) (S:Sto):R Unit:=match x,y,z with
 | .r n,.d (.int k),.d w=>(match S[n]? with
  | some (.lst xs)=>(match ixN xs.length k with
   | some j=>.ok () (S.set n (.lst (xs.set j w)))
   | none=>.bad)
  | _=>.bad)
 | _,_,_=>.bad
theorem av.set {H:Hp} {v:V} {d:D} (r:Rep H v d):∀ {vs:List V} {ds:List D} (i:Nat),av H vs ds→av H (vs.set i v) (ds.set i d)
 | _,_,_,.nil=>.nil
 | _,_,0,.cons _ t=>.cons r t
 | _,_,i+1,.cons q t=>.cons q (av.set r i t)
theorem gB {K:PySem.W.Frag} {mg:Str→Option Value}:tQ K mg rl dG:=by
 intro WE μ S H o i v x y z Q hr ro ri rv p
 unfold dG at p
 split at p
 ·split at p
  ·rename_i n k w _ xs e
   obtain ⟨rfl,hn⟩:=ro
   obtain ⟨vs,h,rs⟩:=hr.ob _ _ e
   split at p
   ·rename_i j ej
    refine ⟨_,vs,k,j,rfl,aY ri,h,by rw [rs.length];exact ej,?_⟩
    exact p () _ _ (Step.put hr e (by simp) (ob:=.lst (xs.set j w)) ⟨_,rfl,rs.set rv j⟩) True.intro
   ·exact p.elim
  ·exact p.elim
 ·exact p.elim
theorem ka:qG X rl:=set_list
def lrg (fin:List D→Sto→R Vl) (zs:List Vl) (S:Sto):R Vl:=match zs with
 | [.d (.int j)]=>if 0≤j∧j≤1000 then fin ((List.range j.toNat).map fun i=>D.int (i:Nat)) S else .bad
 | _=>.bad
def rf (ds:List D) (S:Sto):R Vl:=.ok (.r S.length) (S++[.lst ds])
theorem j_ {H:Hp}:∀ l:List Nat,av H (l.map fun i=>V.int (i:Nat)) (l.map fun i=>D.int (i:Nat))
 | []=>.nil
 | n :: l=>.cons (.int _) (j_ l)
theorem iA {a:Expr} {as:XA} {p1 p2 pos1 pos2:Pos} (hc:X.calm=true) (hgl:Gl X "list") (hml:X.mg "list"=none) (hgr:Gl X "range") (hmr:X.mg "range"=none) (hbl:bootBuiltins "list"=some (.type "list")) (ha:RA X WE [a] as)
  (hs:starEach [a] X.env=[(false,eval a X.env)]:=by rfl)
  (hs2:starEach [Expr.Call (.Name "range" p2) [a] [] pos2] X.env=(false,eval (Expr.Call (.Name "range" p2) [a] [] pos2) X.env) :: starEach [] X.env:=by rfl) :
  RE X WE (.Call (.Name "list" p1) [.Call (.Name "range" p2) [a] [] pos2] [] pos1) (xN (lrg rf) as):=
 ⟨(oO hc hgl hml hgr hmr hbl ha.h hs hs2).weak fun σ H Q ⟨μ,S,τ,hr,sr,p⟩=>⟨μ,S,τ,hr,sr,p.bind fun vs xs S1 μ1 H1 st1 r1 p1=>by
  unfold lrg at p1
  split at p1
  ·split at p1
   ·rename_i j hj
    obtain ⟨v,rfl,r⟩:=r1.one
    exact ⟨j,by rw [aY r],hj.1,hj.2,fun l hl=>p1.vd st1.hr (j_ _) l hl⟩
   ·exact p1.elim
  ·exact p1.elim⟩⟩
end
def i9 (x:Int):List Int→List Int
 | []=>[x]
 | y :: ys=>if x < y then x :: y :: ys else if x=y then y :: ys else y :: i9 x ys
def dD:List Int→List Int
 | []=>[]
 | x :: xs=>i9 x (dD xs)
theorem jZ (x z:Int):∀ ys,z∈i9 x ys↔z=x∨z∈ys
 | []=>by simp [i9]
 | y :: ys=>by
  unfold i9
  split
  ·simp
  ·split
   ·rename_i h;subst h;simp
   ·simp only [List.mem_cons,jZ x z ys]
    constructor
    ·rintro (h | h | h)
     ·exact .inr (.inl h)
     ·exact .inl h
     ·exact .inr (.inr h)
    ·rintro (h | h | h)
     ·exact .inr (.inl h)
     ·exact .inl h
     ·exact .inr (.inr h)
theorem i0 (z:Int):∀ xs,z∈dD xs↔z∈xs
 | []=>by simp [dD]
 | x :: xs=>by rw [dD,jZ,i0 z xs,List.mem_cons]
theorem l4 (x:Int):∀ ys:List Int,ys.Pairwise (· < ·)→(i9 x ys).Pairwise (· < ·)
 | [],_=>by simp [i9]
 | y :: ys,h=>by
  obtain ⟨h1,h2⟩:=List.pairwise_cons.mp h
  unfold i9
  split
  ·rename_i hxy
   refine List.pairwise_cons.mpr ⟨fun z hz=>?_,h⟩
   rcases List.mem_cons.mp hz with e | e
   ·omega
   ·have:=h1 z e;omega
  ·split
   ·exact h
   ·refine List.pairwise_cons.mpr ⟨fun z hz=>?_,l4 x ys h2⟩
    rcases (jZ x z ys).mp hz with e | e
    ·omega
    ·exact h1 z e
theorem ib:∀ xs,(dD xs).Pairwise (· < ·)
 | []=>.nil
 | x :: xs=>l4 x _ (ib xs)
theorem lA {xs:List Int} (h:xs.Pairwise (· < ·)):xs.Nodup:=h.imp fun z=>by omega
theorem uV {xs ys:List Int} (h:∀ z,z∈xs↔z∈ys) (h1:xs.Pairwise (· < ·)) (h2:ys.Pairwise (· < ·)):xs=ys:=
 k_ ((List.perm_ext_iff_of_nodup (lA h1) (lA h2)).mpr h) (h1.imp fun z=>by omega) (h2.imp fun z=>by omega)
theorem uz {xs ys:List Int} (h:∀ z,z∈ys↔z∈xs) (h1:ys.Pairwise (· < ·)):ys=dD xs:=uV (fun z=>by rw [h,i0]) h1 (ib xs)
theorem qK {ks ns:List Int} (h1:ks.Nodup) (h2:∀ x,x∈ks↔x∈ns):ks.length=(dD ns).length:=
 ((List.perm_ext_iff_of_nodup h1 (lA (ib ns))).mpr fun z=>by rw [h2,i0]).length_eq
section
variable {X:Cx} {WE:WX}
def SqI (H:Hp) (a:Addr) (ns:List Int):Prop:=H a=some (.lst (ns.map V.int))∨H a=some (.tup (ns.map V.int))
def EC (te:TE):TE:=fun σ H Q=>te σ H fun x H1=>∃ (a:Addr) (ns:List Int),x=.ref a∧SqI H1 a ns∧ns.length≤300∧Q (.int (dD ns).length) H1
theorem SqI.at {pins:List (Addr×Obj)} {σ:St} {H:Hp} {s:Shared} {a:Addr} {ns:List Int} (I:Inv X pins σ H s) (h:SqI H a ns):∃ (its:List Value) (k:Bool),IntsAre its ns∧nY s.heap a its.toArray k:=by
 rcases h with h | h
 ·obtain ⟨its,rv,pl,hz⟩:=I.list (SqL.of h)
  exact ⟨its,true,intsAre_of rv,pl.isList⟩
 ·obtain ⟨its,rv,pl,hz⟩:=I.tuple (SqT.of h)
  exact ⟨its,false,intsAre_of rv,pl⟩
theorem zu {e:Expr} {te:TE} {p1 p2 pos1 pos2:Pos} (hc:X.calm=true) (hgs:Gl X "len") (hms:X.mg "len"=none) (hgt:Gl X "set") (hmt:X.mg "set"=none) (hbs:bootBuiltins "len"=some (.builtin "len")) (hbt:bootBuiltins "set"=some (.type "set")) (he:PE X e te)
  (hs:starEach [e] X.env=(false,eval e X.env) :: starEach [] X.env:=by rfl)
  (hs2:starEach [Expr.Call (.Name "set" p2) [e] [] pos2] X.env=(false,eval (Expr.Call (.Name "set" p2) [e] [] pos2) X.env) :: starEach [] X.env:=by rfl) :
  PE X (.Call (.Name "len" p1) [.Call (.Name "set" p2) [e] [] pos2] [] pos1) (EC te):=by
 intro pins s σ H Q I h
 refine wpAny_Call_Name_kw (cf I hgs hms hbs ?_)
 rw [hs2]
 refine Calls.callWith_builtin (by show (false || (backTo pos1 (starEach ([]:List Expr) X.env)).any (·.1))=false;rfl) (Calls.evalArgs_plain ?_)
 show wpAny _ _ (spliced ((false,eval (Expr.Call (.Name "set" p2) [e] [] pos2) X.env) :: backTo pos1 (starEach [] X.env))) _ _ s
 refine Calls.spliced_cons ?_
 have hA:=(dR he fU hs) pos2 pins s σ H (fun vs H1=>∃ x,vs=[x]∧∃ (a:Addr) (ns:List Int),x=.ref a∧SqI H1 a ns∧ns.length≤300∧Q (.int (dD ns).length) H1) I (by
  refine cast (congrArg (te σ H) ?_) h
  funext y H2
  refine propext ⟨fun q=>⟨y,rfl,q⟩,fun ⟨y',e',q⟩=>?_⟩
  cases e'
  exact q)
 refine Call_ (cf I hgt hmt hbt (PyProof.Rows.callWith_type1 (thn hA fun us s1 ⟨vs,H1,I1,r1,x,e1,a,ns,e2,hx,hn,q⟩=>?_) hs rfl))
 subst e1 e2
 obtain ⟨u,rfl,rx⟩:=vals1 r1
 cases rx
 obtain ⟨its,k,hI,pl⟩:=hx.at I1
 have hA0:X.A.handled=none:=I.ok.hd hc
 refine sF hA0 k pl (by simpa using hI) hn fun h' tk ks S1 S2 S3=>?_
 refine wpAny_pure ?_
 obtain ⟨o,es,ep,t,pl',g1,g2,g3,g4,g5,g6,g7,g8,⟨g9,g10,g11⟩,g12,g13,g14,g15⟩:=S1
 have lks:es.size=ks.length:=by
  have:=dy g12
  rw [List.length_map,Array.length_toList] at this
  exact this
 refine call_len_set (s:=⟨h',s1.gens,s1.drawn,tk,s1.os⟩) g1 g2 g3 (fits_of g5 (by rw [g8,lks];simpa using g10) (by omega)) (by omega) ?_
 rw [lks,qK g14 S2]
 exact ⟨.int _,H1,I1.kept (t':=tk+1+1) S3,⟨_,rfl⟩,q⟩
def oLS (x:Vl) (S:Sto):R Vl:=match (bJ x S).bind intsOf with
 | some ns=>if ns.length≤300 then .ok (.d (.int (dD ns).length)) S else .bad
 | none=>.bad
theorem zS {K:PySem.W.Frag} {mg:Str→Option Value} {μ:Nat→Addr} {S:Sto} {H:Hp} {v:V} {x:Vl} {ns:List Int} (hr:HR μ S H) (r:aM K mg μ S H v x) (e:(bJ x S).bind intsOf=some ns):∃ a,v=.ref a∧SqI H a ns:=by
 obtain ⟨ds,e1,e2⟩:=Option.bind_eq_some_iff.mp e
 obtain ⟨a,us,rfl,ha,rr⟩:=fF hr r e1
 rw [f7 e2] at rr
 rw [av.jB rr] at ha
 exact ⟨a,rfl,ha⟩
theorem Ce {e:Expr} {xa:XE} {p1 p2 pos1 pos2:Pos} [n:NS e] (hc:X.calm=true) (hgs:Gl X "len") (hms:X.mg "len"=none) (hgt:Gl X "set") (hmt:X.mg "set"=none) (hbs:bootBuiltins "len"=some (.builtin "len")) (hbt:bootBuiltins "set"=some (.type "set")) (he:RE X WE e xa)
  (hs2:starEach [Expr.Call (.Name "set" p2) [e] [] pos2] X.env=(false,eval (Expr.Call (.Name "set" p2) [e] [] pos2) X.env) :: starEach [] X.env:=by rfl) :
  RE X WE (.Call (.Name "len" p1) [.Call (.Name "set" p2) [e] [] pos2] [] pos1) (xUn oLS xa):=
 ⟨(zu hc hgs hms hgt hmt hbs hbt he.h (n.eq _ X.env) hs2).weak fun σ H Q ⟨μ,S,τ,hr,sr,p⟩=>⟨μ,S,τ,hr,sr,p.bind fun v x S1 μ1 H1 st1 r1 p1=>by
  unfold oLS at p1
  split at p1
  ·rename_i ns e1
   split at p1
   ·obtain ⟨a,rfl,sq⟩:=zS st1.hr r1 e1
    exact ⟨a,ns,rfl,sq,‹_›,p1.here st1.hr (Rep.int _)⟩
   ·exact p1.elim
  ·exact p1.elim⟩⟩
end
def b6 (k:Nat):List D→List Vl
 | []=>[]
 | x :: xs=>.d (.tup [.int k,x]) :: b6 (k+1) xs
theorem dQ:∀ (k:Nat) (xs:List D),(b6 k xs).length=xs.length
 | _,[]=>rfl
 | k,x :: xs=>by simp [b6,dQ (k+1) xs]
theorem cR:∀ (k:Nat) (xs:List D) (i:Nat),(b6 k xs)[i]?=(xs[i]?).map fun x=>Vl.d (.tup [.int ((k+i:Nat):Int),x])
 | _,[],_=>by simp [b6]
 | k,x :: xs,0=>by simp [b6]
 | k,x :: xs,i+1=>by
  simp only [b6,List.getElem?_cons_succ,cR (k+1) xs i]
  congr 1
  funext z
  rw [show k+1+i=k+(i+1) by omega]
def v8 (e:XE):XI:=fun τ S=>(e τ S).bind fun z S1=>match z with
 | .d (.lst xs)=>.ok ⟨b6 0 xs,none⟩ S1
 | _=>.bad
section
variable {X:Cx} {WE:WX} {K:PySem.W.Frag} {mg:Str→Option Value} {μ:Nat→Addr} {S:Sto} {H:Hp}
theorem uQ {a:Addr} {vs:List V} {xs:List D} (g:vh μ S H a=some (.lst vs)) (rs:av (vh μ S H) vs xs) (hz:vs.length≤sizeLine):fe K mg μ S H (Ite K a) ⟨b6 0 xs,none⟩ where
 ok:=True.intro
 len:=by simp only [dQ];rw [← rs.length];exact hz
 go:=fun i z μ' S' H' st _ e=>by
  rw [cR] at e
  cases q:xs[i]? with
  | none=>rw [q] at e;cases e
  | some x=>
   obtain ⟨u,e2,_⟩:=rs.get' q
   exact ⟨vs,u,SqL.of (aO (st.vis _ _ g)).2,e2⟩
 yld:=fun i z μ' S' H' u H2 st _ e y=>by
  obtain ⟨p,w,hp,rfl,rfl,y⟩:=y
  rw [cR] at e
  cases q:xs[i]? with
  | none=>rw [q] at e;cases e
  | some x=>
   rw [q] at e
   cases e
   have e2:=y vs (SqL.of (aO (st.vis _ _ g)).2)
   obtain ⟨x',e3,r⟩:=rs.get e2
   rw [q] at e3;cases e3
   have st2:=Step.new st.hr hp (.tup [.int i,w])
   refine ⟨st2,Rep.tup (bO bV (st.hr.nal hp)) (.cons ?_ (.cons (Rep.mono (st.trans st2).vis r) .nil))⟩
   rw [Nat.zero_add]
   exact .int _
 stop:=fun i μ' S' H' st _ hi=>⟨vs,SqL.of (aO (st.vis _ _ g)).2,by rw [rs.length];rw [dQ] at hi;exact Nat.le_of_eq hi⟩
end
section
variable {X:Cx} {WE:WX}
theorem uy {es:List Expr} {kk:Nat} {tp:Pos} {l:Expr} {xl:XE} {p pos:Pos} (hg:Gl X "enumerate") (hm:X.mg "enumerate"=none) (hl:RE X WE l xl) (hb:bootBuiltins "enumerate"=some (.type "enumerate"):=by decide +kernel)
  (hs:starEach [l] X.env=[(false,eval l X.env)]:=by rfl):RI X WE (.Tuple es kk tp) (.Call (.Name "enumerate" p) [l] [] pos) (v8 xl):=⟨by
 intro pins s σ H R I h
 obtain ⟨μ,S,τ,hr,sr,pp⟩:=h
 refine Call_ (cf I hg hm hb (PyProof.Rows.callWith_type1 (thn ((dR hl.h fU hs) pos pins s σ H (fun vs H1=>∃ x,vs=[x]∧∃ μ1 S1 z,HR μ1 S1 H1∧aM X.K X.mg μ1 S1 H1 x z∧aJ (fe X.K X.mg) WE μ1 S1 H1 (match z with
   | .d (.lst xs)=>.ok ⟨b6 0 xs,none⟩ S1
   | _=>.bad) R) I ?_) fun us s1 ⟨vs,H1,I1,r1,q1⟩=>?_) hs rfl))
 ·exact ⟨μ,S,τ,hr,sr,pp.bind fun v x S1 μ1 H1 st1 r1 p1=>⟨v,rfl,μ1,S1,x,st1.hr,r1,p1⟩⟩
 ·obtain ⟨x,e,μ1,S1,z,hr1,rz,p1⟩:=q1
  subst e
  obtain ⟨u,rfl,ru⟩:=vals1 r1
  split at p1
  ·cases (show Rep (vh μ1 S1 H1) x (.lst _) from rz) with
   | @lst a us _ g rs=>
    cases ru
    have hq:SqL X.K H1 a us:=SqL.of (aO g).2
    obtain ⟨its,rv,pl,hz⟩:=I1.list hq
    have q:=p1.here hr1 (uQ g rs hz)
    refine call_enumerate_list pl.isList fun h' he hit hsz hk=>?_
    refine wpAny_pyIter_enum (s:={ s1 with heap:=h' }) he ?_
    have I2:Inv X pins σ H1 { s1 with heap:=h' }:=I1.kept (t':=s1.toks) hk
    refine ⟨s1.heap.objs.size+1,[s1.heap.objs.size+1,s1.heap.objs.size],_,_,H1,rfl,I2,sx a _ _ (Nat.succ_ne_self _),⟨⟨_,he⟩,hit⟩,fun b hb=>?_,q⟩
    have hle:s1.heap.objs.size≤b:=by
     rcases List.mem_cons.mp hb with z | z
     ·rw [z];exact Nat.le_succ _
     ·rw [List.mem_singleton.mp z];exact Nat.le_refl _
    exact I1.jS hle (I1.hok.fresh hle)
  ·exact p1.elim⟩
def oK (x:Vl) (lo hi:Option Int) (S:Sto):R Vl:=match x with
 | .sc ns=>.ok (.d (.lst (dh (ns.map D.int) lo hi))) S
 | _=>.bad
theorem tq {e:Expr} {lo hi:Option Expr} {xa:XE} {xl xh:XO} {p2 pos:Pos} (he:RE X WE e xa) (hl:RO X WE lo xl) (hh:RO X WE hi xh):RE X WE (.Subscript e (.Slice lo hi none p2) pos) (xSl oK xa xl xh):=
 ⟨(og pN he.h hl.h hh.h).weak fun σ H Q ⟨μ,S,τ,hr,sr,p⟩=>⟨μ,S,τ,hr,sr,p.bind fun v x S1 μ1 H1 st1 r1 p1=>⟨μ1,S1,τ,st1.hr,sr.step st1,p1.bind fun i i' S2 μ2 H2 st2 r2 p2=>⟨μ2,S2,τ,st2.hr,sr.step (st1.trans st2),p2.bind fun j j' S3 μ3 H3 st3 r3 p3=>by
  cases (show i=i' from r2)
  cases (show j=j' from r3)
  have rv:=r1.step (st2.trans st3)
  unfold oK at p3
  split at p3
  ·rename_i ns
   obtain ⟨l,rfl,hq⟩:=rv
   exact ⟨l,_,rfl,hq.mono fB,fun q hq=>p3.lK st3.hr (jY (av.ints ns) i j) q hq⟩
  ·exact p3.elim⟩⟩⟩⟩
theorem b7 {sts:List Stmt}:RB X WE sts b5:=⟨fun _ _ _ _ _ _ ⟨_,_,_,_,_,p⟩=>p.elim⟩
end
def Df (K:PySem.W.Frag) (mg:Str→Option Value) (x:Str) (st:Stmt):Prop:=∃ (f:Addr) (fd:FuncData),Fun K x x st f fd∧mg x=some (.ref f)
theorem BV {K:PySem.W.Frag} {h:Heap} {mg:Str→Option Value} {x:Str} {st:Stmt} {f:Addr} {oc:Value} {od an:Option Addr} {osl:Array (Option Value)} {kV doc pm cdv ct:Value} (X:K.In h) (G:h.Ns mainGlobals mg) (a:PySem.W.nsIn K mainGlobals x=some (some (.ref f)))
  (l:K.lookup f=some ⟨oc,od,.func (PySem.W.fnOf x x (gJ st) (dO st) (bM st) .none kV doc pm an cdv ct),osl⟩) (c:PySem.W.codeIn K cdv x=true) (k:PySem.W.keepIn K (.ref f)=true):Df K mg x st:=⟨f,_,Br l c k,PySem.W.mg_of X G a⟩
theorem a_ {K:PySem.W.Frag} {mg:Str→Option Value} {P:Program} {w:World} {x:Str} {st:Stmt} {ps:List Str} {lev:Nat} {k n:Nat} {m:XS} {M:XF} (N:List Str) (F:Df K mg x st)
    (hb:∀ (base:Heap) (f:Addr) (cdv:Value) (A:Around) (outer:List Env) (s:Shared) (H:Hp) (E:XK),cE lev (A.deeper (envOfC x (bM st) s.heap.objs.size f cdv))→LQ (bM st) N→RB (jg CX0 P w K mg base N x (bM st) f cdv A outer s H E).nox W0 (dO st) m)
    (hM:M=aN k n m:=by rfl) (hk:ps.length=k:=by rfl) (hn:N.length=n:=by rfl) (Sc:gE N ps (bM st):=by exact ⟨rfl,rfl,rfl,by decide +kernel,rfl,by decide +kernel,by decide +kernel⟩)
    (hbd:∀ (kV doc pm:Value) (an:Option Addr) (cdv ct:Value) (us:List Value),us.length=ps.length→bindArgs (PySem.W.fnOf x x (gJ st) (dO st) (bM st) .none kV doc pm an cdv ct) ⟨us,[]⟩=pure (ps.zip us):=by
      intro _ _ _ _ _ _ us hl
      rcases us with _ | ⟨a,_ | ⟨b,_ | ⟨c,_ | ⟨d,_ | ⟨e,_ | ⟨f,us⟩⟩⟩⟩⟩⟩<;>first | (simp at hl;done) | rfl):OkE P w K mg (lev+1) x ps M:=by
  subst hM hk hn
  obtain ⟨f,fd,F,hm⟩:=F
  refine ⟨f,fd,hm,F.kp,?_,fun base=>Ep F Sc fun cdv A outer s H E hr=>hb base f cdv A outer s H E hr ⟨Sc.nd⟩⟩
  obtain ⟨oc,od,kV,doc,pm,an,cdv,ct,osl,rfl,lk,hcd⟩:=F.ex
  exact hbd kV doc pm an cdv ct
theorem bf {α β:Type} {a:α} {S:Sto} {f:α→Sto→R β}:(R.ok a S).bind f=f a S:=rfl
theorem CG {i:Nat} {z:Vl} {τ:Nv} {S:Sto}:gNm i z τ S=.ok (τ.set i (some z)) S:=rfl
theorem hU {S S':Sto} {z:Vl} {τ:Nv}:leave S (.ok (.rt z,τ) S')=out S z S':=rfl
theorem gO {S S':Sto} {τ:Nv}:leave S (.ok (.nx,τ) S')=out S (.d .non) S':=rfl
theorem fI {S S':Sto} {x:D}:out S (.d x) S'=.ok (.d x) (S'.take S.length):=rfl
theorem kb {k n:Nat} {b:XS} {us:List Vl} {S:Sto} (h:us.length=k):aN k n b us S=leave S (b (us.map some++List.replicate (n - k) none) S):=by unfold aN;rw [if_pos h]
open Classical in
theorem nu {g:XG} {b:XS} {gd:Option (Nat×Ob)}:∀ {items:List Vl} {τ:Nv} {S:Sto} (I:Nat→Nv→Sto→Prop),I 0 τ S →
  (∀ i z τ S,items[i]?=some z→I i τ S→∃ τ1 S1 fl τ2 S2,g z τ S=.ok τ1 S1∧b τ1 S1=.ok (fl,τ2) S2∧(fl=.nx∨fl=.ct)∧gok gd S2∧I (i+1) τ2 S2) →
  ∃ τ' S',cm g b gd items τ S=.ok (.nx,τ') S'∧I items.length τ' S'
 | [],τ,S,I,h0,_=>⟨τ,S,rfl,h0⟩
 | z :: zs,τ,S,I,h0,hs=>by
  obtain ⟨τ1,S1,fl,τ2,S2,e1,e2,hf,hg,hI⟩:=hs 0 z τ S rfl h0
  obtain ⟨τ',S',e3,h3⟩:=nu (items:=zs) (τ:=τ2) (S:=S2) (fun i=>I (i+1)) hI fun i z' τ S hz hi=>hs (i+1) z' τ S (by simpa using hz) hi
  refine ⟨τ',S',?_,h3⟩
  rw [cm,e1,bf,e2,bf]
  rcases hf with rfl | rfl
  ·dsimp only
   rw [if_pos hg];exact e3
  ·dsimp only
   rw [if_pos hg];exact e3
theorem sE {it:XI} {t:XT} {e:XE} {τ:Nv} {S S1:Sto} {items:List Vl} (hit:it τ S=.ok ⟨items,none⟩ S1) (J:Nat→List D→Sto→Prop) (h0:J 0 [] S1)
  (hs:∀ i z acc Q,items[i]?=some z→J i acc Q→Q.length=S1.length→∃ b Q1,t (some z :: τ) (Q++[.lst acc])=.ok b (Q1++[.lst acc])∧Q1.length=S1.length ∧
   (b=true→∃ x Q2,e (some z :: τ) (Q1++[.lst acc])=.ok (.d x) (Q2++[.lst acc])∧Q2.length=S1.length∧J (i+1) (acc++[x]) Q2)∧(b=false→J (i+1) acc Q1)) :
  ∃ acc Q,xLC it 1 (gNm 0) t e τ S=.ok (.d (.lst acc)) Q∧Q.length=S1.length∧J items.length acc Q:=by
 have key:∀ (zs:List Vl) (i:Nat) (acc:List D) (o:Option Vl) (Q:Sto),(∀ j,zs[j]?=items[i+j]?)→J i acc Q→Q.length=S1.length→∃ acc' Q',eZ (gNm 0) t e S1.length none zs acc (o :: τ) (Q++[.lst acc])=.ok acc' (Q'++[.lst acc'])∧Q'.length=S1.length∧J (i+zs.length) acc' Q':=by
  intro zs
  induction zs with
  | nil=>
   intro i acc o Q _ hJ hl
   refine ⟨acc,Q,?_,hl,hJ⟩
   rw [eZ,if_pos]
   rw [← hl,List.getElem?_append_right (Nat.le_refl _)]
   simp
  | cons z zs ih=>
   intro i acc o Q hz hJ hl
   have hz0:items[i]?=some z:=by
    have:=hz 0
    simpa using this.symm
   have hz1:∀ j,zs[j]?=items[i+1+j]?:=fun j=>by
    have:=hz (j+1)
    rw [show i+1+j=i+(j+1) by omega]
    simpa using this
   obtain ⟨b,Q1,e1,l1,ht,hf⟩:=hs i z acc Q hz0 hJ hl
   rw [eZ,CG,bf,show (o :: τ).set 0 (some z)=some z :: τ from rfl,e1,bf]
   cases b with
   | true=>
    obtain ⟨x,Q2,e2,l2,hJ2⟩:=ht rfl
    rw [if_pos rfl,e2,bf]
    dsimp only
    have hn:(Q2++[Ob.lst acc])[S1.length]?=some (.lst acc):=by
     rw [← l2,List.getElem?_append_right (Nat.le_refl _)];simp
    rw [if_pos ⟨hn,True.intro⟩]
    have hset:(Q2++[Ob.lst acc]).set S1.length (.lst (acc++[x]))=Q2++[.lst (acc++[x])]:=by
     rw [← l2,List.set_append_right _ _ (Nat.le_refl _)];simp
    rw [hset]
    obtain ⟨acc',Q',e3,l3,h3⟩:=ih (i+1) (acc++[x]) (some z) Q2 hz1 hJ2 l2
    exact ⟨acc',Q',e3,l3,by rw [show i+(z :: zs).length=i+1+zs.length by simp;omega];exact h3⟩
   | false=>
    rw [if_neg Bool.false_ne_true,if_pos (show gok none (Q1++[Ob.lst acc]) from True.intro)]
    obtain ⟨acc',Q',e3,l3,h3⟩:=ih (i+1) acc (some z) Q1 hz1 (hf rfl) l1
    exact ⟨acc',Q',e3,l3,by rw [show i+(z :: zs).length=i+1+zs.length by simp;omega];exact h3⟩
 obtain ⟨acc,Q,e1,l1,h1⟩:=key items 0 [] none S1 (fun j=>by rw [Nat.zero_add]) h0 rfl
 refine ⟨acc,Q,?_,l1,by rw [Nat.zero_add] at h1;exact h1⟩
 show (it τ S).bind _=_
 rw [hit,bf]
 dsimp only
 rw [show List.replicate 1 (none:Option Vl)++τ=none :: τ from rfl,e1,bf]
 unfold kF
 rw [if_pos (by simp [l1]),← l1,List.take_left]
theorem x_ {it:XI} {t:XT} {e:XE} {τ:Nv} {S S1:Sto} {items:List Vl} (hit:it τ S=.ok ⟨items,none⟩ S1) (f:Vl→Option D)
  (hs:∀ z∈items,∀ S:Sto,(∀ x,f z=some x→t (some z :: τ) S=.ok true S∧e (some z :: τ) S=.ok (.d x) S)∧(f z=none→t (some z :: τ) S=.ok false S)) :
  xLC it 1 (gNm 0) t e τ S=.ok (.d (.lst (items.filterMap f))) S1:=by
 obtain ⟨acc,Q,e1,l1,h1⟩:=sE (t:=t) (e:=e) hit (fun i acc Q=>acc=(items.take i).filterMap f∧Q=S1) ⟨rfl,rfl⟩ (by
  rintro i z acc Q hz ⟨rfl,rfl⟩ _
  have hm:=List.mem_of_getElem? hz
  have ht:items.take (i+1)=items.take i++[z]:=by rw [List.take_add_one,hz];rfl
  obtain ⟨h1,h2⟩:=hs z hm (Q++[.lst ((items.take i).filterMap f)])
  cases q:f z with
  | some x=>
   obtain ⟨h3,h4⟩:=h1 x q
   refine ⟨true,Q,h3,rfl,fun _=>⟨x,Q,h4,rfl,?_,rfl⟩,fun z=>(by cases z)⟩
   rw [ht,List.filterMap_append]
   simp [q]
  | none=>
   refine ⟨false,Q,h2 q,rfl,fun z=>(by cases z),fun _=>⟨?_,rfl⟩⟩
   rw [ht,List.filterMap_append]
   simp [q])
 obtain ⟨rfl,rfl⟩:=h1
 rw [List.take_length] at e1
 exact e1
theorem nP {it:XI} {e:XE} {τ:Nv} {S S1:Sto} {items:List Vl} (hit:it τ S=.ok ⟨items,none⟩ S1) (f:Vl→D) (hs:∀ z∈items,∀ S:Sto,e (some z :: τ) S=.ok (.d (f z)) S) :
  xLC it 1 (gNm 0) (fun _ S=>.ok true S) e τ S=.ok (.d (.lst (items.map f))) S1:=by
 have:=x_ (t:=fun _ S=>.ok true S) (e:=e) hit (fun z=>some (f z)) fun z hz S=>⟨fun x hx=>⟨rfl,by cases hx;exact hs z hz S⟩,fun h=>by cases h⟩
 rw [this]
 congr 4
 rw [List.filterMap_eq_map']
end L2
namespace L2
section
variable {n:Nat} {b:XS} {x y z u v:Vl} {S:Sto}
theorem cg:aN 1 n b [x] S=leave S (b ([some x]++List.replicate (n - 1) none) S):=kb rfl
theorem dC:aN 2 n b [x,y] S=leave S (b ([some x,some y]++List.replicate (n - 2) none) S):=kb rfl
theorem cS:aN 3 n b [x,y,z] S=leave S (b ([some x,some y,some z]++List.replicate (n - 3) none) S):=kb rfl
theorem fX:aN 4 n b [x,y,z,u] S=leave S (b ([some x,some y,some z,some u]++List.replicate (n - 4) none) S):=kb rfl
theorem ub:aN 5 n b [x,y,z,u,v] S=leave S (b ([some x,some y,some z,some u,some v]++List.replicate (n - 5) none) S):=kb rfl
end
end L2
theorem L2.af {α:Sort _} {a b:α} (h:a=b):a=b:=h
namespace L2
open PySem PySem.Spec PyProof.Rows
def A7 (f:Vl→Vl→Sto→R Vl) (r:R Vl) (b:XE) (τ:Nv):R Vl:=r.bind fun x S1=>(b τ S1).bind fun y S2=>f x y S2
def vt (f:Vl→Vl→Sto→R Vl) (x:Vl) (r:R Vl):R Vl:=r.bind fun y S2=>f x y S2
def un1 (f:Vl→Sto→R Vl) (r:R Vl):R Vl:=r.bind fun x S1=>f x S1
def ch3 (r:R Vl) (f:Vl→Vl→Sto→R Vl) (y:Vl) (c:XE) (τ:Nv):R Vl:=r.bind fun z S3=>match z with
 | .d (.bl k)=>if k=true then (c τ S3).bind fun w S4=>f y w S4 else .ok (.d (.bl false)) S3
 | _=>.bad
def ch2 (f f2:Vl→Vl→Sto→R Vl) (x:Vl) (r:R Vl) (c:XE) (τ:Nv):R Vl:=r.bind fun y S2=>ch3 (f x y S2) f2 y c τ
def ch1 (f f2:Vl→Vl→Sto→R Vl) (r:R Vl) (b c:XE) (τ:Nv):R Vl:=r.bind fun x S1=>ch2 f f2 x (b τ S1) c τ
def t1 (r:R Vl):R Bool:=r.bind asB
def tr1 (r:R Vl):R Bool:=r.bind tru
def vx (r:R Bool) (b:XT) (τ:Nv):R Bool:=r.bind fun c S1=>if c=true then b τ S1 else .ok false S1
def or1 (r:R Bool) (b:XT) (τ:Nv):R Bool:=r.bind fun c S1=>if c=true then .ok true S1 else b τ S1
def Ay (r:R Bool):R Bool:=r.bind fun c S1=>.ok (!c) S1
def qM (r:R Vl) (b:XE) (τ:Nv):R Vl:=r.bind fun x S1=>(asB x S1).bind fun c S2=>if c=true then b τ S2 else .ok (.d (.bl false)) S2
def ve (r:R Vl) (b:XE) (τ:Nv):R Vl:=r.bind fun x S1=>(asB x S1).bind fun c S2=>if c=true then .ok (.d (.bl true)) S2 else b τ S2
def wY (r:R Vl):R Vl:=r.bind fun x S1=>(asB x S1).bind fun c S2=>.ok (.d (.bl (!c))) S2
def u6 (r:R Bool) (a b:XE) (τ:Nv):R Vl:=r.bind fun k S1=>if k=true then a τ S1 else b τ S1
def co2 (x:Vl) (r:R (List Vl)):R (List Vl):=r.bind fun xs S2=>.ok (x :: xs) S2
def co1 (r:R Vl) (t:XA) (τ:Nv):R (List Vl):=r.bind fun x S1=>co2 x (t τ S1)
def n1 (f:List Vl→Sto→R Vl) (r:R (List Vl)):R Vl:=r.bind f
def c1 (F:XF) (r:R (List Vl)):R Vl:=r.bind fun us S1=>noX (F us S1)
def fz1 (r:R Vl):R Vl:=r.bind frz
def p1 (r:R Vl):R (Option Int):=r.bind fun x S1=>match x with
 | .d (.int i)=>.ok (some i) S1
 | _=>.bad
def sl3 (f:Vl→Option Int→Option Int→Sto→R Vl) (x:Vl) (i:Option Int) (r:R (Option Int)):R Vl:=r.bind fun j S3=>f x i j S3
def sl2 (f:Vl→Option Int→Option Int→Sto→R Vl) (x:Vl) (r:R (Option Int)) (h:XO) (τ:Nv):R Vl:=r.bind fun i S2=>sl3 f x i (h τ S2)
def sl1 (f:Vl→Option Int→Option Int→Sto→R Vl) (r:R Vl) (l h:XO) (τ:Nv):R Vl:=r.bind fun x S1=>sl2 f x (l τ S1) h τ
def lm4 (f:Nat→List D→D→Sto→R Vl) (n:Nat) (o:Option Ob) (z:D) (S:Sto):R Vl:=match o with
 | some (.lst xs)=>f n xs z S
 | _=>.bad
def lm3 (f:Nat→List D→D→Sto→R Vl) (n:Nat) (r:R Vl):R Vl:=r.bind fun y S2=>match y with
 | .d z=>lm4 f n S2[n]? z S2
 | _=>.bad
def lm2 (f:Nat→List D→D→Sto→R Vl) (n:Nat) (o:Option Ob) (e:XE) (τ:Nv) (S:Sto):R Vl:=match o with
 | some (.lst _)=>lm3 f n (e τ S)
 | _=>.bad
def lm1 (f:Nat→List D→D→Sto→R Vl) (r:R Vl) (e:XE) (τ:Nv):R Vl:=r.bind fun x S1=>match x with
 | .r n=>lm2 f n S1[n]? e τ S1
 | _=>.bad
def sq1 (r:R (Fl×Nv)) (b:XS):R (Fl×Nv):=r.bind fun q S1=>match q.1 with
 | .nx=>b q.2 S1
 | _=>.ok q S1
def ex1 (r:R Vl) (τ:Nv):R (Fl×Nv):=r.bind fun _ S1=>.ok (.nx,τ) S1
def rt1 (r:R Vl) (τ:Nv):R (Fl×Nv):=r.bind fun z S1=>.ok (.rt z,τ) S1
def if1 (r:R Bool) (a b:XS) (τ:Nv):R (Fl×Nv):=r.bind fun k S1=>if k=true then a τ S1 else b τ S1
def as2 (r:R Nv):R (Fl×Nv):=r.bind fun τ1 S2=>.ok (.nx,τ1) S2
def as1 (r:R Vl) (g:XG) (τ:Nv):R (Fl×Nv):=r.bind fun z S1=>as2 (g z τ S1)
def gc1 (r:R Nv) (gs:XGs) (zs:List Vl):R Nv:=r.bind fun τ1 S1=>gs zs τ1 S1
def gs3 (r:R Unit) (τ:Nv):R Nv:=r.bind fun _ S3=>.ok τ S3
def gs2 (x:Vl) (r:R Vl) (f:Vl→Vl→Vl→Sto→R Unit) (z:Vl) (τ:Nv):R Nv:=r.bind fun y S2=>gs3 (f x y z S2) τ
def gs1 (r:R Vl) (i:XE) (f:Vl→Vl→Vl→Sto→R Unit) (z:Vl) (τ:Nv):R Nv:=r.bind fun x S1=>gs2 x (i τ S1) f z τ
noncomputable def fo1 (r:R Its) (g:XG) (b:XS) (τ:Nv):R (Fl×Nv):=r.bind fun I S1=>cm g b I.gd I.items τ S1
def is2 (n:Nat) (o:Option Ob) (S:Sto):R Its:=match o with
 | some (.lst xs)=>.ok ⟨xs.map Vl.d,some (n,.lst xs)⟩ S
 | _=>.bad
def is1 (r:R Vl):R Its:=r.bind fun z S1=>match z with
 | .d (.tup xs)=>.ok ⟨xs.map Vl.d,none⟩ S1
 | .d (.lst xs)=>.ok ⟨xs.map Vl.d,none⟩ S1
 | .r n=>is2 n S1[n]? S1
 | _=>.bad
def ir1 (r:R (List Vl)):R Its:=r.bind fun zs S1=>match zs with
 | [.d (.int j)]=>if -100000≤j∧j≤100000 then .ok ⟨(List.range j.toNat).map fun i=>Vl.d (.int (i:Nat)),none⟩ S1 else .bad
 | _=>.bad
def ir2 (r:R (List Vl)):R Its:=r.bind fun zs S1=>match zs with
 | [.d (.int i),.d (.int j)]=>if (-100000≤i∧i≤100000)∧-100000≤j∧j≤100000 then .ok ⟨(List.range (j - i).toNat).map fun k=>Vl.d (.int (i+(k:Nat))),none⟩ S1 else .bad
 | _=>.bad
def ie1 (r:R Vl):R Its:=r.bind fun z S1=>match z with
 | .d (.lst xs)=>.ok ⟨b6 0 xs,none⟩ S1
 | _=>.bad
theorem w8 {v:Vl} {τ:Nv} {S:Sto}:aa 0 (some v :: τ) S=.ok v S:=af rfl
theorem wI {n:Nat} {o:Option Vl} {τ:Nv} {S:Sto}:aa (n+1) (o :: τ) S=aa n τ S:=af rfl
theorem Ac {x:D} {τ:Nv} {S:Sto}:xC x τ S=.ok (.d x) S:=af rfl
theorem C3 {x:Str} {τ:Nv} {S:Sto}:xFn x τ S=.ok (.fn x) S:=af rfl
theorem Cb {f:Vl→Vl→Sto→R Vl} {a b:XE} {τ:Nv} {S:Sto}:xOp f a b τ S=A7 f (a τ S) b τ:=af rfl
theorem zH {f:Vl→Vl→Sto→R Vl} {b:XE} {τ:Nv} {S1:Sto} {x:Vl}:A7 f (.ok x S1) b τ=vt f x (b τ S1):=af rfl
theorem zM {f:Vl→Vl→Sto→R Vl} {S1:Sto} {x y:Vl}:vt f x (.ok y S1)=f x y S1:=af rfl
theorem C9 {u:Vl→Sto→R Vl} {a:XE} {τ:Nv} {S:Sto}:xUn u a τ S=un1 u (a τ S):=af rfl
theorem Cm {u:Vl→Sto→R Vl} {S1:Sto} {x:Vl}:un1 u (.ok x S1)=u x S1:=af rfl
theorem vg {f f2:Vl→Vl→Sto→R Vl} {a b c:XE} {τ:Nv} {S:Sto}:eR f f2 a b c τ S=ch1 f f2 (a τ S) b c τ:=af rfl
theorem Dk {f f2:Vl→Vl→Sto→R Vl} {b c:XE} {τ:Nv} {S1:Sto} {x:Vl}:ch1 f f2 (.ok x S1) b c τ=ch2 f f2 x (b τ S1) c τ:=af rfl
theorem CM {f f2:Vl→Vl→Sto→R Vl} {c:XE} {τ:Nv} {S1:Sto} {x y:Vl}:ch2 f f2 x (.ok y S1) c τ=ch3 (f x y S1) f2 y c τ:=af rfl
theorem AV {f:Vl→Vl→Sto→R Vl} {c:XE} {τ:Nv} {S1:Sto} {y:Vl}:ch3 (.ok (.d (.bl true)) S1) f y c τ=vt f y (c τ S1):=af rfl
theorem Bo {f:Vl→Vl→Sto→R Vl} {c:XE} {τ:Nv} {S1:Sto} {y:Vl}:ch3 (.ok (.d (.bl false)) S1) f y c τ=.ok (.d (.bl false)) S1:=af rfl
theorem yK {a:XE} {τ:Nv} {S:Sto}:aR a τ S=t1 (a τ S):=af rfl
theorem El {k:Bool} {S:Sto}:t1 (.ok (.d (.bl k)) S)=.ok k S:=af rfl
theorem zj {a:XE} {τ:Nv} {S:Sto}:du a τ S=tr1 (a τ S):=af rfl
theorem Ct {z:Vl} {S:Sto}:tr1 (.ok z S)=tru z S:=af rfl
theorem Ds {k:Bool} {S:Sto}:tru (.d (.bl k)) S=.ok k S:=af rfl
theorem BX {xs:List D} {S:Sto}:tru (.d (.tup xs)) S=.ok (!xs.isEmpty) S:=af rfl
theorem B9 {xs:List D} {S:Sto}:tru (.d (.lst xs)) S=.ok (!xs.isEmpty) S:=af rfl
theorem CF {S:Sto}:tru (.d .non) S=.ok false S:=af rfl
theorem Ah {a b:XT} {τ:Nv} {S:Sto}:rh a b τ S=vx (a τ S) b τ:=af rfl
theorem yZ {b:XT} {τ:Nv} {S:Sto}:vx (.ok true S) b τ=b τ S:=af rfl
theorem yW {b:XT} {τ:Nv} {S:Sto}:vx (.ok false S) b τ=.ok false S:=af rfl
theorem CL {a b:XT} {τ:Nv} {S:Sto}:xOr a b τ S=or1 (a τ S) b τ:=af rfl
theorem Dh {b:XT} {τ:Nv} {S:Sto}:or1 (.ok true S) b τ=.ok true S:=af rfl
theorem CT {b:XT} {τ:Nv} {S:Sto}:or1 (.ok false S) b τ=b τ S:=af rfl
theorem z_ {a:XT} {τ:Nv} {S:Sto}:c5 a τ S=Ay (a τ S):=af rfl
theorem Av {S:Sto} {k:Bool}:Ay (.ok k S)=.ok (!k) S:=af rfl
theorem xB {a b:XE} {τ:Nv} {S:Sto}:cu a b τ S=qM (a τ S) b τ:=af rfl
theorem yG {b:XE} {τ:Nv} {S:Sto}:qM (.ok (.d (.bl true)) S) b τ=b τ S:=af rfl
theorem yC {b:XE} {τ:Nv} {S:Sto}:qM (.ok (.d (.bl false)) S) b τ=.ok (.d (.bl false)) S:=af rfl
theorem z0 {a b:XE} {τ:Nv} {S:Sto}:v_ a b τ S=ve (a τ S) b τ:=af rfl
theorem zJ {b:XE} {τ:Nv} {S:Sto}:ve (.ok (.d (.bl true)) S) b τ=.ok (.d (.bl true)) S:=af rfl
theorem y8 {b:XE} {τ:Nv} {S:Sto}:ve (.ok (.d (.bl false)) S) b τ=b τ S:=af rfl
theorem xg {a:XE} {τ:Nv} {S:Sto}:qc a τ S=wY (a τ S):=af rfl
theorem xk {k:Bool} {S:Sto}:wY (.ok (.d (.bl k)) S)=.ok (.d (.bl (!k))) S:=af rfl
theorem BO {c:XT} {a b:XE} {τ:Nv} {S:Sto}:EG c a b τ S=u6 (c τ S) a b τ:=af rfl
theorem A4 {a b:XE} {τ:Nv} {S:Sto}:u6 (.ok true S) a b τ=a τ S:=af rfl
theorem zI {a b:XE} {τ:Nv} {S:Sto}:u6 (.ok false S) a b τ=b τ S:=af rfl
theorem tE {τ:Nv} {S:Sto}:ak τ S=.ok [] S:=af rfl
theorem pE {a:XE} {r:XA} {τ:Nv} {S:Sto}:ab a r τ S=co1 (a τ S) r τ:=af rfl
theorem wz {r:XA} {τ:Nv} {S:Sto} {x:Vl}:co1 (.ok x S) r τ=co2 x (r τ S):=af rfl
theorem wL {S:Sto} {x:Vl} {xs:List Vl}:co2 x (.ok xs S)=.ok (x :: xs) S:=af rfl
theorem DS {r:XA} {τ:Nv} {S:Sto} {f:List Vl→Sto→R Vl}:xN f r τ S=n1 f (r τ S):=af rfl
theorem D3 {S:Sto} {xs:List Vl} {f:List Vl→Sto→R Vl}:n1 f (.ok xs S)=f xs S:=af rfl
theorem pV {r:XA} {τ:Nv} {S:Sto} {F:XF}:ay F r τ S=c1 F (r τ S):=af rfl
theorem AW {S:Sto} {xs:List Vl} {F:XF}:c1 F (.ok xs S)=noX (F xs S):=af rfl
theorem wx {x:Vl} {S:Sto}:noX (R.ok x S)=.ok x S:=af rfl
theorem Cu {a:XE} {τ:Nv} {S:Sto}:xFz a τ S=fz1 (a τ S):=af rfl
theorem Dl {z:Vl} {S:Sto}:fz1 (.ok z S)=frz z S:=af rfl
theorem Ba {x:D} {S:Sto}:frz (.d x) S=.ok (.d x) S:=af rfl
theorem tM {τ:Nv} {S:Sto}:cD τ S=.ok none S:=af rfl
theorem yO {a:XE} {τ:Nv} {S:Sto}:de a τ S=p1 (a τ S):=af rfl
theorem EJ {i:Int} {S:Sto}:p1 (.ok (.d (.int i)) S)=.ok (some i) S:=af rfl
theorem Cd {f:Vl→Option Int→Option Int→Sto→R Vl} {a:XE} {l h:XO} {τ:Nv} {S:Sto}:xSl f a l h τ S=sl1 f (a τ S) l h τ:=af rfl
theorem CD {f:Vl→Option Int→Option Int→Sto→R Vl} {l h:XO} {τ:Nv} {S:Sto} {x:Vl}:sl1 f (.ok x S) l h τ=sl2 f x (l τ S) h τ:=af rfl
theorem CB {f:Vl→Option Int→Option Int→Sto→R Vl} {h:XO} {τ:Nv} {S:Sto} {x:Vl} {i:Option Int}:sl2 f x (.ok i S) h τ=sl3 f x i (h τ S):=af rfl
theorem Cc {f:Vl→Option Int→Option Int→Sto→R Vl} {S:Sto} {x:Vl} {i j:Option Int}:sl3 f x i (.ok j S)=f x i j S:=af rfl
theorem CC {f:Nat→List D→D→Sto→R Vl} {o e:XE} {τ:Nv} {S:Sto}:xLm f o e τ S=lm1 f (o τ S) e τ:=af rfl
theorem CO {f:Nat→List D→D→Sto→R Vl} {e:XE} {τ:Nv} {S:Sto} {n:Nat}:lm1 f (.ok (.r n) S) e τ=lm2 f n S[n]? e τ S:=af rfl
theorem Cg {f:Nat→List D→D→Sto→R Vl} {e:XE} {τ:Nv} {S:Sto} {n:Nat} {xs:List D}:lm2 f n (some (.lst xs)) e τ S=lm3 f n (e τ S):=af rfl
theorem Dp {f:Nat→List D→D→Sto→R Vl} {S:Sto} {n:Nat} {z:D}:lm3 f n (.ok (.d z) S)=lm4 f n S[n]? z S:=af rfl
theorem CS {f:Nat→List D→D→Sto→R Vl} {S:Sto} {n:Nat} {xs:List D} {z:D}:lm4 f n (some (.lst xs)) z S=f n xs z S:=af rfl
theorem ll {τ:Nv} {S:Sto}:aS τ S=.ok (.nx,τ) S:=af rfl
theorem nC {a b:XS} {τ:Nv} {S:Sto}:az a b τ S=sq1 (a τ S) b:=af rfl
theorem ig {b:XS} {τ:Nv} {S:Sto}:sq1 (.ok (.nx,τ) S) b=b τ S:=af rfl
theorem Cj {b:XS} {τ:Nv} {S:Sto} {v:Vl}:sq1 (.ok (.rt v,τ) S) b=.ok (.rt v,τ) S:=af rfl
theorem BW {b:XS} {τ:Nv} {S:Sto}:sq1 (.ok (.bk,τ) S) b=.ok (.bk,τ) S:=af rfl
theorem C7 {b:XS} {τ:Nv} {S:Sto}:sq1 (.ok (.ct,τ) S) b=.ok (.ct,τ) S:=af rfl
theorem xG {τ:Nv} {S:Sto} {e:XE}:ed e τ S=ex1 (e τ S) τ:=af rfl
theorem Ci {τ:Nv} {S:Sto} {z:Vl}:ex1 (.ok z S) τ=.ok (.nx,τ) S:=af rfl
theorem zg {τ:Nv} {S:Sto} {e:XE}:aE e τ S=rt1 (e τ S) τ:=af rfl
theorem CP {τ:Nv} {S:Sto} {z:Vl}:rt1 (.ok z S) τ=.ok (.rt z,τ) S:=af rfl
theorem xy {τ:Nv} {S:Sto}:Dn τ S=.ok (.rt (.d .non),τ) S:=af rfl
theorem xf {τ:Nv} {S:Sto}:CK τ S=.ok (.ct,τ) S:=af rfl
theorem vB {τ:Nv} {S:Sto}:Bf τ S=.ok (.bk,τ) S:=af rfl
theorem wV {a b:XS} {τ:Nv} {S:Sto} {t:XT}:xIf t a b τ S=if1 (t τ S) a b τ:=af rfl
theorem zt {a b:XS} {τ:Nv} {S:Sto}:if1 (.ok true S) a b τ=a τ S:=af rfl
theorem ox {a b:XS} {τ:Nv} {S:Sto}:if1 (.ok false S) a b τ=b τ S:=af rfl
theorem oi {τ:Nv} {S:Sto} {e:XE} {g:XG}:aK e g τ S=as1 (e τ S) g τ:=af rfl
theorem mN {τ:Nv} {S:Sto} {z:Vl} {g:XG}:as1 (.ok z S) g τ=as2 (g z τ S):=af rfl
theorem ke {τ1:Nv} {S:Sto}:as2 (.ok τ1 S)=.ok (.nx,τ1) S:=af rfl
theorem kg {τ:Nv} {S:Sto} {z:Vl} {i:Nat}:gNm i z τ S=.ok (τ.set i (some z)) S:=af rfl
theorem C_ {gs:XGs} {τ:Nv} {S:Sto} {xs:List D} {n:Nat}:gTu n gs (.d (.tup xs)) τ S=if xs.length=n then gs (xs.map Vl.d) τ S else .bad:=af rfl
theorem BY {τ:Nv} {S:Sto}:gN0 [] τ S=.ok τ S:=af rfl
theorem Dm {g:XG} {gs:XGs} {τ:Nv} {S:Sto} {z:Vl} {zs:List Vl}:gCo g gs (z :: zs) τ S=gc1 (g z τ S) gs zs:=af rfl
theorem DA {gs:XGs} {τ1:Nv} {S:Sto} {zs:List Vl}:gc1 (.ok τ1 S) gs zs=gs zs τ1 S:=af rfl
theorem wX {τ:Nv} {S:Sto} {z:Vl} {o e:XE} {f:Vl→Vl→Vl→Sto→R Unit}:gSb o e f z τ S=gs1 (o τ S) e f z τ:=af rfl
theorem wK {τ:Nv} {S:Sto} {z x:Vl} {e:XE} {f:Vl→Vl→Vl→Sto→R Unit}:gs1 (.ok x S) e f z τ=gs2 x (e τ S) f z τ:=af rfl
theorem w6 {τ:Nv} {S:Sto} {z x y:Vl} {f:Vl→Vl→Vl→Sto→R Unit}:gs2 x (.ok y S) f z τ=gs3 (f x y z S) τ:=af rfl
theorem rL {τ:Nv} {S:Sto}:gs3 (.ok () S) τ=.ok τ S:=af rfl
theorem nj {it:XI} {g:XG} {b:XS} {τ:Nv} {S:Sto}:gu it g b τ S=fo1 (it τ S) g b τ:=af rfl
theorem qV {g:XG} {b:XS} {τ:Nv} {S:Sto} {I:Its}:fo1 (.ok I S) g b τ=cm g b I.gd I.items τ S:=af rfl
theorem nJ {τ:Nv} {S:Sto} {e:XE}:b8 e τ S=is1 (e τ S):=af rfl
theorem se {S:Sto} {xs:List D}:is1 (.ok (.d (.tup xs)) S)=.ok ⟨xs.map Vl.d,none⟩ S:=af rfl
theorem tD {S:Sto} {xs:List D}:is1 (.ok (.d (.lst xs)) S)=.ok ⟨xs.map Vl.d,none⟩ S:=af rfl
theorem Bu {S:Sto} {n:Nat}:is1 (.ok (.r n) S)=is2 n S[n]? S:=af rfl
theorem DJ {S:Sto} {xs:List D} {n:Nat}:is2 n (some (.lst xs)) S=.ok ⟨xs.map Vl.d,some (n,.lst xs)⟩ S:=af rfl
theorem zQ {τ:Nv} {S:Sto} {as:XA}:lj as τ S=ir1 (as τ S):=af rfl
theorem Ao {τ:Nv} {S:Sto} {as:XA}:uM as τ S=ir2 (as τ S):=af rfl
theorem A_ {τ:Nv} {S:Sto} {e:XE}:v8 e τ S=ie1 (e τ S):=af rfl
theorem B3 {S:Sto} {xs:List D}:ie1 (.ok (.d (.lst xs)) S)=.ok ⟨b6 0 xs,none⟩ S:=af rfl
theorem DL {j:Int} {S:Sto} (h:-100000≤j∧j≤100000):ir1 (.ok [.d (.int j)] S)=.ok ⟨(List.range j.toNat).map fun i=>Vl.d (.int (i:Nat)),none⟩ S:=by rw [show ir1 (.ok [.d (.int j)] S)=if -100000≤j∧j≤100000 then .ok ⟨(List.range j.toNat).map fun i=>Vl.d (.int (i:Nat)),none⟩ S else .bad from rfl,if_pos h]
theorem wq {i j:Int} {S:Sto} (h:(-100000≤i∧i≤100000)∧-100000≤j∧j≤100000):ir2 (.ok [.d (.int i),.d (.int j)] S)=.ok ⟨(List.range (j - i).toNat).map fun k=>Vl.d (.int (i+(k:Nat))),none⟩ S:=by rw [show ir2 (.ok [.d (.int i),.d (.int j)] S)=if (-100000≤i∧i≤100000)∧-100000≤j∧j≤100000 then .ok ⟨(List.range (j - i).toNat).map fun k=>Vl.d (.int (i+(k:Nat))),none⟩ S else .bad from rfl,if_pos h]
theorem Ez {i j:Int} {S:Sto} {g:Int→Int→D}:oI0 g (.d (.int i)) (.d (.int j)) S=.ok (.d (g i j)) S:=af rfl
theorem zW {i j:Int} {S:Sto}:bh (.d (.int i)) (.d (.int j)) S=.ok (.d (.int (i+j))) S:=af rfl
theorem B5 {i:Int} {S:Sto}:nh (.d (.int i)) S=.ok (.d (.int (-i))) S:=af rfl
theorem kK {S:Sto} {xs ys:List D} (h:xs.length+ys.length≤100000):bh (.d (.tup xs)) (.d (.tup ys)) S=.ok (.d (.tup (xs++ys))) S:=by rw [show bh (.d (.tup xs)) (.d (.tup ys)) S=if xs.length+ys.length≤100000 then .ok (.d (.tup (xs++ys))) S else .bad from rfl,if_pos h]
theorem tK {S:Sto} {xs ys:List D} (h:xs.length+ys.length≤100000):bh (.d (.lst xs)) (.d (.lst ys)) S=.ok (.d (.lst (xs++ys))) S:=by rw [show bh (.d (.lst xs)) (.d (.lst ys)) S=if xs.length+ys.length≤100000 then .ok (.d (.lst (xs++ys))) S else .bad from rfl,if_pos h]
theorem Dg {i j:Int} {S:Sto}:oEq (.d (.int i)) (.d (.int j)) S=.ok (.d (.bl (decide (i=j)))) S:=af rfl
theorem Cy {i j:Int} {S:Sto}:oNe (.d (.int i)) (.d (.int j)) S=.ok (.d (.bl (!decide (i=j)))) S:=af rfl
theorem C8 {S:Sto} {s t:Str}:oEq (.d (.str s)) (.d (.str t)) S=.ok (.d (.bl (decide (s=t)))) S:=af rfl
theorem CQ {S:Sto} {s t:Str}:oNe (.d (.str s)) (.d (.str t)) S=.ok (.d (.bl (!decide (s=t)))) S:=af rfl
theorem CI {S:Sto} {p q:Bool}:oEq (.d (.bl p)) (.d (.bl q)) S=.ok (.d (.bl (decide (p=q)))) S:=af rfl
theorem Dv {S:Sto} {p q:Bool}:oNe (.d (.bl p)) (.d (.bl q)) S=.ok (.d (.bl (!decide (p=q)))) S:=af rfl
theorem DB {S:Sto} {p q:Bool}:oIs (.d (.bl p)) (.d (.bl q)) S=.ok (.d (.bl (p == q))) S:=af rfl
theorem zV {S:Sto}:oIs (.d .non) (.d .non) S=.ok (.d (.bl true)) S:=af rfl
theorem Bn {S:Sto} {xs:List D}:oIs (.d (.tup xs)) (.d .non) S=.ok (.d (.bl false)) S:=af rfl
theorem zY {S:Sto} {xs:List D}:oIs (.d (.lst xs)) (.d .non) S=.ok (.d (.bl false)) S:=af rfl
theorem zO {i:Int} {S:Sto}:oIs (.d (.int i)) (.d .non) S=.ok (.d (.bl false)) S:=af rfl
theorem vU {S:Sto}:mM (.d .non) (.d .non) S=.ok (.d (.bl false)) S:=af rfl
theorem vC {S:Sto} {xs:List D}:mM (.d (.tup xs)) (.d .non) S=.ok (.d (.bl true)) S:=af rfl
theorem uR {S:Sto} {xs:List D}:mM (.d (.lst xs)) (.d .non) S=.ok (.d (.bl true)) S:=af rfl
theorem uD {i:Int} {S:Sto}:mM (.d (.int i)) (.d .non) S=.ok (.d (.bl true)) S:=af rfl
theorem CV {T:String} {x:D} {S:Sto}:gy T (.d x) S=.ok (.d (.bl (isT T x))) S:=af rfl
theorem n_ {S:Sto} {xs:List D}:bF [.d (.tup xs)] S=.ok (.d (.int xs.length)) S:=af rfl
theorem A5 {S:Sto} {xs:List D}:bF [.d (.lst xs)] S=.ok (.d (.int xs.length)) S:=af rfl
theorem Aq {S:Sto} {xs:List D}:bP [.d (.tup xs)] S=.ok (.d (.tup xs)) S:=af rfl
theorem y3 {S:Sto} {xs:List D}:bP [.d (.lst xs)] S=.ok (.d (.tup xs)) S:=af rfl
theorem Ae {S:Sto} {xs:List D}:wJ [.d (.tup xs)] S=.ok (.d (.lst xs)) S:=af rfl
theorem AN {S:Sto} {xs:List D}:wJ [.d (.lst xs)] S=.ok (.d (.lst xs)) S:=af rfl
theorem yi {S:Sto} {xs:List D}:ji [.d (.tup xs)] S=.ok (.r S.length) (S++[.lst xs]):=af rfl
theorem yQ {S:Sto} {xs:List D}:ji [.d (.lst xs)] S=.ok (.r S.length) (S++[.lst xs]):=af rfl
theorem Di {i j:Int} {S:Sto}:qZ [.d (.int i),.d (.int j)] S=.ok (.d (.int (if j > i then j else i))) S:=af rfl
theorem CA {i j:Int} {S:Sto}:qy [.d (.int i),.d (.int j)] S=.ok (.d (.int (if j < i then j else i))) S:=af rfl
theorem cn {i:Int} {S:Sto} {xs:List D} {z:D} (h:atI xs i=some z):oIx (.d (.tup xs)) (.d (.int i)) S=.ok (.d z) S:=by rw [show oIx (.d (.tup xs)) (.d (.int i)) S=(match atI xs i with | some z=>.ok (.d z) S | none=>.bad) from rfl,h]
theorem kf {i:Int} {S:Sto} {xs:List D} {z:D} (h:atI xs i=some z):oIx (.d (.lst xs)) (.d (.int i)) S=.ok (.d z) S:=by rw [show oIx (.d (.lst xs)) (.d (.int i)) S=(match atI xs i with | some z=>.ok (.d z) S | none=>.bad) from rfl,h]
theorem mP {i:Int} {S:Sto} {xs:List D} {z:D} {n:Nat} (e:S[n]?=some (.lst xs)) (h:atI xs i=some z):oIx (.r n) (.d (.int i)) S=.ok (.d z) S:=by
 have:bJ (.r n) S=some xs:=by unfold bJ cB;dsimp only;rw [e]
 unfold oIx;dsimp only;rw [this];dsimp only;rw [h]
theorem kX {S:Sto} {xs:List D} {n:Nat} (e:S[n]?=some (.lst xs)):bF [.r n] S=.ok (.d (.int xs.length)) S:=by
 have:bJ (.r n) S=some xs:=by unfold bJ cB;dsimp only;rw [e]
 unfold bF;dsimp only;rw [this]
theorem kz {xs:List D} {i j:Option Int} {S:Sto}:oSl (.d (.tup xs)) i j S=.ok (.d (.tup (dh xs i j))) S:=af rfl
theorem B_ {xs:List D} {i j:Option Int} {S:Sto}:oSl (.d (.lst xs)) i j S=.ok (.d (.lst (dh xs i j))) S:=af rfl
theorem Cr {ns:List Int} {i j:Option Int} {S:Sto}:oK (.sc ns) i j S=.ok (.d (.lst (dh (ns.map D.int) i j))) S:=af rfl
theorem Dz {S:Sto} {xs:List D}:Eb (.d (.tup xs)) (.d (.int (-1))) S=.ok (.d (.tup xs.reverse)) S:=af rfl
theorem BU {i j:Int} {S:Sto}:fb (.d (.int i)) (.d (.int j)) S=.ok (.d (.int (i - j))) S:=af rfl
theorem DP {i j:Int} {S:Sto}:oLt (.d (.int i)) (.d (.int j)) S=.ok (.d (.bl (decide (i < j)))) S:=af rfl
theorem DZ {i j:Int} {S:Sto}:oLe (.d (.int i)) (.d (.int j)) S=.ok (.d (.bl (decide (i≤j)))) S:=af rfl
theorem EB {i j:Int} {S:Sto}:oGt (.d (.int i)) (.d (.int j)) S=.ok (.d (.bl (decide (j < i)))) S:=af rfl
theorem EH {i j:Int} {S:Sto}:oGe (.d (.int i)) (.d (.int j)) S=.ok (.d (.bl (decide (j≤i)))) S:=af rfl
theorem B0 {i j:Int} {S:Sto} (h:gR i j):fR (.d (.int i)) (.d (.int j)) S=.ok (.d (.int (i * j))) S:=by rw [show fR (.d (.int i)) (.d (.int j)) S=if gR i j then .ok (.d (.int (i * j))) S else .bad from rfl,if_pos h]
theorem wZ {i j:Int} {S:Sto} (h:0 < j):oMod (.d (.int i)) (.d (.int j)) S=.ok (.d (.int (i % j))) S:=by rw [show oMod (.d (.int i)) (.d (.int j)) S=if 0 < j then .ok (.d (.int (i % j))) S else .bad from rfl,if_pos h]
theorem Ca {i j:Int} {S:Sto} (h:lG i j):oDiv (.d (.int i)) (.d (.int j)) S=.ok (.d (.int (i / j))) S:=by rw [show oDiv (.d (.int i)) (.d (.int j)) S=if lG i j then .ok (.d (.int (i / j))) S else .bad from rfl,if_pos h]
theorem qC {i j:Int} {S:Sto} (h:lF i j):rH (.d (.int i)) (.d (.int j)) S=.ok (.d (.int (i ^ j.toNat))) S:=by rw [show rH (.d (.int i)) (.d (.int j)) S=if lF i j then .ok (.d (.int (i ^ j.toNat))) S else .bad from rfl,if_pos h]
theorem CN {i j:Int} (h1:-(2 ^ 64) < j) (h2:j < 2 ^ 64):gR i j:=.inr ⟨h1,h2⟩
theorem zy {S:Sto}:mkT [] S=.ok (.d (.tup [])) S:=af rfl
theorem BC {S:Sto}:mkL [] S=.ok (.d (.lst [])) S:=af rfl
theorem zB {S:Sto}:mkM [] S=.ok (.r S.length) (S++[.lst []]):=af rfl
theorem zD {a:D} {S:Sto}:mkT [.d a] S=.ok (.d (.tup [a])) S:=af rfl
theorem zK {a:D} {S:Sto}:mkL [.d a] S=.ok (.d (.lst [a])) S:=af rfl
theorem Bz {a:D} {S:Sto}:mkM [.d a] S=.ok (.r S.length) (S++[.lst [a]]):=af rfl
theorem BD {a b:D} {S:Sto}:mkT [.d a,.d b] S=.ok (.d (.tup [a,b])) S:=af rfl
theorem AE {a b:D} {S:Sto}:mkL [.d a,.d b] S=.ok (.d (.lst [a,b])) S:=af rfl
theorem Bm {a b:D} {S:Sto}:mkM [.d a,.d b] S=.ok (.r S.length) (S++[.lst [a,b]]):=af rfl
theorem zm {a b c:D} {S:Sto}:mkT [.d a,.d b,.d c] S=.ok (.d (.tup [a,b,c])) S:=af rfl
theorem BI {a b c:D} {S:Sto}:mkL [.d a,.d b,.d c] S=.ok (.d (.lst [a,b,c])) S:=af rfl
theorem A3 {a b c:D} {S:Sto}:mkM [.d a,.d b,.d c] S=.ok (.r S.length) (S++[.lst [a,b,c]]):=af rfl
theorem BP {a b c d:D} {S:Sto}:mkT [.d a,.d b,.d c,.d d] S=.ok (.d (.tup [a,b,c,d])) S:=af rfl
theorem Bb {a b c d:D} {S:Sto}:mkL [.d a,.d b,.d c,.d d] S=.ok (.d (.lst [a,b,c,d])) S:=af rfl
theorem yX {a b c d e:D} {S:Sto}:mkT [.d a,.d b,.d c,.d d,.d e] S=.ok (.d (.tup [a,b,c,d,e])) S:=af rfl
theorem AM {a b c d e:D} {S:Sto}:mkL [.d a,.d b,.d c,.d d,.d e] S=.ok (.d (.lst [a,b,c,d,e])) S:=af rfl
theorem A2 {a b c d e f:D} {S:Sto}:mkT [.d a,.d b,.d c,.d d,.d e,.d f] S=.ok (.d (.tup [a,b,c,d,e,f])) S:=af rfl
theorem zv {a b c d e f:D} {S:Sto}:mkL [.d a,.d b,.d c,.d d,.d e,.d f] S=.ok (.d (.lst [a,b,c,d,e,f])) S:=af rfl
theorem z7 {a b c d e f g:D} {S:Sto}:mkT [.d a,.d b,.d c,.d d,.d e,.d f,.d g] S=.ok (.d (.tup [a,b,c,d,e,f,g])) S:=af rfl
theorem BG {a b c d e f g:D} {S:Sto}:mkL [.d a,.d b,.d c,.d d,.d e,.d f,.d g] S=.ok (.d (.lst [a,b,c,d,e,f,g])) S:=af rfl
theorem BH {a b c d e f g h:D} {S:Sto}:mkT [.d a,.d b,.d c,.d d,.d e,.d f,.d g,.d h] S=.ok (.d (.tup [a,b,c,d,e,f,g,h])) S:=af rfl
theorem AG {a b c d e f g h:D} {S:Sto}:mkL [.d a,.d b,.d c,.d d,.d e,.d f,.d g,.d h] S=.ok (.d (.lst [a,b,c,d,e,f,g,h])) S:=af rfl
theorem zG {a b c d e f g h i:D} {S:Sto}:mkT [.d a,.d b,.d c,.d d,.d e,.d f,.d g,.d h,.d i] S=.ok (.d (.tup [a,b,c,d,e,f,g,h,i])) S:=af rfl
theorem zF {a b c d e f g h i:D} {S:Sto}:mkL [.d a,.d b,.d c,.d d,.d e,.d f,.d g,.d h,.d i] S=.ok (.d (.lst [a,b,c,d,e,f,g,h,i])) S:=af rfl
theorem xV {a b c d e f g h i j:D} {S:Sto}:mkT [.d a,.d b,.d c,.d d,.d e,.d f,.d g,.d h,.d i,.d j] S=.ok (.d (.tup [a,b,c,d,e,f,g,h,i,j])) S:=af rfl
theorem xD {a b c d e f g h i j:D} {S:Sto}:mkL [.d a,.d b,.d c,.d d,.d e,.d f,.d g,.d h,.d i,.d j] S=.ok (.d (.lst [a,b,c,d,e,f,g,h,i,j])) S:=af rfl
theorem xx {a b c d e f g h i j k:D} {S:Sto}:mkT [.d a,.d b,.d c,.d d,.d e,.d f,.d g,.d h,.d i,.d j,.d k] S=.ok (.d (.tup [a,b,c,d,e,f,g,h,i,j,k])) S:=af rfl
theorem yw {a b c d e f g h i j k:D} {S:Sto}:mkL [.d a,.d b,.d c,.d d,.d e,.d f,.d g,.d h,.d i,.d j,.d k] S=.ok (.d (.lst [a,b,c,d,e,f,g,h,i,j,k])) S:=af rfl
theorem yv {a b c d e f g h i j k l:D} {S:Sto}:mkT [.d a,.d b,.d c,.d d,.d e,.d f,.d g,.d h,.d i,.d j,.d k,.d l] S=.ok (.d (.tup [a,b,c,d,e,f,g,h,i,j,k,l])) S:=af rfl
theorem yM {a b c d e f g h i j k l:D} {S:Sto}:mkL [.d a,.d b,.d c,.d d,.d e,.d f,.d g,.d h,.d i,.d j,.d k,.d l] S=.ok (.d (.lst [a,b,c,d,e,f,g,h,i,j,k,l])) S:=af rfl
theorem pG {o x:Ob} {R:Sto}:(o :: (R++[x]))[R.length+1]?=some x:=by simp
theorem vo {x:Ob} {R:Sto}:(R++[x])[R.length]?=some x:=by simp
theorem v9 {x y:Ob} {R:Sto}:(R++[x]).set R.length y=R++[y]:=by simp
theorem u7 {x y:Ob} {R:Sto}:(R++[x,y])[R.length]?=some x:=by simp
theorem vR {x y z:Ob} {R:Sto}:(R++[x,y]).set R.length z=R++[z,y]:=by simp
theorem vE {x y:Ob} {R:Sto}:(R++[x,y])[R.length+1]?=some y:=by simp
theorem vq {x y z:Ob} {R:Sto}:(R++[x,y]).set (R.length+1) z=R++[x,z]:=by simp
theorem tf (ns:List Int):(ns.map D.int).all D.flat=true:=by rw [List.all_map];exact List.all_eq_true.mpr fun _ _=>rfl
theorem yt (w:Int) (ns:List Int):inD (.int w) (ns.map D.int)=decide (w∈ns):=by
 unfold inD
 rw [List.any_map,Bool.eq_iff_iff,List.any_eq_true,decide_eq_true_eq]
 constructor
 ·rintro ⟨x,hx,e⟩
  have e':(x == w)=true:=e
  rw [← (beq_iff_eq.mp e')];exact hx
 ·intro h
  exact ⟨w,h,by show (w == w)=true;simp⟩
theorem wg {n:Nat} {S:Sto} {xs:List D} (e:S[n]?=some (.lst xs)):bJ (.r n) S=some xs:=by unfold bJ cB;dsimp only;rw [e]
theorem fT {w:Int} {y:Vl} {S:Sto} {ns:List Int} (h:bJ y S=some (ns.map D.int)):inX (.d (.int w)) y S=some (decide (w∈ns)):=by
 unfold inX
 dsimp only
 rw [h]
 dsimp only
 rw [show D.flat (.int w)=true from rfl,tf,if_pos (by rfl),yt]
theorem wt {w:Int} {ns:List Int} {S:Sto}:oIn (.d (.int w)) (.d (.tup (ns.map D.int))) S=.ok (.d (.bl (decide (w∈ns)))) S:=by unfold oIn;rw [fT (ns:=ns) rfl]
theorem ua {w:Int} {ns:List Int} {S:Sto}:eK (.d (.int w)) (.d (.tup (ns.map D.int))) S=.ok (.d (.bl (!decide (w∈ns)))) S:=by unfold eK;rw [fT (ns:=ns) rfl]
theorem DI {w:Int} {ns:List Int} {S:Sto}:oIn (.d (.int w)) (.d (.lst (ns.map D.int))) S=.ok (.d (.bl (decide (w∈ns)))) S:=by unfold oIn;rw [fT (ns:=ns) rfl]
theorem Ab {w:Int} {ns:List Int} {S:Sto}:eK (.d (.int w)) (.d (.lst (ns.map D.int))) S=.ok (.d (.bl (!decide (w∈ns)))) S:=by unfold eK;rw [fT (ns:=ns) rfl]
theorem AJ {w:Int} {ns:List Int} {n:Nat} {S:Sto} (e:S[n]?=some (.lst (ns.map D.int))):eK (.d (.int w)) (.r n) S=.ok (.d (.bl (!decide (w∈ns)))) S:=by unfold eK;rw [fT (wg e)]
theorem rP {n:Nat} {xs:List D} {z:D} {S:Sto} (h:xs.length < 100000):jc n xs z S=.ok (.d .non) (S.set n (.lst (xs++[z]))):=by unfold jc;rw [if_pos h]
theorem p0 {x:Vl} {S:Sto} {ns:List Int} (e:bJ x S=some (ns.map D.int)) (h:ns.length < 64):gi [x] S=.ok (.d (.lst ((sortI ns).map D.int))) S:=by
 unfold gi
 dsimp only
 rw [e,Option.bind_some,gW]
 dsimp only
 rw [if_pos h]
theorem yb {n:Nat} {S:Sto} {ns:List Int} (e:S[n]?=some (.lst (ns.map D.int))) (h:ns.length < 64):gi [.r n] S=.ok (.d (.lst ((sortI ns).map D.int))) S:=p0 (wg e) h
theorem xP {S:Sto} {ns:List Int} (h:ns.length < 64):gi [.d (.lst (ns.map D.int))] S=.ok (.d (.lst ((sortI ns).map D.int))) S:=p0 rfl h
theorem B8 {x:Vl} {S:Sto} {ns:List Int} (e:bJ x S=some (ns.map D.int)) (h:ns.length≤300):oLS x S=.ok (.d (.int (dD ns).length)) S:=by
 unfold oLS
 rw [e,Option.bind_some,gW]
 dsimp only
 rw [if_pos h]
theorem dS (ns:List Int):(sortI ns).length=ns.length:=(sortI_perm ns).length_eq
theorem i5 (ns:List Int) (z:Int):z∈sortI ns↔z∈ns:=(sortI_perm ns).mem_iff
theorem j4 {ns:List Int} (h:ns.Nodup):(sortI ns).Pairwise (· < ·):=((ij ns).and ((sortI_perm ns).nodup_iff.mpr h)).imp fun z=>by have:=z.1;have:=z.2;omega
theorem Bw {ds:List D} {bs:List Bool} {S:Sto} (h:fw ds=some bs):eX [.d (.lst ds)] S=.ok (.d (.bl (bs.all id))) S:=by
 unfold eX
 dsimp only
 rw [show cB (.d (.lst ds)) S=some ds from rfl,Option.bind_some,h]
theorem pU {α:Type} (f:α→Bool):∀ l:List α,fw (l.map fun x=>D.bl (f x))=some (l.map f)
 | []=>rfl
 | x :: l=>by simp [fw,pU f l]
theorem cV {α:Type} (f:α→Int):∀ l:List α,intsOf (l.map fun x=>D.int (f x))=some (l.map f)
 | []=>rfl
 | x :: l=>by simp [intsOf,cV f l]
theorem sG {α:Type} {f:α→Bool} {l:List α} {S:Sto}:eX [.d (.lst (l.map fun x=>D.bl (f x)))] S=.ok (.d (.bl (l.all f))) S:=by rw [Bw (pU f l),List.all_map];rfl
theorem rY {j:Int} {S:Sto} (h:0≤j∧j≤1000):lrg rf [.d (.int j)] S=.ok (.r S.length) (S++[.lst ((List.range j.toNat).map fun i=>D.int (i:Nat))]):=by
 unfold lrg
 dsimp only
 rw [if_pos h]
 rfl
theorem wM {n:Nat} {xs:List D} {i:Int} {y:D} {S:Sto} (h:0≤i∧i < 2 ^ 63) (e:xs[i.toNat]?=some y):lJ n xs (.int i) S=.ok (.d y) (S.set n (.lst (xs.eraseIdx i.toNat))):=by
 unfold lJ
 dsimp only
 rw [if_pos h,e]
theorem wR {it:XI} {t:XT} {e:XE} {τ:Nv} {S:Sto} {r:R Vl} (hC:xLC it 1 (gNm 0) t e τ S=r) {S1:Sto} {items:List Vl} (hit:it τ S=.ok ⟨items,none⟩ S1) (J:Nat→List D→Sto→Prop) (h0:J 0 [] S1)
  (hs:∀ i z acc Q,items[i]?=some z→J i acc Q→Q.length=S1.length→∃ b Q1,t (some z :: τ) (Q++[.lst acc])=.ok b (Q1++[.lst acc])∧Q1.length=S1.length ∧
   (b=true→∃ x Q2,e (some z :: τ) (Q1++[.lst acc])=.ok (.d x) (Q2++[.lst acc])∧Q2.length=S1.length∧J (i+1) (acc++[x]) Q2)∧(b=false→J (i+1) acc Q1)) :
  ∃ acc Q,r=.ok (.d (.lst acc)) Q∧Q.length=S1.length∧J items.length acc Q:=by
 obtain ⟨acc,Q,e1,h⟩:=sE (t:=t) (e:=e) hit J h0 hs
 exact ⟨acc,Q,hC.symm.trans e1,h⟩
theorem k7 {it:XI} {e:XE} {τ:Nv} {S:Sto} {r:R Vl} (hC:xLC it 1 (gNm 0) (fun _ S=>.ok true S) e τ S=r) {S1:Sto} {items:List Vl} (hit:it τ S=.ok ⟨items,none⟩ S1) (J:Nat→List D→Sto→Prop) (h0:J 0 [] S1)
  (hs:∀ i z acc Q,items[i]?=some z→J i acc Q→Q.length=S1.length→∃ x Q2,e (some z :: τ) (Q++[.lst acc])=.ok (.d x) (Q2++[.lst acc])∧Q2.length=S1.length∧J (i+1) (acc++[x]) Q2) :
  ∃ acc Q,r=.ok (.d (.lst acc)) Q∧Q.length=S1.length∧J items.length acc Q:=
 wR hC hit J h0 fun i z acc Q hz hJ hl=>⟨true,Q,rfl,hl,fun _=>hs i z acc Q hz hJ hl,fun z=>(by cases z)⟩
theorem cN {e:XE} {a:XE} {τ:Nv} {S S1:Sto} {r:R Vl} (hC:xLC (b8 a) 1 (gNm 0) (fun _ S=>.ok true S) e τ S=r) {xs:List D} (ha:a τ S=.ok (.d (.tup xs)) S1) (f:D→D) (hs:∀ x∈xs,∀ S:Sto,e (some (.d x) :: τ) S=.ok (.d (f x)) S):r=.ok (.d (.lst (xs.map f))) S1:=by
 rw [← hC,nP (items:=xs.map Vl.d) (S1:=S1) (by rw [nJ,ha,se]) (fun z=>match z with | .d x=>f x | _=>.non) (by
  intro z hz S
  obtain ⟨x,hx,rfl⟩:=List.mem_map.mp hz
  exact hs x hx S)]
 rw [List.map_map]
 rfl
theorem pI {e:XE} {a:XE} {τ:Nv} {S S1:Sto} {r:R Vl} (hC:xLC (b8 a) 1 (gNm 0) (fun _ S=>.ok true S) e τ S=r) {xs:List D} (ha:a τ S=.ok (.d (.lst xs)) S1) (f:D→D) (hs:∀ x∈xs,∀ S:Sto,e (some (.d x) :: τ) S=.ok (.d (f x)) S):r=.ok (.d (.lst (xs.map f))) S1:=by
 rw [← hC,nP (items:=xs.map Vl.d) (S1:=S1) (by rw [nJ,ha,tD]) (fun z=>match z with | .d x=>f x | _=>.non) (by
  intro z hz S
  obtain ⟨x,hx,rfl⟩:=List.mem_map.mp hz
  exact hs x hx S)]
 rw [List.map_map]
 rfl
theorem iV {it:XI} {g:XG} {b:XS} {τ:Nv} {S:Sto} {r:R (Fl×Nv)} (hL:gu it g b τ S=r) {S1:Sto} {items:List Vl} {gd:Option (Nat×Ob)} (hit:it τ S=.ok ⟨items,gd⟩ S1) (I:Nat→Nv→Sto→Prop) (h0:I 0 τ S1)
  (hs:∀ i z τ S,items[i]?=some z→I i τ S→∃ τ1 S1 fl τ2 S2,g z τ S=.ok τ1 S1∧b τ1 S1=.ok (fl,τ2) S2∧(fl=.nx∨fl=.ct)∧gok gd S2∧I (i+1) τ2 S2):∃ τ' S',r=.ok (.nx,τ') S'∧I items.length τ' S':=by
 obtain ⟨τ',S',e,h⟩:=nu (g:=g) (b:=b) (gd:=gd) I h0 hs
 refine ⟨τ',S',?_,h⟩
 rw [← hL,nj,hit,qV]
 exact e
theorem nr {g:XG} {b:XS} {gd:Option (Nat×Ob)} (Pr:Vl→Sto→Prop):∀ {items:List Vl} {τ:Nv} {S:Sto} (I:Nat→Nv→Sto→Prop),I 0 τ S →
  (∀ i z τ S,items[i]?=some z→I i τ S→∃ τ1 S1 fl τ2 S2,g z τ S=.ok τ1 S1∧b τ1 S1=.ok (fl,τ2) S2∧(((fl=.nx∨fl=.ct)∧gok gd S2∧I (i+1) τ2 S2)∨∃ v,fl=.rt v∧Pr v S2)) →
  (∃ τ' S',cm g b gd items τ S=.ok (.nx,τ') S'∧I items.length τ' S')∨∃ v τ' S',cm g b gd items τ S=.ok (.rt v,τ') S'∧Pr v S'
 | [],τ,S,I,h0,_=>.inl ⟨τ,S,rfl,h0⟩
 | z :: zs,τ,S,I,h0,hs=>by
  obtain ⟨τ1,S1,fl,τ2,S2,e1,e2,h⟩:=hs 0 z τ S rfl h0
  rcases h with ⟨hf,hg,hI⟩ | ⟨v,rfl,hv⟩
  ·have st:cm g b gd (z :: zs) τ S=cm g b gd zs τ2 S2:=by
    rw [cm,e1,bf,e2,bf]
    rcases hf with rfl | rfl
    ·dsimp only;rw [if_pos hg]
    ·dsimp only;rw [if_pos hg]
   rw [st]
   exact nr Pr (items:=zs) (fun i=>I (i+1)) hI fun i z' τ S hz hi=>hs (i+1) z' τ S (by simpa using hz) hi
  ·refine .inr ⟨v,τ2,S2,?_,hv⟩
   rw [cm,e1,bf,e2,bf]
theorem yp {it:XI} {g:XG} {b:XS} {τ:Nv} {S:Sto} {r:R (Fl×Nv)} (hL:gu it g b τ S=r) (Pr:Vl→Sto→Prop) {S1:Sto} {items:List Vl} {gd:Option (Nat×Ob)} (hit:it τ S=.ok ⟨items,gd⟩ S1) (I:Nat→Nv→Sto→Prop) (h0:I 0 τ S1)
  (hs:∀ i z τ S,items[i]?=some z→I i τ S→∃ τ1 S1 fl τ2 S2,g z τ S=.ok τ1 S1∧b τ1 S1=.ok (fl,τ2) S2∧(((fl=.nx∨fl=.ct)∧gok gd S2∧I (i+1) τ2 S2)∨∃ v,fl=.rt v∧Pr v S2)) :
  (∃ τ' S',r=.ok (.nx,τ') S'∧I items.length τ' S')∨∃ v τ' S',r=.ok (.rt v,τ') S'∧Pr v S':=by
 have q:=nr (g:=g) (b:=b) (gd:=gd) Pr I h0 hs
 have e:r=cm g b gd items τ S1:=by rw [← hL,nj,hit,qV]
 rw [e]
 exact q
theorem lC {n:Nat} {i:Nat} {z:Vl} (h:((List.range n).map fun i=>Vl.d (.int (i:Nat)))[i]?=some z):i < n∧z=.d (.int i):=by
 have hi:i < n:=by simpa using (List.getElem?_eq_some_iff.mp h).1
 rw [List.getElem?_map,List.getElem?_range hi] at h
 exact ⟨hi,(Option.some.inj h).symm⟩
theorem k9 {n:Nat}:((List.range n).map fun i=>Vl.d (.int (i:Nat))).length=n:=by simp
theorem h_ {α β:Type} {f:α→β} {l:List α} {x:α}:(l++[x]).map f=l.map f++[f x]:=by rw [List.map_append];rfl
end L2
namespace L2
open PySem PySem.Spec PyProof.Rows ZS
def d8 (xs ys:List D):List Vl:=List.zipWith (fun x y=>Vl.d (.tup [x,y])) xs ys
theorem ou {xs ys:List D}:(d8 xs ys).length=min xs.length ys.length:=by simp [d8]
theorem mU {xs ys:List D} {i:Nat} {z:Vl} (h:(d8 xs ys)[i]?=some z):∃ x y,xs[i]?=some x∧ys[i]?=some y∧z=.d (.tup [x,y]):=by
 unfold d8 at h
 rw [List.getElem?_zipWith] at h
 cases q:xs[i]? with
 | none=>rw [q] at h;cases h
 | some x=>
  cases q2:ys[i]? with
  | none=>rw [q,q2] at h;cases h
  | some y=>rw [q,q2] at h;cases h;exact ⟨x,y,rfl,rfl,rfl⟩
def AU (zs:List Vl) (S:Sto):R Its:=match zs with
 | [.d (.tup xs),.d (.tup ys)]=>.ok ⟨d8 xs ys,none⟩ S
 | [.d (.lst xs),.d (.tup ys)]=>.ok ⟨d8 xs ys,none⟩ S
 | _=>.bad
def iZp (as:XA):XI:=fun τ S=>(as τ S).bind AU
section
variable {X:Cx} {WE:WX} {K:PySem.W.Frag} {mg:Str→Option Value} {μ:Nat→Addr} {S:Sto} {H:Hp}
theorem Az {t u:Addr} {vs us:List V} {xs ys:List D} (g:vh μ S H t=some (.tup vs)) (rs:av (vh μ S H) vs xs) (g2:vh μ S H u=some (.tup us)) (rs2:av (vh μ S H) us ys) (hz:vs.length≤sizeLine):fe K mg μ S H (Itz t u) ⟨d8 xs ys,none⟩ where
 ok:=True.intro
 len:=by show (d8 xs ys).length≤sizeLine;rw [ou];rw [rs.length] at hz;omega
 go:=fun i z μ' S' H' st _ e=>by
  obtain ⟨x,y,e1,e2,_⟩:=mU e
  obtain ⟨a,q1,_⟩:=rs.get' e1
  obtain ⟨b,q2,_⟩:=rs2.get' e2
  exact ⟨vs,us,a,b,(aO (st.vis _ _ g)).2,(aO (st.vis _ _ g2)).2,q1,q2⟩
 yld:=fun i z μ' S' H' v H2 st _ e yy=>by
  obtain ⟨p,a,b,hp,rfl,rfl,y1,y2⟩:=yy
  obtain ⟨x,y,e1,e2,rfl⟩:=mU e
  have q1:=y1 vs (aO (st.vis _ _ g)).2
  have q2:=y2 us (aO (st.vis _ _ g2)).2
  obtain ⟨x',e3,r1⟩:=rs.get q1
  obtain ⟨y',e4,r2⟩:=rs2.get q2
  rw [e1] at e3;cases e3
  rw [e2] at e4;cases e4
  have st2:=Step.new st.hr hp (.tup [a,b])
  exact ⟨st2,Rep.tup (bO bV (st.hr.nal hp)) (.cons (Rep.mono (st.trans st2).vis r1) (.cons (Rep.mono (st.trans st2).vis r2) .nil))⟩
 stop:=fun i μ' S' H' st _ hi=>by
  replace hi:(d8 xs ys).length=i:=hi
  rw [ou] at hi
  have l1:=rs.length
  have l2:=rs2.length
  exact ⟨vs,us,(aO (st.vis _ _ g)).2,(aO (st.vis _ _ g2)).2,by omega,by omega,by omega⟩
end
def xLf (f:List D→D→Sto→R Vl) (o e:XE):XE:=fun τ S=>(o τ S).bind fun x S1=>match x with
 | .d (.lst xs)=>(e τ S1).bind fun y S2=>(match y with
  | .d z=>f xs z S2
  | _=>.bad)
 | _=>.bad
def Bq (xs:List D) (z:D) (S:Sto):R Vl:=match z,intsOf xs with
 | .int k,some ns=>.ok (.d (.int (ns.count k:Nat))) S
 | _,_=>.bad
def best (ns:List Int) (n:Int):Int:=ns.foldl (fun m k=>if k > m then k else m) n
theorem lr:∀ (ns:List Int) (n:Int),(best ns n=n∨best ns n∈ns)∧n≤best ns n∧∀ k∈ns,k≤best ns n
 | [],n=>⟨.inl rfl,Int.le_refl _,fun _ h=>by cases h⟩
 | k :: ns,n=>by
  obtain ⟨h1,h2,h3⟩:=lr ns (if k > n then k else n)
  show (best ns (if k > n then k else n)=n∨best ns (if k > n then k else n)∈k :: ns)∧n≤best ns (if k > n then k else n)∧∀ j∈k :: ns,j≤best ns (if k > n then k else n)
  refine ⟨?_,?_,fun j hj=>?_⟩
  ·rcases h1 with h1 | h1
   ·rw [h1]
    split
    ·exact .inr List.mem_cons_self
    ·exact .inl rfl
   ·exact .inr (List.mem_cons_of_mem _ h1)
  ·by_cases q:k > n
   ·rw [if_pos q] at h2 ⊢;omega
   ·rw [if_neg q] at h2 ⊢;omega
  ·rcases List.mem_cons.mp hj with e | hj
   ·subst e
    by_cases q:j > n
    ·rw [if_pos q] at h2 ⊢;omega
    ·rw [if_neg q] at h2 ⊢;omega
   ·exact h3 j hj
def Ec (xs:List Vl) (S:Sto):R Vl:=match xs with
 | [.d (.int i)]=>.ok (.d (.int i)) S
 | [.d (.bl k)]=>.ok (.d (.int (if k then 1 else 0))) S
 | _=>.bad
theorem AD {k:Bool} {S:Sto}:Ec [.d (.bl k)] S=.ok (.d (.int (if k then 1 else 0))) S:=af rfl
def gA:D→Option Key
 | .int i=>some (.inl i)
 | .str x=>some (.inr x)
 | _=>none
def hV (x:Vl) (S:Sto):Option (List (Key×D)):=match x with
 | .fd kvs=>some kvs
 | .r n=>(match S[n]? with
  | some (.dct kvs)=>some kvs
  | _=>none)
 | _=>none
def eD (kvs:List (Key×D)) (k:Key):Option D:=(kvs.find? fun kv=>decide (kv.1=k)).map (·.2)
def putD (kvs:List (Key×D)) (k:Key) (v:D):List (Key×D):=
 if (kvs.any fun kv=>decide (kv.1=k))=true then kvs.map (fun kv=>if kv.1=k then (kv.1,v) else kv) else kvs++[(k,v)]
section
variable {G:Hp}
theorem j9 {p:Key×D} {r:List (Key×D)} {k:Key} (e:p.1=k):eD (p :: r) k=some p.2:=by simp [eD,List.find?_cons,e]
theorem gS {p:Key×D} {r:List (Key×D)} {k:Key} (e:¬p.1=k):eD (p :: r) k=eD r k:=by simp [eD,List.find?_cons,e]
theorem mY (k:Key):∀ {kvs:List (Key×D)} {vs:List V},av G vs (kvs.map (·.2))→(eD kvs k=none∧ff ((kvs.map (·.1)).zip vs) k=none)∨∃ d v,eD kvs k=some d∧ff ((kvs.map (·.1)).zip vs) k=some v∧Rep G v d
 | [],_,.nil=>.inl ⟨rfl,rfl⟩
 | p :: r,_,.cons (v:=v) (vs:=vs) h t=>by
  by_cases e:p.1=k
  ·exact .inr ⟨p.2,v,j9 e,gX (p:=(p.1,v)) e,h⟩
  ·rcases mY k (kvs:=r) t with ⟨h1,h2⟩ | ⟨d,u,h1,h2,h3⟩
   ·exact .inl ⟨by rw [gS e];exact h1,(fL (p:=(p.1,v)) e).trans h2⟩
   ·exact .inr ⟨d,u,by rw [gS e];exact h1,(fL (p:=(p.1,v)) e).trans h2,h3⟩
theorem sT (k:Key):∀ {kvs:List (Key×D)} {vs:List V},av G vs (kvs.map (·.2))→(((kvs.map (·.1)).zip vs).any fun kv=>decide (kv.1=k))=kvs.any fun kv=>decide (kv.1=k)
 | [],_,.nil=>rfl
 | p :: r,_,.cons h t=>by
  rw [List.map_cons,List.zip_cons_cons,List.any_cons,List.any_cons,sT k (kvs:=r) t]
theorem sX (k:Key) {v:V} {d:D} (rv:Rep G v d):∀ {kvs:List (Key×D)} {vs:List V},av G vs (kvs.map (·.2))→∃ ws,ws.length=kvs.length ∧
  ((kvs.map (·.1)).zip vs).map (fun kv=>if kv.1=k then (kv.1,v) else kv)=((kvs.map fun kv=>if kv.1=k then (kv.1,d) else kv).map (·.1)).zip ws∧av G ws ((kvs.map fun kv=>if kv.1=k then (kv.1,d) else kv).map (·.2))
 | [],_,.nil=>⟨[],rfl,rfl,.nil⟩
 | p :: r,_,.cons (v:=u) (vs:=us) h t=>by
  obtain ⟨ws,l,e,rs⟩:=sX k rv (kvs:=r) t
  by_cases q:p.1=k
  ·refine ⟨v :: ws,by simp [l],?_,?_⟩
   ·rw [List.map_cons,List.zip_cons_cons,List.map_cons,e,List.map_cons,List.map_cons,List.zip_cons_cons,if_pos q,if_pos q]
   ·rw [List.map_cons,List.map_cons,if_pos q];exact .cons rv rs
  ·refine ⟨u :: ws,by simp [l],?_,?_⟩
   ·rw [List.map_cons,List.zip_cons_cons,List.map_cons,e,List.map_cons,List.map_cons,List.zip_cons_cons,if_neg q,if_neg q]
   ·rw [List.map_cons,List.map_cons,if_neg q];exact .cons h rs
theorem sO (k:Key) {v:V} {d:D} (rv:Rep G v d) {kvs:List (Key×D)} {vs:List V} (rs:av G vs (kvs.map (·.2))):∃ ws,ws.length=(putD kvs k d).length ∧
  putK ((kvs.map (·.1)).zip vs) k v=((putD kvs k d).map (·.1)).zip ws∧av G ws ((putD kvs k d).map (·.2)):=by
 unfold putK putD
 rw [sT k rs]
 by_cases a:(kvs.any fun kv=>decide (kv.1=k))=true
 ·rw [if_pos a,if_pos a]
  obtain ⟨ws,l,e,r⟩:=sX k rv rs
  exact ⟨ws,by simp [l],e,r⟩
 ·rw [if_neg a,if_neg a]
  have lv:vs.length=kvs.length:=by have:=rs.length;simpa using this
  refine ⟨vs++[v],by simp [lv],?_,?_⟩
  ·rw [List.map_append,List.zip_append (by simp [lv])]
   rfl
  ·rw [List.map_append];exact rs.append (.cons rv .nil)
theorem jA {G:Hp} {v:V} {x:D} {k:Key} (r:Rep G v x) (e:gA x=some k):v=kV k:=by
 unfold gA at e
 split at e
 ·cases e;cases r;rfl
 ·cases e;cases r;rfl
 ·cases e
end
section
variable {K:PySem.W.Frag} {mg:Str→Option Value} {μ:Nat→Addr} {S:Sto} {H:Hp} {v:V} {x:Vl} {kvs:List (Key×D)} {WE:WX} {Q:VK}
theorem nQ (hr:HR μ S H) (r:aM K mg μ S H v x) (e:hV x S=some kvs):∃ a vs,v=.ref a∧Rd H a (.dK ((kvs.map (·.1)).zip vs))∧av (vh μ S H) vs (kvs.map (·.2)):=by
 unfold hV at e
 split at e
 ·cases e
  obtain ⟨a,vs,o,rfl,l,h,rs⟩:=r
  exact ⟨a,vs,rfl,.inr ⟨o,(aO h).2⟩,rs⟩
 ·split at e
  ·rename_i q
   cases e
   obtain ⟨rfl,hn⟩:=r
   obtain ⟨vs,l,h,rs⟩:=hr.ob _ _ q
   exact ⟨_,vs,rfl,.inl h,rs⟩
  ·cases e
 ·cases e
end
def oDx (x y:Vl) (S:Sto):R Vl:=match y with
 | .d yd=>(match gA yd,hV x S with
  | some k,some kvs=>(match eD kvs k with
   | some z=>.ok (.d z) S
   | none=>.bad)
  | _,_=>.bad)
 | _=>.bad
def qj:XE:=fun _ S=>.ok (.r S.length) (S++[.dct []])
def mO (o i e:XE):XS:=fun τ S=>(e τ S).bind fun z S1=>(o τ S1).bind fun x S2=>(i τ S2).bind fun y S3=>match x,y,z with
 | .r n,.d yd,.d zd=>(match gA yd,S3[n]? with
  | some k,some (.dct kvs)=>if kvs.length < 100000 then .ok (.nx,τ) (S3.set n (.dct (putD kvs k zd))) else .bad
  | _,_=>.bad)
 | _,_,_=>.bad
def kD (d k e:XE):XE:=fun τ S=>(d τ S).bind fun x S1=>if (hV x S1).isSome=true then (k τ S1).bind fun y S2=>(e τ S2).bind fun z S3=>(match y,z with
 | .d yd,.d zd=>(match gA yd,hV x S3 with
  | some k,some kvs=>.ok (.d ((eD kvs k).getD zd)) S3
  | _,_=>.bad)
 | _,_=>.bad) else .bad
section
variable {X:Cx} {WE:WX} {a b c e:Expr} {xa xb xc xe:XE} {pos:Pos}
theorem DK (hu:X.A.units+64 < cLine) (ha:RE X WE a xa) (hb:RE X WE b xb) (hs:u_ b:=by exact fun _ _=>rfl):RE X WE (.Subscript a b pos) (xOp oDx xa xb):=
 ⟨(yR (by omega) ha.h hb.h hs).weak fun σ H Q h=>by
  refine (two (X:=X) (r:=fun x y H2 Q=>∃ a v,x=.ref a∧lE H2 a y (some v)∧Q v H2) ?_ h:_)
  intro WE μ S H v w x y Q hr rx ry p
  unfold oDx at p
  split at p
  ·split at p
   ·rename_i k kvs hk hd
    obtain ⟨a,vs,rfl,rd,rs⟩:=nQ hr rx hd
    split at p
    ·rename_i z hz
     rcases mY k rs with ⟨h1,_⟩ | ⟨d,u,h1,h2,h3⟩
     ·rw [h1] at hz;cases hz
     ·rw [h1] at hz;cases hz
      rw [jA ry hk]
      exact ⟨a,u,rfl,.inl ⟨_,k,rd,rfl,h2.symm⟩,p.here hr h3⟩
    ·exact p.elim
   ·exact p.elim
  ·exact p.elim⟩
theorem yk:RE X WE (.Dict [] [] pos) qj:=
 ⟨uP.weak fun σ H Q ⟨μ,S,τ,hr,sr,p⟩ q hq=>p _ _ _ (Step.alloc hr hq (ob:=.dct []) ⟨[],rfl,rfl,.nil⟩) ⟨by rw [cy],by simp⟩⟩
theorem yF {pos':Pos} (hu:X.A.units+64 < cLine) (ho:RE X WE a xa) (hi:RE X WE b xb) (hv:RE X WE c xc) (hs:swapsWith c (some (.Subscript a b pos')) pos.line X.env=pure false:=by rfl) :
  RS X WE (.Assign [.Subscript a b pos'] c pos) (mO xa xb xc):=
 ⟨(xU (by omega) ho.h hi.h hv.h hs).weak fun D σ H ⟨μ,S,τ,hr,sr,p⟩=>⟨μ,S,τ,hr,sr,p.bind fun w z S1 μ1 H1 st1 r1 p1=>⟨μ1,S1,τ,st1.hr,sr.step st1,p1.bind fun v x S2 μ2 H2 st2 r2 p2=>⟨μ2,S2,τ,st2.hr,sr.step (st1.trans st2),p2.bind fun u y S3 μ3 H3 st3 r3 p3=>by
  have rw':=r1.step (st2.trans st3)
  have rv:=r2.step st3
  try dsimp only at p3
  split at p3
  ·split at p3
   ·rename_i k kvs hk e
    split at p3
    ·rename_i hl
     obtain ⟨rfl,hn⟩:=rv
     obtain ⟨vs,l,h,rs⟩:=st3.hr.ob _ _ e
     rw [jA r3 hk]
     obtain ⟨ws,lw,e2,rs2⟩:=sO k rw' rs
     refine ⟨_,_,rfl,nN.k h ?_,?_⟩
     ·rw [List.length_zip,List.length_map,l,Nat.min_self]
      exact Nat.lt_of_lt_of_le hl (by rw [sizeLine_eq];decide)
     ·have st4:=Step.put st3.hr e (by simp) (ob:=.dct (putD kvs k _)) ⟨ws,lw,rfl,rs2⟩
      rw [← e2] at st4
      exact (show Ends.at D (FlV.nx,σ) _ from p3 (FlV.nx,σ) _ _ st4 ⟨sr.step (st1.trans (st2.trans (st3.trans st4))),True.intro⟩)
    ·exact p3.elim
   ·exact p3.elim
  ·exact p3.elim⟩⟩⟩⟩
theorem pR {apos cpos:Pos} (hu:X.A.units+64 < cLine) (hd:RE X WE a xa) (hk:RE X WE b xb) (he:RE X WE c xc)
  (m:M2 X a "get" apos b c cpos:=by exact ⟨rfl,rfl,rfl,rfl⟩):RE X WE (.Call (.Attribute a "get" apos) [b,c] [] cpos) (kD xa xb xc):=
 ⟨(uI (by omega) hd.h hk.h he.h m).weak fun σ H Q ⟨μ,S,τ,hr,sr,p⟩=>⟨μ,S,τ,hr,sr,p.bind fun v x S1 μ1 H1 st1 r1 p1=>by
  try dsimp only at p1
  split at p1
  ·rename_i hs
   obtain ⟨kvs,hd⟩:=Option.isSome_iff_exists.mp hs
   obtain ⟨a,vs,rfl,rd,rs⟩:=nQ st1.hr r1 hd
   refine ⟨a,rfl,.inl ⟨_,rd⟩,μ1,S1,τ,st1.hr,sr.step st1,p1.bind fun u y S2 μ2 H2 st2 r2 p2=>⟨μ2,S2,τ,st2.hr,sr.step (st1.trans st2),p2.bind fun w z S3 μ3 H3 st3 r3 p3=>?_⟩⟩
   try dsimp only at p3
   split at p3
   ·split at p3
    ·rename_i k kvs' hk hd'
     obtain ⟨a',vs',ea,rd',rs'⟩:=nQ st3.hr (r1.step (st2.trans st3)) hd'
     cases ea
     rw [jA (r2.step st3) hk]
     refine ⟨_,.inl ⟨_,k,rd',rfl,rfl⟩,?_⟩
     rcases mY k rs' with ⟨h1,h2⟩ | ⟨d,u,h1,h2,h3⟩
     ·rw [h2];rw [h1] at p3;exact p3.here st3.hr r3
     ·rw [h2];rw [h1] at p3;exact p3.here st3.hr h3
    ·exact p3.elim
   ·exact p3.elim
  ·exact p1.elim⟩⟩
end
def dz (kvs more:List (Key×D)):List (Key×D):=more.foldl (fun acc kv=>putD acc kv.1 kv.2) kvs
def trP (K:PySem.W.Frag) (mg:Str→Option Value) (WE:WX) (ms:List (XE×XE)):List (TE×TE):=ms.map fun m=>(trE K mg WE m.1,trE K mg WE m.2)
structure RP (X:Cx) (WE:WX) (pos:Pos) (ks:List (Option Expr)) (vs:List Expr) (ms:List (XE×XE)):Prop where
 h:PPs X pos ks vs (trP X.K X.mg WE ms)
section
variable {X:Cx} {WE:WX} {pos:Pos}
inductive qt (K:PySem.W.Frag) (mg:Str→Option Value) (μ:Nat→Addr) (S:Sto) (H:Hp):List (V×V)→List (Vl×Vl)→Prop
 | nil:qt K mg μ S H [] []
 | cons {v w:V} {x y:Vl} {vs:List (V×V)} {xs:List (Vl×Vl)}:aM K mg μ S H v x→aM K mg μ S H w y→qt K mg μ S H vs xs→qt K mg μ S H ((v,w) :: vs) ((x,y) :: xs)
theorem nV {G:Hp}:∀ {l kvs:List (Key×D)} {vs ws:List V},av G vs (l.map (·.2))→av G ws (kvs.map (·.2))→∃ us,us.length=(dz kvs l).length∧cq ((kvs.map (·.1)).zip ws) ((l.map (·.1)).zip vs)=((dz kvs l).map (·.1)).zip us∧av G us ((dz kvs l).map (·.2))
 | [],kvs,_,ws,.nil,r=>⟨ws,by have:=r.length;simpa [dz] using this,rfl,r⟩
 | p :: l,kvs,_,ws,.cons (v:=v) (vs:=vs) h t,r=>by
  obtain ⟨us,lu,eu,ru⟩:=sO p.1 h r
  obtain ⟨us2,l2,e2,r2⟩:=nV (l:=l) (kvs:=putD kvs p.1 p.2) t ru
  refine ⟨us2,l2,?_,r2⟩
  rw [← eu] at e2
  exact e2
end
set_option maxRecDepth 100000
theorem sA (l:Addr) (items:Array Value):Meets (Builtin.«enumerate.__new__» ⟨[.type "enumerate",.ref l],[]⟩) (fun _ R s=>(∃ o,s.heap.get? l=some o∧o.cls=.type "tuple"∧∃ n,o.data=.seq items n) ∧
   R (.ok (.ret (.ref (zT s.heap l).objs.size))) { s with heap:=(zT s.heap l).push { cls:=.type "enumerate",data:=.fields #[.none,.bool false,.ref s.heap.objs.size,rawInt 0,.none,.none] } }):=
 .of_wp fun prog w A R s h=>by
  obtain ⟨hp,g,d,tk,os⟩:=s;obtain ⟨⟨⟨c,dct,dt,sl⟩,hl,hc,n,hd⟩,h⟩:=h
  replace hc:c=.type "tuple":=hc
  replace hd:dt=.seq items n:=hd
  subst hc hd
  have hsub:=sub_enumerate
  have hL:Heap.IsTuple (Shared.heap ⟨hp,g,d,tk,os⟩) l items:=⟨_,hl,rfl,n,rfl⟩
  wp_walk using AutoSeq1.wpAny_loadPart' hl
  refine wpAny_stack_any fun st=>wpAny_pure ?_
  split
  ·rename_i c _ _ _ _ _
   cases (c == Value.type "enumerate")
   ·wp_walk using AutoSeq1.wpAny_loadPart' hl,wpAny_pyIter_tuple hL
    exact ⟨_,rfl,h⟩
   ·wp_walk using AutoSeq1.wpAny_loadPart' hl,wpAny_pyIter_tuple hL
    exact ⟨_,rfl,h⟩
  ·wp_walk using AutoSeq1.wpAny_loadPart' hl,wpAny_pyIter_tuple hL
   exact ⟨_,rfl,h⟩
section
variable {prog:Program} {w:World} {A:Around} {E:Value→Shared→Prop} {s:Shared}
theorem qw {l:Addr} {items:Array Value} {Q:Value→Shared→Prop} (hL:s.heap.IsTuple l items)
  (h:∀ h',IsEnum h' (s.heap.objs.size+1) s.heap.objs.size 0 .none→h'.IsTupleIter s.heap.objs.size l 0→(∀ b o,s.heap.get? b=some o→h'.get? b=some o)→Q (.ref (s.heap.objs.size+1)) { s with heap:=h' }) :
  wpAny (model prog w) A (call (.type "enumerate") [.ref l]) Q E s:=by
 refine callType_new F.called_enumerate (by decide) (F.typeCall_enumerate_1 _) (F.newCall_enumerate_1 _) (fun obj=>F.args_object_init_2 obj _) F.entry_enumerate_new (sA l items) ⟨hL,?_⟩
 have hz:(zT s.heap l).objs.size=s.heap.objs.size+1:=Heap.size_push ..
 have he:((zT s.heap l).push { cls:=.type "enumerate",data:=.fields #[.none,.bool false,.ref s.heap.objs.size,rawInt 0,.none,.none] }).get? (zT s.heap l).objs.size=some { cls:=.type "enumerate",data:=.fields #[.none,.bool false,.ref s.heap.objs.size,rawInt 0,.none,.none] }:=Heap.get?_push_size _ rfl
 show _∧_
 rw [hz] at he ⊢
 exact ⟨⟨_,he,rfl⟩,h _ he ⟨_,Heap.get?_push_of_some _ (Heap.get?_push_size _ rfl),rfl,rfl⟩ fun b o e=>Heap.get?_push_of_some _ (Heap.get?_push_of_some _ e)⟩
end
def Am (t:Addr):It:=
 ⟨fun i H=>∃ xs x,H t=some (.tup xs)∧xs[i]?=some x,fun i H x H'=>∃ p y,H p=none∧x=.ref p∧H'=upd H p (.tup [.int i,y])∧∀ xs,H t=some (.tup xs)→xs[i]?=some y,fun i H=>∃ xs,H t=some (.tup xs)∧xs.length=i⟩
theorem qB {P:Program} {w:World} {K:PySem.W.Frag} {es:List Expr} {kk:Nat} {tp:Pos} (l e it:Addr) (hne:e≠it) (hle:l≠e) (hli:l≠it) :
  Turn P w K (.Tuple es kk tp) (Am l) [e,it] e (fun i h=>(∃ old,IsEnum h e it ((i:Nat):Int) old)∧h.IsTupleIter it l i) where
 mem:=by simp
 obj:=fun i h st b hb=>by
  obtain ⟨⟨old,he⟩,hit⟩:=st
  rcases List.mem_cons.mp hb with z | z
  ·subst z;exact ⟨_,he,fun v z=>by
    have z':Data.fields _=Data.cell v:=z
    cases z'⟩
  ·have z:b=it:=List.mem_singleton.mp z
   subst z
   obtain ⟨o,q,_,d⟩:=hit
   exact ⟨o,q,fun v z=>by rw [d] at z;cases z⟩
 keep:=fun i h h' st k=>by
  obtain ⟨⟨old,he⟩,hit⟩:=st
  exact ⟨⟨old,k e (by simp) _ he⟩,hit.at fun o q=>k it (by simp) o q⟩
 item:=by
  intro X hP hw hK hc i pins s σ H E I hf st hg
  subst hP hw hK
  obtain ⟨⟨old,he⟩,hit⟩:=st
  obtain ⟨xs,x,hq,hx⟩:=hg
  obtain ⟨its,rv,p,hz⟩:=I.tuple (SqT.of (K:=X.K) hq)
  obtain ⟨u,hu,ru⟩:=rv.get hx
  have hit':i < its.toArray.size:=by have:=(List.getElem?_eq_some_iff.mp hu).1;simpa using this
  refine wpAny_pyNext_enum_itemD (dA (prog:=X.prog) (w:=X.w) (A:=X.A.in1) (I.ok.hd hc) it l hli its.toArray) he ⟨hit,p⟩ hit' hne (by simp [hne,Ne.symm hle]) fun u' h1 tk hu' ho1 st1 ht1 hz1 hk1=>?_
  have e0:u'=u:=by
   have a1:its[i]?=some u':=by simpa using hu'
   rw [hu] at a1
   exact (Option.some.inj a1).symm
  subst e0
  refine ⟨_,rfl,wpAny_letOwnedTupleGo_enum (s:={ s with heap:=h1,toks:=tk+1 }) ho1 fun h2 he2 hs2=>?_⟩
  have helt:e < s.heap.objs.size:=Heap.lt_size he
  have ht2:h2.get? s.heap.objs.size=some { cls:=.type "tuple",data:=.seq #[.int i tk,u'] }:=hs2.extBut _ _ (Nat.ne_of_gt helt) ht1
  have k2:∀ b o,b∉[e,it]→s.heap.get? b=some o→h2.get? b=some o:=fun b o hb q=>by
   have hb1:b≠e:=fun z=>hb (by simp [z])
   have hb2:b≠it:=fun z=>hb (by simp [z])
   exact hs2.extBut b o hb1 (hk1 b o hb1 hb2 q)
  have I2:Inv X pins σ (upd H s.heap.objs.size (.tup [.int i,x])) { s with heap:=h2,toks:=tk+1 }:=by
   refine I.j8 (fp:=[e,it]) (Nat.le_refl _) k2 hf ?_
   exact ⟨by show 2≤sizeLine;decide,[.int i tk,u'],.cons ⟨_,rfl⟩ (.cons ru .nil),⟨_,ht2,rfl,_,rfl⟩⟩
  refine ⟨.ref s.heap.objs.size,_,I2,rfl,⟨s.heap.objs.size,x,I.hok.fresh (Nat.le_refl _),rfl,rfl,fun ys hy=>by rw [hq] at hy;cases hy;exact hx⟩,⟨⟨_,by simpa using he2⟩,?_⟩,fun b hb=>?_⟩
  ·exact st1.1.extBut hs2.extBut (Ne.symm hne)
  ·have hlt:b < s.heap.objs.size:=by
    rcases List.mem_cons.mp hb with z | z
    ·rw [z];exact helt
    ·have z:b=it:=List.mem_singleton.mp z
     subst z
     obtain ⟨o,q,_⟩:=hit
     exact Heap.lt_size q
   rw [aD (Nat.ne_of_lt hlt)]
   exact (hf b hb).1
 done:=by
  intro X hP hw hK hc i pins s σ H E I hf st hg
  subst hP hw hK
  obtain ⟨⟨old,he⟩,hit⟩:=st
  obtain ⟨xs,hq,hx⟩:=hg
  obtain ⟨its,rv,p,hz⟩:=I.tuple (SqT.of (K:=X.K) hq)
  have hl:=rv.length
  obtain ⟨f0,f1,f2,f3,f4,f5⟩:=hf it (by simp)
  exact wpAny_pyNext_enum_endD (dA (prog:=X.prog) (w:=X.w) (A:=X.A.in1) (I.ok.hd hc) it l hli its.toArray) he ⟨by rw [List.size_toArray,← hl,hx];exact hit,p⟩ fun h' eb=>⟨rfl,I.turned (t':=s.toks) (fun b o hb e=>eb b o hb e) f0 f1 f3 f4 f5⟩
 self:=fun _ _ _ _ _ st h=>by
  obtain ⟨⟨old,he⟩,_⟩:=st
  exact wpAny_pyIter_enum he h
def oD (e:XE):XI:=fun τ S=>(e τ S).bind fun z S1=>match z with
 | .d (.tup xs)=>.ok ⟨b6 0 xs,none⟩ S1
 | _=>.bad
section
variable {X:Cx} {WE:WX} {K:PySem.W.Frag} {mg:Str→Option Value} {μ:Nat→Addr} {S:Sto} {H:Hp}
theorem vI {a:Addr} {vs:List V} {xs:List D} (g:vh μ S H a=some (.tup vs)) (rs:av (vh μ S H) vs xs) (hz:vs.length≤sizeLine):fe K mg μ S H (Am a) ⟨b6 0 xs,none⟩ where
 ok:=True.intro
 len:=by simp only [dQ];rw [← rs.length];exact hz
 go:=fun i z μ' S' H' st _ e=>by
  rw [cR] at e
  cases q:xs[i]? with
  | none=>rw [q] at e;cases e
  | some x=>
   obtain ⟨u,e2,_⟩:=rs.get' q
   exact ⟨vs,u,(aO (st.vis _ _ g)).2,e2⟩
 yld:=fun i z μ' S' H' u H2 st _ e y=>by
  obtain ⟨p,w,hp,rfl,rfl,y⟩:=y
  rw [cR] at e
  cases q:xs[i]? with
  | none=>rw [q] at e;cases e
  | some x=>
   rw [q] at e
   cases e
   have e2:=y vs (aO (st.vis _ _ g)).2
   obtain ⟨x',e3,r⟩:=rs.get e2
   rw [q] at e3;cases e3
   have st2:=Step.new st.hr hp (.tup [.int i,w])
   refine ⟨st2,Rep.tup (bO bV (st.hr.nal hp)) (.cons ?_ (.cons (Rep.mono (st.trans st2).vis r) .nil))⟩
   rw [Nat.zero_add]
   exact .int _
 stop:=fun i μ' S' H' st _ hi=>⟨vs,(aO (st.vis _ _ g)).2,by rw [rs.length];rw [dQ] at hi;exact hi⟩
end
section
variable {X:Cx} {WE:WX}
theorem m_ {es:List Expr} {kk:Nat} {tp:Pos} {l:Expr} {xl:XE} {p pos:Pos} (hg:Gl X "enumerate") (hm:X.mg "enumerate"=none) (hl:RE X WE l xl) (hb:bootBuiltins "enumerate"=some (.type "enumerate"):=by decide +kernel)
  (hs:starEach [l] X.env=[(false,eval l X.env)]:=by rfl):RI X WE (.Tuple es kk tp) (.Call (.Name "enumerate" p) [l] [] pos) (oD xl):=⟨by
 intro pins s σ H R I h
 obtain ⟨μ,S,τ,hr,sr,pp⟩:=h
 refine Call_ (cf I hg hm hb (PyProof.Rows.callWith_type1 (thn ((dR hl.h fU hs) pos pins s σ H (fun vs H1=>∃ x,vs=[x]∧∃ μ1 S1 z,HR μ1 S1 H1∧aM X.K X.mg μ1 S1 H1 x z∧aJ (fe X.K X.mg) WE μ1 S1 H1 (match z with
   | .d (.tup xs)=>.ok ⟨b6 0 xs,none⟩ S1
   | _=>.bad) R) I ?_) fun us s1 ⟨vs,H1,I1,r1,q1⟩=>?_) hs rfl))
 ·exact ⟨μ,S,τ,hr,sr,pp.bind fun v x S1 μ1 H1 st1 r1 p1=>⟨v,rfl,μ1,S1,x,st1.hr,r1,p1⟩⟩
 ·obtain ⟨x,e,μ1,S1,z,hr1,rz,p1⟩:=q1
  subst e
  obtain ⟨u,rfl,ru⟩:=vals1 r1
  split at p1
  ·obtain ⟨a,us,rfl,h0,g,rs⟩:=eV rz
   cases ru
   obtain ⟨its,rv,pl,hz⟩:=I1.tuple (SqT.of (K:=X.K) h0)
   have q:=p1.here hr1 (vI g rs hz)
   have hlt:a < s1.heap.objs.size:=pl.lt
   refine qw (show s1.heap.IsTuple a its.toArray from pl) fun h' he hit hk=>?_
   refine wpAny_pyIter_enum (s:={ s1 with heap:=h' }) he ?_
   have I2:Inv X pins σ H1 { s1 with heap:=h' }:=I1.kept (t':=s1.toks) hk
   refine ⟨s1.heap.objs.size+1,[s1.heap.objs.size+1,s1.heap.objs.size],_,_,H1,rfl,I2,qB a _ _ (Nat.succ_ne_self _) (Nat.ne_of_lt (Nat.lt_succ_of_lt hlt)) (Nat.ne_of_lt hlt),⟨⟨_,he⟩,hit⟩,fun b hb=>?_,q⟩
   have hle:s1.heap.objs.size≤b:=by
    rcases List.mem_cons.mp hb with z | z
    ·rw [z];exact Nat.le_succ _
    ·rw [List.mem_singleton.mp z];exact Nat.le_refl _
   exact I1.jS hle (I1.hok.fresh hle)
  ·exact p1.elim⟩
end
section
variable {prog:Program} {w:World} {A:Around} {E:Value→Shared→Prop} {s:Shared} {z TI TO i1 i2:Addr} {fp1 fp2:List Addr} {n1 n2 k:Nat} {P1 P2:Nat→Value→Prop} {S1 S2:Nat→Heap→Prop}
abbrev kq (h:Heap) (z TI TO T:Addr) (b:Bool):Prop:=h.get? z=some { cls:=.type "zip",dict:=none,data:=.fields #[rawInt T,.bool b,.bool false,.ref TI,.ref TO],slots:=#[] }
set_option hygiene false in
local macro_rules | `(tactic| walk_at "zi") => `(tactic| (
  have q1:S1 k g0:=D1.frame _ _ _ h1 fun c hc o q=>e0.extBut c o (fun y=>D.z1 (y ▸ hc)) q
  have q2:S2 k g0:=D2.frame _ _ _ h2 fun c hc o q=>e0.extBut c o (fun y=>D.z2 (y ▸ hc)) q
  refine wpAny_bind (wpAny_bind (wpAny_bind (wpAny_holding ?_)))
  refine (show wpAny _ _ (Builtin.SmallTypes.nextOf (.ref i1)>>=_) _ _ _ from wpAny_bind (D1.item k _ _ _ l1 q1 fun x g2 t2 p1 q1' e2=>wpAny_pure (wpAny_pure ?_)))
  replace e2:Heap.SameBut i1 g0 g2:=e2
  refine wpAny_bind (wpAny_bind (wpAny_holding ?_))
  have r2:S2 k g2:=D2.frame _ _ _ q2 fun c hc o q=>e2.extBut c o (fun y=>D.i12 (y ▸ hc)) q
  refine (show wpAny _ _ (Builtin.SmallTypes.nextOf (.ref i2)>>=_) _ _ _ from wpAny_bind (D2.item k _ _ _ l2 r2 fun y g4 t4 p2 r2' e4=>wpAny_pure (wpAny_pure (wpAny_pure ?_))))
  replace e4:Heap.SameBut i2 g2 g4:=e4
  refine wpAny_bind (wpAny_newTuple ?_ (by show 2≤sizeLine;decide))
  have hsz:g4.objs.size=s.heap.objs.size:=by rw [e4.1,e2.1,e0.1]
  refine wpAny_pure ⟨_,rfl,?_⟩
  show Q (.ref g4.objs.size) _
  rw [hsz]
  have up:∀ c o,g4.get? c=some o→(g4.push { cls:=.type "tuple",data:=.seq #[x,y] }).get? c=some o:=fun c o q=>Heap.get?_push_of_some _ q
  refine hQ x y _ _ p1 p2 (up _ _ (e4.extBut _ _ D.i2z.symm (e2.extBut _ _ D.i1z.symm hz0))) (up _ _ (e4.extBut _ _ D.TI2 (e2.extBut _ _ D.TI1 (e0.extBut _ _ D.TIz hTI)))) ?_ ?_ ?_ fun c o c1 c3 c4 q=>up _ _ (e4.extBut _ _ c4 (e2.extBut _ _ c3 (e0.extBut _ _ c1 q)))
  ·exact D1.frame _ _ _ q1' fun c hc o q=>up _ _ (e4.extBut c o (fun y=>D.i21 (y ▸ hc)) q)
  ·exact D2.frame _ _ _ r2' fun c hc o q=>up _ _ q
  ·rw [← hsz];exact Heap.get?_push_size _ rfl
 ))
set_option hygiene false in
local macro_rules | `(tactic| walk_at "ze") => `(tactic| (
  have q1:S1 k g0:=D1.frame _ _ _ h1 fun c hc o q=>e0.extBut c o (fun y=>D.z1 (y ▸ hc)) q
  have q2:S2 k g0:=D2.frame _ _ _ h2 fun c hc o q=>e0.extBut c o (fun y=>D.z2 (y ▸ hc)) q
  refine wpAny_bind (wpAny_bind (wpAny_bind (wpAny_holding ?_)))
  rcases hend with hk | ⟨hk,hk2⟩
  ·subst hk
   refine (show wpAny _ _ (Builtin.SmallTypes.nextOf (.ref i1)>>=_) _ _ _ from wpAny_bind (D1.done _ _ _ q1 fun g2 e e2 he=>?_))
   replace e2:Heap.ExtBut i1 g0 g2:=e2
   exact hE g2 e _ (fun c o c1 _ c3 _ q=>e2 _ _ c3 (e0.extBut _ _ c1 q)) he
  ·subst hk2
   refine (show wpAny _ _ (Builtin.SmallTypes.nextOf (.ref i1)>>=_) _ _ _ from wpAny_bind (D1.item k _ _ _ hk q1 fun x g2 t2 p1 q1' e2=>wpAny_pure (wpAny_pure ?_)))
   replace e2:Heap.SameBut i1 g0 g2:=e2
   refine wpAny_bind (wpAny_bind (wpAny_holding ?_))
   have r2:S2 k g2:=D2.frame _ _ _ q2 fun c hc o q=>e2.extBut c o (fun y=>D.i12 (y ▸ hc)) q
   refine (show wpAny _ _ (Builtin.SmallTypes.nextOf (.ref i2)>>=_) _ _ _ from wpAny_bind (D2.done _ _ _ r2 fun g4 e e4 he=>?_))
   replace e4:Heap.ExtBut i2 g2 g4:=e4
   exact hE g4 e _ (fun c o c1 _ c3 c4 q=>e4 _ _ c4 (e2.extBut _ _ c3 (e0.extBut _ _ c1 q))) he
 ))
theorem mf {T:Addr} {fl:Bool} {Q:Value→Shared→Prop} (D:bT z TI TO i1 i2 fp1 fp2) (D1:Draws prog w A i1 fp1 n1 P1 S1) (D2:Draws prog w A i2 fp2 n2 P2 S2) (hz:kq s.heap z TI TO T fl) (hT:∃ o,s.heap.get? T=some o) (hTI:IsPair s.heap TI (.ref i1) (.ref i2))
  (h1:S1 k s.heap) (h2:S2 k s.heap) (l1:k < n1) (l2:k < n2)
  (hQ:∀ x y h' tk,P1 k x→P2 k y→kq h' z TI TO T true→IsPair h' TI (.ref i1) (.ref i2)→S1 (k+1) h'→S2 (k+1) h'→IsPair h' s.heap.objs.size x y →
   (∀ c o,c≠z→c≠i1→c≠i2→s.heap.get? c=some o→h'.get? c=some o)→Q (.ref s.heap.objs.size) { s with heap:=h',toks:=tk }) :
  wpAny (model prog w) A (Builtin.«zip.__next__» ⟨[.ref z],[]⟩) (fun fin s'=>∃ v,fin=.done (.ret v)∧Q v s') E s:=by
 refine (show wpAny _ _ (field (.ref z) 2>>=_) _ _ _ from wpAny_bind (wpAny_field hz rfl (x:=.bool false) rfl ?_))
 refine (show wpAny _ _ (field (.ref z) 3>>=_) _ _ _ from wpAny_bind (wpAny_field hz rfl (x:=.ref TI) rfl ?_))
 refine wpAny_bind (wpAny_seqItems hTI rfl ?_)
 refine (show wpAny _ _ (Builtin.SmallTypes.ownedTupleIsFree (.ref z)>>=_) _ _ _ from wpAny_bind ?_)
 unfold Builtin.SmallTypes.ownedTupleIsFree
 refine wpAny_bind (wpAny_field hz rfl (x:=rawInt T) rfl ?_)
 refine (show wpAny _ _ (loadIfAlive ((T:Int)).toNat>>=_) _ _ _ from wpAny_bind (dn ?_))
 rw [Int.toNat_natCast]
 obtain ⟨oT,hoT⟩:=hT
 rw [hoT]
 refine wpAny_ite_false (by rfl) ?_
 refine wpAny_bind (wpAny_field hz rfl (x:=.bool fl) rfl ?_)
 have sb:Heap.SameBut z s.heap s.heap:=⟨rfl,fun _ _=>rfl⟩
 cases fl with
 | true=>
  refine wpAny_ite_false (by rfl) (wpAny_pure ?_)
  refine wpAny_ite_false (by rfl) ?_
  simp only [← Array.forIn_toList,List.forIn_cons,List.forIn_nil]
  have hz0:=hz
  let g0:=s.heap
  have e0:Heap.SameBut z s.heap g0:=sb
  walk_at "zi"
 | false=>
  refine wpAny_ite_true (by rfl) (wpAny_bind (wpAny_setField_rec hz (by simp) fun g0 hz0 e0=>wpAny_pure ?_))
  refine wpAny_ite_false (by rfl) ?_
  simp only [← Array.forIn_toList,List.forIn_cons,List.forIn_nil]
  walk_at "zi"
theorem oE {T:Addr} {fl:Bool} {Q:PySem.Fin→Shared→Prop} (D:bT z TI TO i1 i2 fp1 fp2) (D1:Draws prog w A i1 fp1 n1 P1 S1) (D2:Draws prog w A i2 fp2 n2 P2 S2) (hz:kq s.heap z TI TO T fl) (hT:∃ o,s.heap.get? T=some o) (hTI:IsPair s.heap TI (.ref i1) (.ref i2))
  (h1:S1 k s.heap) (h2:S2 k s.heap) (hend:k=n1∨(k < n1∧k=n2))
  (hE:∀ h' e tk,(∀ c o,c≠z→c≠TO→c≠i1→c≠i2→s.heap.get? c=some o→h'.get? c=some o)→(∃ o,h'.get? e=some o∧o.cls=.type "StopIteration")→E (.ref e) { s with heap:=h',toks:=tk }) :
  wpAny (model prog w) A (Builtin.«zip.__next__» ⟨[.ref z],[]⟩) Q E s:=by
 refine (show wpAny _ _ (field (.ref z) 2>>=_) _ _ _ from wpAny_bind (wpAny_field hz rfl (x:=.bool false) rfl ?_))
 refine (show wpAny _ _ (field (.ref z) 3>>=_) _ _ _ from wpAny_bind (wpAny_field hz rfl (x:=.ref TI) rfl ?_))
 refine wpAny_bind (wpAny_seqItems hTI rfl ?_)
 refine (show wpAny _ _ (Builtin.SmallTypes.ownedTupleIsFree (.ref z)>>=_) _ _ _ from wpAny_bind ?_)
 unfold Builtin.SmallTypes.ownedTupleIsFree
 refine wpAny_bind (wpAny_field hz rfl (x:=rawInt T) rfl ?_)
 refine (show wpAny _ _ (loadIfAlive ((T:Int)).toNat>>=_) _ _ _ from wpAny_bind (dn ?_))
 rw [Int.toNat_natCast]
 obtain ⟨oT,hoT⟩:=hT
 rw [hoT]
 refine wpAny_ite_false (by rfl) ?_
 refine wpAny_bind (wpAny_field hz rfl (x:=.bool fl) rfl ?_)
 have sb:Heap.SameBut z s.heap s.heap:=⟨rfl,fun _ _=>rfl⟩
 cases fl with
 | true=>
  refine wpAny_ite_false (by rfl) (wpAny_pure ?_)
  refine wpAny_ite_false (by rfl) ?_
  simp only [← Array.forIn_toList,List.forIn_cons,List.forIn_nil]
  have hz0:=hz
  let g0:=s.heap
  have e0:Heap.SameBut z s.heap g0:=sb
  walk_at "ze"
 | false=>
  refine wpAny_ite_true (by rfl) (wpAny_bind (wpAny_setField_rec hz (by simp) fun g0 hz0 e0=>wpAny_pure ?_))
  refine wpAny_ite_false (by rfl) ?_
  simp only [← Array.forIn_toList,List.forIn_cons,List.forIn_nil]
  walk_at "ze"
end
set_option maxRecDepth 100000
theorem fh:entryFor table "dict.update.loop"=some Builtin.«dict.update.loop»:=entryFor_of_tree (by rfl)
theorem cC:plainId "dict.update.loop"=true:=by decide +kernel
structure vc (prog:Program) (w:World) (A:Around) (I d:Addr) (wr:List Addr) (ps:List (Key×V)) (St:Nat→Heap→Prop):Prop where
 nd:d∉wr
 frame:∀ i h h',St i h→(∀ b o,b≠d→h.get? b=some o→h'.get? b=some o)→St i h'
 item:∀ i (s:Shared) (Q:Option Value→Shared→Prop) (E:Value→Shared→Prop),i < ps.length→St i s.heap→d < s.heap.objs.size →
  (∀ T k v x y h' tk,ps[i]?=some (k,v)→(ba prog w).is k x=true→RelV v y→h'.IsTuple T #[x,y]→St (i+1) h'→(∀ b o,b∉wr→s.heap.get? b=some o→h'.get? b=some o)→Q (some (.ref T)) { s with heap:=h',toks:=tk }) →
  wpAny (model prog w) A (pyNext (.ref I)) Q E s
 done:∀ (s:Shared) (Q:Option Value→Shared→Prop) (E:Value→Shared→Prop),St ps.length s.heap→(∀ h' tk,(∀ b o,b∉wr→s.heap.get? b=some o→h'.get? b=some o)→Q none { s with heap:=h',toks:=tk })→wpAny (model prog w) A (pyNext (.ref I)) Q E s
theorem oP (kvs:List (Key×V)) (ps:List (Key×V)) (k:Key) (v:V):cq kvs (ps++[(k,v)])=putK (cq kvs ps) k v:=by simp [cq,List.foldl_append]
theorem oW {prog:Program} {w:World} {A:Around} {I d:Addr} {wr:List Addr} {ps:List (Key×V)} {St:Nat→Heap→Prop} {R:Result→Shared→Prop} (W:vc prog w A.in1 I d wr ps St) (hn:ps.length≤100000) (res:Value) :
  ∀ (k i:Nat) (t:Tok) (s:Shared) (kvs:List (Key×Value)),ps.length - i=k→i≤ps.length→St i s.heap→s.heap.DictOf (ba prog w) d kvs→KV (cq [] (ps.take i)) kvs →
  (∀ h' tk kvs',h'.DictOf (ba prog w) d kvs'→KV (cq [] ps) kvs'→(∀ b o,b≠d→b∉wr→s.heap.get? b=some o→h'.get? b=some o)→R (.ok (.ret res)) { s with heap:=h',toks:=tk }) →
  codeAny (model prog w) A (.builtin "dict.update.loop" ⟨[.ref d,.ref I,.int i t,res],[]⟩) R s:=by
 intro k
 induction k with
 | zero=>
  intro i t s kvs hk hi hst hd hkv hR
  have hin:i=ps.length:=by omega
  subst hin
  rw [List.take_length] at hkv
  refine codeAny_builtin fh ?_
  rw [Around.under_plainId cC _]
  show wpAny _ A.in1 (pyNext (.ref I)>>=_) _ _ s
  refine wpAny_bind (W.done s _ _ hst fun h' tk hkp=>?_)
  refine wpAny_bind (wpAny_pure (wpAny_pure ?_))
  obtain ⟨o,es,ep,ho,r⟩:=hd
  exact hR h' tk kvs ⟨o,es,ep,hkp d o W.nd ho,r⟩ hkv fun b o _ hb e=>hkp b o hb e
 | succ k ih=>
  intro i t s kvs hk hi hst hd hkv hR
  have hlt:i < ps.length:=by omega
  refine codeAny_builtin fh ?_
  rw [Around.under_plainId cC _]
  show wpAny _ A.in1 (pyNext (.ref I)>>=_) _ _ s
  have hdl:d < s.heap.objs.size:=by obtain ⟨o,es,ep,ho,r⟩:=hd;exact Heap.lt_size ho
  refine wpAny_bind (W.item i s _ _ hlt hst hdl fun T key v x y h' tk hps hkey hv hT hst' hkp=>?_)
  have hd':h'.DictOf (ba prog w) d kvs:=by obtain ⟨o,es,ep,ho,r⟩:=hd;exact ⟨o,es,ep,hkp d o W.nd ho,r⟩
  have htk:ps.take (i+1)=ps.take i++[(key,v)]:=by rw [List.take_add_one,hps];rfl
  have hkv':KV (cq [] (ps.take (i+1))) (stored kvs key y):=by
   rw [htk,oP]
   exact hkv.put key hv
  obtain ⟨oT,hoT,hcT,nT,hdT⟩:=hT
  refine wpAny_bind (wpAny_holding (wpAny_bind (wpAny_tryCatch ?_)))
  unfold Builtin.Dict.pairItems
  refine wpAny_bind (wpAny_typeOf (T:="tuple") ⟨oT,hoT,hcT⟩ ?_)
  refine wpAny_ite_true (by rfl) ?_
  refine wpAny_bind (wpAny_seqItems hoT hdT (wpAny_pure ?_))
  have lk:kvs.length≤sizeLine:=by
   have l1:=hkv.length
   have l2:=fg (ps.take i) []
   rw [List.length_take,List.length_nil] at l2
   rw [sizeLine_eq]
   omega
  refine wpAny_holding (wpAny_dictSet_pairs (knd:=ba prog w) (hsz:=lk) hkey hd' fun h2 hd2 hs2=>?_)
  refine wpAny_pure ⟨plainId_quiet cC _,?_⟩
  refine ih (i+1) _ _ _ (by omega) hlt (W.frame _ _ _ hst' fun b o hb e=>(hs2.2 b hb).trans e) hd2 hkv' fun h3 tk3 kvs3 a b c=>hR h3 tk3 kvs3 a b fun b' o hb hw e=>c b' o hb hw ((hs2.2 b' hb).trans (hkp b' o hw e))
theorem nH:entryFor table "zip.__getattribute__"=some Builtin.«object.__getattribute__»:=entryFor_alias (id':="object.__getattribute__") (by rfl) (by decide +kernel) (by decide +kernel) (by rfl)
theorem o8:typeLookup (.type "zip") "keys"=pure none:=by rw [typeLookup_type,builtinLookup_eq_fast];rfl
theorem lg:typeLookup (.type "zip") "__getattr__"=pure none:=by rw [typeLookup_type,builtinLookup_eq_fast];rfl
theorem uw (a:Addr) (vs:Array Value) (u:Tok):Meets (Builtin.«object.__getattribute__» ⟨[.ref a,.str "keys" u],[]⟩) (fun A R s=>s.heap.get? a=some { cls:=.type "zip",dict:=none,data:=.fields vs,slots:=#[] }∧raisesAttr (.ref a) "keys" A R s):=
 Meets.of_wp fun prog w A R s hs=>by
  obtain ⟨hp,g,d,tk,os⟩:=s
  obtain ⟨hx,hs⟩:=hs
  have hT:(⟨hp,g,d,tk,os⟩:Shared).TypeIs (.ref a) "zip":=⟨_,hx,rfl⟩
  have hmiss:=o8
  unfold Builtin.«object.__getattribute__»
  repeat (any_goals (first | assumption | wp_step))
  exact wpAny_raiseAttrError hs.1 hs.2 (attrMsg_fits (by decide +kernel) (by decide +kernel))
theorem vX {prog:Program} {w:World} {A:Around} {E:Value→Shared→Prop} {s:Shared} {a:Addr} {vs:Array Value} {Q:Option Value→Shared→Prop} (hx:s.heap.get? a=some { cls:=.type "zip",dict:=none,data:=.fields vs,slots:=#[] }) (hA:A.handled=none)
  (h:∀ h' tk,(∀ b o,s.heap.get? b=some o→h'.get? b=some o)→Q none { s with heap:=h',toks:=tk }):wpAny (model prog w) A (getAttr? (.ref a) "keys") Q E s:=by
 obtain ⟨hp,g,d,tk,os⟩:=s
 have hT:∀ tk',(⟨hp,g,d,tk',os⟩:Shared).TypeIs (.ref a) "zip":=fun _=>⟨_,hx,rfl⟩
 have f1:=sub_AttributeError
 have f3:=F.slot_zip_getattribute.lookup
 have f4:=F.slot_zip_getattribute.bind (.ref a)
 have f5:=lg
 unfold getAttr? getAttrBy? getAttrBy
 repeat (any_goals (first | assumption | exact hT _ | ((with_reducible show wpAny _ _ (call (Value.builtin "zip.__getattribute__") _ _) _ _ _);refine call_meets F.slot_zip_getattribute (hT _) nH (F.args_zip_getattribute_2 _ _) (uw a vs _) ⟨hx,hA,fun h' tk' e hx'=>?_⟩) | wp_step))
 obtain ⟨t',u',he⟩:=hx'.there
 show wpAny _ _ (getattributeRaised _ _ _ _ _ _ _) _ _ _
 unfold getattributeRaised
 repeat (any_goals (first | assumption | wp_step))
 exact h _ _ hx'.keeps
set_option maxRecDepth 100000
section
variable {prog:Program} {w:World} {A:Around} {E:Value→Shared→Prop} {s:Shared}
theorem oX {src:Addr} {ps:List (Key×V)} {T:String} {wr0:List Addr} {Q:Value→Shared→Prop} (hh:A.handled=none) (hn:ps.length≤100000) (hT:∀ s':Shared,(∀ b o,s.heap.get? b=some o→s'.heap.get? b=some o)→s'.TypeIs (.ref src) T) (hne:(Value.type T == Value.type "dict")=false)
  (hkeys:∀ (s':Shared) (A':Around) (E':Value→Shared→Prop) (Q':Option Value→Shared→Prop),(∀ b o,s.heap.get? b=some o→s'.heap.get? b=some o)→A'.handled=none→(∀ h' tk,(∀ b o,s'.heap.get? b=some o→h'.get? b=some o)→Q' none { s' with heap:=h',toks:=tk })→wpAny (model prog w) A' (getAttr? (.ref src) "keys") Q' E' s')
  (hit:∀ (s':Shared) (A':Around) (E':Value→Shared→Prop) (Q':Value→Shared→Prop),(∀ b o,s.heap.get? b=some o→s'.heap.get? b=some o)→s.heap.objs.size < s'.heap.objs.size→(∀ (I:Addr) (wr:List Addr) (St:Nat→Heap→Prop) h' tk,(∀ b o,s'.heap.get? b=some o→h'.get? b=some o)→St 0 h'→(∀ b o,b∉wr0→s.heap.get? b=some o→b∉wr)→(∀ A'':Around,A''.handled=none→vc prog w A'' I s.heap.objs.size wr ps St)→Q' (.ref I) { s' with heap:=h',toks:=tk })→wpAny (model prog w) A' (pyIter (.ref src)) Q' E' s')
  (h:∀ h' tk kvs',h'.DictOf (ba prog w) s.heap.objs.size kvs'→KV (cq [] ps) kvs'→(∀ b o,b∉wr0→s.heap.get? b=some o→h'.get? b=some o)→Q (.ref s.heap.objs.size) { s with heap:=h',toks:=tk }) :
  wpAny (model prog w) A (call (.type "dict") [.ref src]) Q E s:=by
 refine callType_codes (Q₁:=fun obj s₁=>obj=.ref s.heap.objs.size∧s₁={ s with heap:=s.heap.push { cls:=.type "dict",data:=.dict #[] } }) F.kt_called_dict (F.kt_typeCall_dict_1 _) F.entry_dict_init (kt_code_dict_new _ ⟨rfl,rfl⟩) ?_
 rintro obj s₁ ⟨rfl,rfl⟩
 have hnew:(s.heap.push { cls:=.type "dict",data:=.dict #[] }).DictOf (ba prog w) s.heap.objs.size []:=Heap.DictOf.new s.heap
 have up:∀ b o,s.heap.get? b=some o→(s.heap.push { cls:=.type "dict",data:=.dict #[] }).get? b=some o:=fun b o e=>Heap.get?_push_of_some _ e
 refine ⟨hnew.typeIs,F.args_dict_init_2 _ _,?_⟩
 unfold Builtin.«dict.__init__»
 refine wpAny_bind ?_
 unfold Builtin.Dict.selfAndRest
 refine wpAny_bind (wpAny_notOrdered_dict hnew.typeIs ?_)
 show wpAny _ _ (pure (s.heap.objs.size,[Value.ref src])) _ _ _
 refine wpAny_pure ?_
 show wpAny _ _ (Builtin.Dict.updateFrom "dict.__init__" s.heap.objs.size (.ref src) [] .none) _ _ _
 unfold Builtin.Dict.updateFrom
 refine wpAny_bind (wpAny_typeOf (hT _ up) ?_)
 refine wpAny_ite_true (by show decide ((Value.type T != Value.type "dict")=true)=true;simp [bne,hne]) ?_
 refine wpAny_bind (hkeys _ _ _ _ up hh fun h1 t1 k1=>?_)
 refine wpAny_ite_true rfl (wpAny_bind (wpAny_rule (wpAny_bind ?_)))
 refine hit _ _ _ _ (fun b o e=>k1 b o (up b o e)) ?_ fun I wr St h2 t2 k2 st2 hw W=>wpAny_pure ⟨plainId_quiet cC _,?_⟩
 ·have e0:(s.heap.push { cls:=.type "dict",data:=.dict #[] }).get? s.heap.objs.size=some _:=Heap.get?_push_size _ rfl
  exact Heap.lt_size (k1 _ _ e0)
 ·have hd2:h2.DictOf (ba prog w) s.heap.objs.size []:=by
   obtain ⟨o,es,ep,ho,r⟩:=hnew
   exact ⟨o,es,ep,k2 _ _ (k1 _ _ ho),r⟩
  refine oW (W A.in1.in1 hh) hn .none ps.length 0 _ _ [] rfl (Nat.zero_le _) st2 hd2 .nil fun h3 t3 kvs3 d3 r3 k3=>⟨rfl,h h3 t3 kvs3 d3 r3 fun b o hb e=>k3 b o (Nat.ne_of_lt (Heap.lt_size e)) (hw b o hb e) (k2 b o (k1 b o (up b o e)))⟩
end
def StZ (d z TI TO i1 i2:Addr) (S1 S2:Nat→Heap→Prop) (i:Nat) (h:Heap):Prop:=IsPair h TI (.ref i1) (.ref i2)∧S1 i h∧S2 i h∧((IsZip h z TI TO .none∧∃ a b,IsPair h TO a b)∨∃ T fl,T∉[d,z,TO,i1,i2]∧kq h z TI TO T fl∧∃ o,h.get? T=some o)
theorem xI {prog:Program} {w:World} {A:Around} {d z TI TO i1 i2 t u:Addr} {xs ys:Array Value} {ks:List Key} {vs:List V} (hh:A.handled=none) (D:bT z TI TO i1 i2 [i1,t] [i2,u]) (n1:t≠i1) (n2:u≠i2) (hd:d∉[z,TI,TO,i1,i2,t,u])
  (rk:Vals (ks.map kV) xs.toList) (rv:Vals vs ys.toList):vc prog w A z d [z,TO,i1,i2] (ks.zip vs) (StZ d z TI TO i1 i2 (fun i h=>h.IsTupleIter i1 t i∧h.IsTuple t xs) (fun i h=>h.IsTupleIter i2 u i∧h.IsTuple u ys)) where
 nd:=fun h=>hd (by simp only [List.mem_cons,List.not_mem_nil,or_false] at h ⊢;rcases h with h | h | h | h<;>simp [h])
 frame:=fun i h h' st k=>by
  simp only [List.mem_cons,List.not_mem_nil,or_false,not_or] at hd
  obtain ⟨d1,d2,d3,d4,d5,d6,d7⟩:=hd
  obtain ⟨a,⟨b1,b2⟩,⟨c1,c2⟩,e⟩:=st
  refine ⟨k _ _ (Ne.symm d2) a,⟨b1.at fun o q=>k _ o (Ne.symm d4) q,b2.at fun o q=>k _ o (Ne.symm d6) q⟩,⟨c1.at fun o q=>k _ o (Ne.symm d5) q,c2.at fun o q=>k _ o (Ne.symm d7) q⟩,?_⟩
  rcases e with ⟨e1,x,y,e2⟩ | ⟨T,fl,e1,e2,o,e3⟩
  ·exact .inl ⟨k _ _ (Ne.symm d1) e1,x,y,k _ _ (Ne.symm d3) e2⟩
  ·exact .inr ⟨T,fl,e1,k _ _ (Ne.symm d1) e2,o,k _ _ (fun z=>e1 (by simp [z])) e3⟩
 item:=fun i s Q E hi st hlt hQ=>by
  obtain ⟨a,b,c,e⟩:=st
  have lk:ks.length=xs.size:=by have:=rk.length;simpa using this
  have lv:vs.length=ys.size:=by have:=rv.length;simpa using this
  rw [List.length_zip] at hi
  have l1:i < xs.size:=by omega
  have l2:i < ys.size:=by omega
  have dw1:=dA (prog:=prog) (w:=w) (A:=A.in1) hh i1 t n1 xs
  have dw2:=dA (prog:=prog) (w:=w) (A:=A.in1) hh i2 u n2 ys
  have get:∀ x y,xs[i]?=some x→ys[i]?=some y→∃ k v,(ks.zip vs)[i]?=some (k,v)∧(ba prog w).is k x=true∧RelV v y:=fun x y hx hy=>by
   have hk:ks[i]?=some (ks[i]'(by omega)):=List.getElem?_eq_getElem _
   have hv:vs[i]?=some (vs[i]'(by omega)):=List.getElem?_eq_getElem _
   obtain ⟨x',e1,r1⟩:=rk.get (x:=kV (ks[i]'(by omega))) (by rw [List.getElem?_map,hk];rfl)
   obtain ⟨y',e2,r2⟩:=rv.get hv
   rw [Array.getElem?_toList,hx] at e1
   rw [Array.getElem?_toList,hy] at e2
   cases e1;cases e2
   exact ⟨_,_,by rw [List.getElem?_zip_eq_some];exact ⟨hk,hv⟩,kN r1,r2⟩
  rcases e with ⟨e1,x0,y0,e2⟩ | ⟨T,fl,e1,e2,e3⟩
  ·refine l7 D dw1 dw2 e1 (.inl rfl) a e2 b c l1 l2 fun x y h' tk px py g1 g2 g3 g4 g5 g6 g7 g8=>?_
   obtain ⟨k,v,q1,q2,q3⟩:=get x y px py
   refine hQ _ k v x y h' tk q1 q2 q3 ⟨_,g6,rfl,_,rfl⟩ ⟨g2,g4,g5,.inr ⟨_,false,?_,g1,_,g6⟩⟩ fun b' o hb q=>g8 b' o (fun z=>hb (by simp [z])) (fun z=>hb (by simp [z])) (fun z=>hb (by simp [z])) (fun z=>hb (by simp [z])) q
   obtain ⟨⟨o1,b1,_⟩,_⟩:=b
   obtain ⟨⟨o2,c1,_⟩,_⟩:=c
   have:=Heap.lt_size b1
   have:=Heap.lt_size c1
   have:=Heap.lt_size e1
   have:=Heap.lt_size e2
   simp only [List.mem_cons,List.not_mem_nil,or_false,not_or]
   exact ⟨Nat.ne_of_gt hlt,Nat.ne_of_gt (Heap.lt_size e1),Nat.ne_of_gt (Heap.lt_size e2),Nat.ne_of_gt (Heap.lt_size b1),Nat.ne_of_gt (Heap.lt_size c1)⟩
  ·have hT:s.TypeIs (.ref z) "zip":=⟨_,e2,rfl⟩
   unfold pyNext
   refine wpAny_bind (wpAny_attempt (wpAny_callSpecial?_slot (name:=Str.ofString "__next__") hT F.slot_zip_next (wpAny_call_entry F.slot_zip_next hT F.entry_zip_next (mf D dw1 dw2 e2 e3 a b c l1 l2 fun x y h' tk px py g1 g2 g4 g5 g6 g8=>wpAny_pure ?_) (F.args_zip_next_1 _))))
   obtain ⟨k,v,q1,q2,q3⟩:=get x y px py
   obtain ⟨oT,hoT⟩:=e3
   refine hQ _ k v x y h' tk q1 q2 q3 ⟨_,g6,rfl,_,rfl⟩ ⟨g2,g4,g5,?_⟩ fun b' o hb q=>g8 b' o (fun z=>hb (by simp [z])) (fun z=>hb (by simp [z])) (fun z=>hb (by simp [z])) q
   have e1':=e1
   simp only [List.mem_cons,List.not_mem_nil,or_false,not_or] at e1'
   exact .inr ⟨T,true,e1,g1,oT,g8 T oT e1'.2.1 e1'.2.2.2.1 e1'.2.2.2.2 hoT⟩
 done:=fun s Q E st hQ=>by
  obtain ⟨a,b,c,e⟩:=st
  have lk:ks.length=xs.size:=by have:=rk.length;simpa using this
  have lv:vs.length=ys.size:=by have:=rv.length;simpa using this
  have dw1:=dA (prog:=prog) (w:=w) (A:=A.in1) hh i1 t n1 xs
  have dw2:=dA (prog:=prog) (w:=w) (A:=A.in1) hh i2 u n2 ys
  have hend:(ks.zip vs).length=xs.size∨((ks.zip vs).length < xs.size∧(ks.zip vs).length=ys.size):=by rw [List.length_zip];omega
  have kp:∀ {h':Heap},(∀ c o,c≠z→c≠TO→c≠i1→c≠i2→s.heap.get? c=some o→h'.get? c=some o)→∀ b o,b∉[z,TO,i1,i2]→s.heap.get? b=some o→h'.get? b=some o:=fun k b' o hb q=>k b' o (fun z=>hb (by simp [z])) (fun z=>hb (by simp [z])) (fun z=>hb (by simp [z])) (fun z=>hb (by simp [z])) q
  rcases e with ⟨e1,x0,y0,e2⟩ | ⟨T,fl,e1,e2,e3⟩
  ·exact oz D dw1 dw2 e1 (.inl rfl) a e2 b c hend fun h' tk k=>hQ h' tk (kp k)
  ·have hT:s.TypeIs (.ref z) "zip":=⟨_,e2,rfl⟩
   unfold pyNext
   refine wpAny_bind (wpAny_attempt (wpAny_callSpecial?_slot (name:=Str.ofString "__next__") hT F.slot_zip_next (wpAny_call_entry F.slot_zip_next hT F.entry_zip_next (oE D dw1 dw2 e2 e3 a b c hend fun h' e tk k he=>?_) (F.args_zip_next_1 _))))
   obtain ⟨o,ho,hc⟩:=he
   exact wpAny_bind (wpAny_isInstance (T:="StopIteration") (b:=true) ⟨o,ho,hc⟩ isSubtype_stop (wpAny_pure (hQ _ tk (kp k))))
def tDZ (ta:TA):TE:=fun σ H Q=>ta σ H fun vs H1=>∃ t u ks ys,vs=[.ref t,.ref u]∧H1 t=some (.tup (List.map kV ks))∧H1 u=some (.tup ys)∧(ks.zip ys).length≤100000∧∀ p,H1 p=none→Q (.ref p) (upd H1 p (.dK (cq [] (ks.zip ys))))
section
variable {X:Cx}
theorem qW {a b:Expr} {ta:TA} {p1 p2 pos1 pos2:Pos} (hc:X.calm=true) (hgd:Gl X "dict") (hmd:X.mg "dict"=none) (hgz:Gl X "zip") (hmz:X.mg "zip"=none) (hbd:bootBuiltins "dict"=some (.type "dict")) (hbz:bootBuiltins "zip"=some (.type "zip")) (ha:PA X [a,b] ta)
  (hs:starEach [a,b] X.env=[(false,eval a X.env),(false,eval b X.env)]:=by rfl) (hs2:starEach [b] X.env=[(false,eval b X.env)]:=by rfl)
  (hs3:starEach [Expr.Call (.Name "zip" p2) [a,b] [] pos2] X.env=(false,eval (Expr.Call (.Name "zip" p2) [a,b] [] pos2) X.env) :: starEach [] X.env:=by rfl) :
  PE X (.Call (.Name "dict" p1) [.Call (.Name "zip" p2) [a,b] [] pos2] [] pos1) (tDZ ta):=by
 intro pins s σ H Q I h
 refine Call_ (cf I hgd hmd hbd (PyProof.Rows.callWith_type1 ?_ hs3 rfl))
 rw [hs3]
 show wpAny _ _ (spliced ((false,eval (Expr.Call (.Name "zip" p2) [a,b] [] pos2) X.env) :: backTo pos1 (starEach [] X.env))) _ _ s
 refine Calls.spliced_cons ?_
 refine Call_ (cf I hgz hmz hbz (PyProof.Rows.callWith_type1 (thn (ha pos2 pins s σ H _ I h) fun us s1 ⟨vs,H1,I1,r1,t,u,ks,ys,ev,ht,hu,hl,q⟩=>?_) (by rw [hs,hs2]) (by rw [hs2];rfl)))
 subst ev
 obtain ⟨ut,uu,rfl,rt,ru⟩:=r1.two
 cases rt
 cases ru
 obtain ⟨xs,rx,px,hzx⟩:=I1.tuple (SqT.of (K:=X.K) ht)
 obtain ⟨zs,rz,pz,hzz⟩:=I1.tuple (SqT.of (K:=X.K) hu)
 have hh:X.A.handled=none:=I.ok.hd hc
 have lt:=px.lt
 have lu:=pz.lt
 refine lW (show s1.heap.IsTuple t xs.toArray from px) (show s1.heap.IsTuple u zs.toArray from pz) fun h1 z1 z2 z3 z4 z5 k1=>?_
 refine wpAny_pure ?_
 generalize hN:s1.heap.objs.size=N at *
 have ht':∀ c∈[N+4,N+2,N+3,N,N+1],t≠c:=fun c hc e=>by
  simp only [List.mem_cons,List.not_mem_nil,or_false] at hc
  have:N≤c:=by rcases hc with z | z | z | z | z<;>(rw [z];first | exact Nat.le_refl _ | exact Nat.le_add_right _ _)
  exact Nat.lt_irrefl _ (Nat.lt_of_lt_of_le lt (e ▸ this))
 have hu':∀ c∈[N+4,N+2,N+3,N,N+1],u≠c:=fun c hc e=>by
  simp only [List.mem_cons,List.not_mem_nil,or_false] at hc
  have:N≤c:=by rcases hc with z | z | z | z | z<;>(rw [z];first | exact Nat.le_refl _ | exact Nat.le_add_right _ _)
  exact Nat.lt_irrefl _ (Nat.lt_of_lt_of_le lu (e ▸ this))
 have I2:Inv X pins σ H1 { s1 with heap:=h1 }:=I1.kept (t':=s1.toks) k1
 have big:N+4 < h1.objs.size:=Heap.lt_size z1
 have t1:h1.IsTuple t xs.toArray:=by obtain ⟨o,e,r⟩:=px;exact ⟨o,k1 _ _ e,r⟩
 have u1:h1.IsTuple u zs.toArray:=by obtain ⟨o,e,r⟩:=pz;exact ⟨o,k1 _ _ e,r⟩
 have up:∀ {g:Heap} {s':Shared},(∀ b o,h1.get? b=some o→s'.heap.get? b=some o)→StZ h1.objs.size (N+4) (N+2) (N+3) N (N+1) (fun i h=>h.IsTupleIter N t i∧h.IsTuple t xs.toArray) (fun i h=>h.IsTupleIter (N+1) u i∧h.IsTuple u zs.toArray) 0 s'.heap:=fun k=>
  ⟨k _ _ z2,⟨z4.at fun o e=>k _ o e,t1.at fun o e=>k _ o e⟩,⟨z5.at fun o e=>k _ o e,u1.at fun o e=>k _ o e⟩,.inl ⟨k _ _ z1,_,_,k _ _ z3⟩⟩
 have hd:h1.objs.size∉[N+4,N+2,N+3,N,N+1,t,u]:=fun h=>by
  simp only [List.mem_cons,List.not_mem_nil,or_false] at h
  have:=t1
  obtain ⟨o,e,_⟩:=t1
  obtain ⟨o2,e2,_⟩:=u1
  have a1:=Heap.lt_size e
  have a2:=Heap.lt_size e2
  have a3:=Heap.lt_size z2
  have a4:=Heap.lt_size z3
  obtain ⟨o3,e3,_⟩:=z4
  obtain ⟨o4,e4,_⟩:=z5
  have a5:=Heap.lt_size e3
  have a6:=Heap.lt_size e4
  rcases h with z | z | z | z | z | z | z
  ·rw [← z] at big;exact Nat.lt_irrefl _ big
  ·rw [← z] at a3;exact Nat.lt_irrefl _ a3
  ·rw [← z] at a4;exact Nat.lt_irrefl _ a4
  ·rw [← z] at a5;exact Nat.lt_irrefl _ a5
  ·rw [← z] at a6;exact Nat.lt_irrefl _ a6
  ·rw [← z] at a1;exact Nat.lt_irrefl _ a1
  ·rw [← z] at a2;exact Nat.lt_irrefl _ a2
 refine oX (s:={ s1 with heap:=h1 }) (T:="zip") hh hl (fun s' k=>⟨_,k _ _ z1,rfl⟩) (by decide) (fun s' A' E' Q' k hA hQ'=>vX (k _ _ z1) hA hQ') (fun s' A' E' Q' k _ hQ'=>wpAny_pyIter_zip (k _ _ z1) (hQ' (N+4) [N+4,N+3,N,N+1] _ s'.heap s'.toks (fun _ _ e=>e) (up (g:=h1) k) (fun b o hb _=>hb)
  (fun A' hA=>xI hA (mT ht' hu') (ht' N (by simp)) (hu' (N+1) (by simp)) hd (by simpa using rx) (by simpa using rz)))) fun h3 t3 kvs3 d3 r3 k3=>?_
 have hw:∀ b o,s1.heap.get? b=some o→b∉[N+4,N+3,N,N+1]:=fun b o e hb=>by
  have lb:=Heap.lt_size e
  rw [hN] at lb
  simp only [List.mem_cons,List.not_mem_nil,or_false] at hb
  rcases hb with z | z | z | z<;>rw [z] at lb
  ·exact absurd lb (Nat.not_lt_of_le (Nat.le_add_right _ _))
  ·exact absurd lb (Nat.not_lt_of_le (Nat.le_add_right _ _))
  ·exact Nat.lt_irrefl _ lb
  ·exact absurd lb (Nat.not_lt_of_le (Nat.le_add_right _ _))
 have sz:(cq [] (ks.zip ys)).length≤sizeLine:=by
  have:=fg (ks.zip ys) []
  rw [List.length_nil] at this
  rw [sizeLine_eq]
  omega
 have hle:s1.heap.objs.size≤h1.objs.size:=by rw [hN];exact Nat.le_of_lt (Nat.lt_of_le_of_lt (Nat.le_add_right _ _) big)
 exact ⟨.ref h1.objs.size,_,I1.laid (t':=t3) (a:=h1.objs.size) (o:=.dK (cq [] (ks.zip ys))) (fun b o e=>k3 b o (hw b o e) (k1 b o e)) hle (tJ sz (beq_eq_false_iff_ne.mpr (Ne.symm (Nat.ne_of_lt (Nat.lt_of_lt_of_le I1.big hle)))) r3 d3),rfl,q _ (I1.hok.fresh hle)⟩
end
def jt:List D→Option (List Key)
 | []=>some []
 | x :: r=>(match gA x,jt r with
  | some k,some l=>some (k :: l)
  | _,_=>none)
def fDZ (zs:List Vl) (S:Sto):R Vl:=match zs with
 | [.d (.tup xs),.d (.tup ys)]=>(match jt xs with
  | some ks=>if (ks.zip ys).length≤100000 then .ok (.r S.length) (S++[.dct (dz [] (ks.zip ys))]) else .bad
  | none=>.bad)
 | _=>.bad
theorem m6 {G:Hp}:∀ {vs:List V} {xs:List D} {ks:List Key},av G vs xs→jt xs=some ks→vs=ks.map kV∧ks.length=xs.length
 | _,_,_,.nil,e=>by cases e;exact ⟨rfl,rfl⟩
 | _,_,ks,.cons r t,e=>by
  simp only [jt] at e
  split at e
  ·rename_i k l hk hl
   cases e
   obtain ⟨h1,h2⟩:=m6 t hl
   exact ⟨by rw [List.map_cons,jA r hk,h1],by simp [h2]⟩
  ·cases e
theorem nO {G:Hp}:∀ (ks:List Key) {vs:List V} {ys:List D},av G vs ys→∃ us,us.length=(ks.zip ys).length∧ks.zip vs=((ks.zip ys).map (·.1)).zip us∧av G us ((ks.zip ys).map (·.2))
 | [],_,_,_=>⟨[],rfl,rfl,.nil⟩
 | _ :: _,_,_,.nil=>⟨[],rfl,rfl,.nil⟩
 | k :: ks,_,_,.cons (v:=v) r t=>by
  obtain ⟨us,l,e,rs⟩:=nO ks t
  exact ⟨v :: us,by simp [l],by simp [e],.cons r rs⟩
section
variable {X:Cx} {WE:WX}
theorem kU {a b:Expr} {ts:XA} {p1 p2 pos1 pos2:Pos} (hc:X.calm=true) (hgd:Gl X "dict") (hmd:X.mg "dict"=none) (hgz:Gl X "zip") (hmz:X.mg "zip"=none) (hbd:bootBuiltins "dict"=some (.type "dict")) (hbz:bootBuiltins "zip"=some (.type "zip")) (ha:RA X WE [a,b] ts)
  (hs:starEach [a,b] X.env=[(false,eval a X.env),(false,eval b X.env)]:=by rfl) (hs2:starEach [b] X.env=[(false,eval b X.env)]:=by rfl)
  (hs3:starEach [Expr.Call (.Name "zip" p2) [a,b] [] pos2] X.env=(false,eval (Expr.Call (.Name "zip" p2) [a,b] [] pos2) X.env) :: starEach [] X.env:=by rfl) :
  RE X WE (.Call (.Name "dict" p1) [.Call (.Name "zip" p2) [a,b] [] pos2] [] pos1) (xN fDZ ts):=
 ⟨(qW hc hgd hmd hgz hmz hbd hbz ha.h hs hs2 hs3).weak fun σ H Q ⟨μ,S,τ,hr,sr,p⟩=>⟨μ,S,τ,hr,sr,p.bind fun vs zs S1 μ1 H1 st1 r1 p1=>by
  unfold fDZ at p1
  split at p1
  ·rename_i xs ys
   split at p1
   ·rename_i ks hk
    split at p1
    ·rename_i hl
     cases r1 with
     | cons ra r1=>cases r1 with
      | cons rb r1=>
       cases r1
       obtain ⟨a1,us,rfl,h1,g1,rs1⟩:=eV ra
       obtain ⟨a2,ws,rfl,h2,g2,rs2⟩:=eV rb
       obtain ⟨ek,lk⟩:=m6 rs1 hk
       subst ek
       have lw:=rs2.length
       refine ⟨a1,a2,ks,ws,rfl,h1,h2,?_,fun q hq=>?_⟩
       ·rw [List.length_zip] at hl ⊢;omega
       ·obtain ⟨vs2,l2,e2,r2⟩:=nO ks rs2
        obtain ⟨us3,l3,e3,r3⟩:=nV (kvs:=[]) (ws:=[]) r2 av.nil
        have e4:cq [] (ks.zip ws)=((dz [] (ks.zip ys)).map (·.1)).zip us3:=by rw [e2];exact e3
        rw [e4]
        exact p1 _ _ _ (Step.alloc st1.hr hq (ob:=.dct (dz [] (ks.zip ys))) ⟨us3,l3,rfl,r3⟩) ⟨by rw [cy],by simp⟩
    ·exact p1.elim
   ·exact p1.elim
  ·exact p1.elim⟩⟩
end
set_option maxRecDepth 100000
inductive lI (H:Hp):List V→List (Key×V)→Prop
 | nil:lI H [] []
 | cons {T:Addr} {k:Key} {v:V} {vs:List V} {ps:List (Key×V)}:H T=some (.tup [kV k,v])→lI H vs ps→lI H (.ref T :: vs) ((k,v) :: ps)
def vS (sc:Scope):Scope:={ sc with names:=sc.names.map fun (n,k)=>if k == NameKind.free then (n,NameKind.cell) else (n,k) }
section
variable {X0:Cx} {WE:WX} {tg elt iter:Expr} {ifs:List Expr} {scope esc:Scope} {EN:List Str} {pos:Pos} {it:XI} {g:XG} {t:XT} {e:XE} {k:Nat} {fin:Nat→List D→Sto→R Vl} {C0:Addr} {s0:Shared} {H0:Hp} {fp0:List Addr}
theorem Aj (hfin:kM fin) (N:List Str) (hi:RI (bA X0 esc EN C0 s0 H0 fp0) WE tg iter it) (hg:∀ C s H fp,LQ scope N→RG (bA (bA X0 esc EN C0 s0 H0 fp0) scope N C s H fp) WE tg g) (ht:∀ C s H fp,RTs (bA (bA X0 esc EN C0 s0 H0 fp0) scope N C s H fp) WE ifs t) (he:∀ C s H fp,RE (bA (bA X0 esc EN C0 s0 H0 fp0) scope N C s H fp) WE elt e)
  (hE:EN.Nodup:=by decide +kernel) (hd:N.Nodup:=by decide +kernel) (Sc:dc (vS esc) scope EN N k:=by exact ⟨rfl,by decide +kernel,by decide +kernel,by decide +kernel,by decide +kernel,by decide +kernel⟩) (h1:(bA X0 esc EN C0 s0 H0 fp0).env.scope=vS esc:=by exact rfl) (hc:X0.calm=true:=by exact rfl)
  (hs:∀ x,foldedSetIterable iter (bA X0 esc EN C0 s0 H0 fp0).env x=pure x:=by intro _;rfl):RE (bA X0 esc EN C0 s0 H0 fp0) WE (.ListComp elt [⟨tg,iter,ifs,0⟩] scope pos) (oA fin it k g t e):=
 b_ (esc:=vS esc) hfin N ⟨hE⟩ hi hg ht he hd Sc h1 rfl hc hs
end
section
variable {prog:Program} {w:World} {A:Around} {E:Value→Shared→Prop} {s:Shared} {z TI TO i1 i2:Addr} {fp1 fp2:List Addr} {n1 n2 k:Nat} {P1 P2:Nat→Value→Prop} {S1 S2:Nat→Heap→Prop}
theorem oR {own:Value} {fl:Bool} {Q:Value→Shared→Prop} (hz:cv s.heap z TI TO own fl) (h:Q (.ref z) s):wpAny (model prog w) A (pyIter (.ref z)) Q E s:=by
 have hT:s.TypeIs (.ref z) "zip":=⟨_,hz,rfl⟩
 refine wpAny_pyIter_slot hT F.slot_zip_iter (wpAny_call_entry F.slot_zip_iter hT F.entry_zip_iter ?_ (F.args_zip_iter_1 _))
 show wpAny _ _ (ret (.ref z)) _ _ s
 exact wpAny_pure ⟨_,rfl,"zip",_,hT,F.slot_zip_next.lookup,h⟩
def qA (h:Heap) (z TI TO:Addr):Prop:=(∃ own fl,cv h z TI TO own fl∧(own=.none∨∃ T:Addr,own=rawInt T))∧∃ a b,IsPair h TO a b
theorem sv {Q:Option Value→Shared→Prop} (D:bT z TI TO i1 i2 fp1 fp2) (D1:Draws prog w A.in1 i1 fp1 n1 P1 S1) (D2:Draws prog w A.in1 i2 fp2 n2 P2 S2) (hz:qA s.heap z TI TO) (hTI:IsPair s.heap TI (.ref i1) (.ref i2))
  (h1:S1 k s.heap) (h2:S2 k s.heap) (l1:k < n1) (l2:k < n2)
  (hQ:∀ x y h' tk,P1 k x→P2 k y→qA h' z TI TO→IsPair h' TI (.ref i1) (.ref i2)→S1 (k+1) h'→S2 (k+1) h'→IsPair h' s.heap.objs.size x y →
   (∀ c o,c≠z→c≠TO→c≠i1→c≠i2→s.heap.get? c=some o→h'.get? c=some o)→Q (some (.ref s.heap.objs.size)) { s with heap:=h',toks:=tk }) :
  wpAny (model prog w) A (pyNext (.ref z)) Q E s:=by
 obtain ⟨⟨own,fl,hz,ho⟩,a,b,hTO⟩:=hz
 have free:ic s.heap own→wpAny (model prog w) A (pyNext (.ref z)) Q E s:=fun hf=>
  l7 D D1 D2 hz hf hTI hTO h1 h2 l1 l2 fun x y h' tk a1 a2 a3 a4 a5 a6 a7 a8 _ a10=>hQ x y h' tk a1 a2 ⟨⟨_,false,a3,.inr ⟨_,rfl⟩⟩,_,_,a5⟩ a4 a6 a7 a8 a10
 rcases ho with rfl | ⟨T,rfl⟩
 ·exact free (.inl rfl)
 ·cases hT:s.heap.get? T with
  | none=>exact free (.inr ⟨T,rfl,hT⟩)
  | some o=>
   have ty:s.TypeIs (.ref z) "zip":=⟨_,hz,rfl⟩
   unfold pyNext
   refine wpAny_bind (wpAny_attempt (wpAny_callSpecial?_slot (name:=Str.ofString "__next__") ty F.slot_zip_next (wpAny_call_entry F.slot_zip_next ty F.entry_zip_next (mf D D1 D2 hz ⟨o,hT⟩ hTI h1 h2 l1 l2 fun x y h' tk px py g1 g2 g4 g5 g6 g8=>wpAny_pure ?_) (F.args_zip_next_1 _))))
   exact hQ x y h' tk px py ⟨⟨_,true,g1,.inr ⟨T,rfl⟩⟩,_,_,g8 _ _ D.TOz D.TOi1 D.TOi2 hTO⟩ g2 g4 g5 g6 fun c o c1 _ c3 c4 q=>g8 c o c1 c3 c4 q
theorem vO {Q:Option Value→Shared→Prop} (D:bT z TI TO i1 i2 fp1 fp2) (D1:Draws prog w A.in1 i1 fp1 n1 P1 S1) (D2:Draws prog w A.in1 i2 fp2 n2 P2 S2) (hz:qA s.heap z TI TO) (hTI:IsPair s.heap TI (.ref i1) (.ref i2))
  (h1:S1 k s.heap) (h2:S2 k s.heap) (hend:k=n1∨(k < n1∧k=n2))
  (hQ:∀ h' tk,(∀ c o,c≠z→c≠TO→c≠i1→c≠i2→s.heap.get? c=some o→h'.get? c=some o)→Q none { s with heap:=h',toks:=tk }):wpAny (model prog w) A (pyNext (.ref z)) Q E s:=by
 obtain ⟨⟨own,fl,hz,ho⟩,a,b,hTO⟩:=hz
 have free:ic s.heap own→wpAny (model prog w) A (pyNext (.ref z)) Q E s:=fun hf=>oz D D1 D2 hz hf hTI hTO h1 h2 hend hQ
 rcases ho with rfl | ⟨T,rfl⟩
 ·exact free (.inl rfl)
 ·cases hT:s.heap.get? T with
  | none=>exact free (.inr ⟨T,rfl,hT⟩)
  | some o=>
   have ty:s.TypeIs (.ref z) "zip":=⟨_,hz,rfl⟩
   unfold pyNext
   refine wpAny_bind (wpAny_attempt (wpAny_callSpecial?_slot (name:=Str.ofString "__next__") ty F.slot_zip_next (wpAny_call_entry F.slot_zip_next ty F.entry_zip_next (oE D D1 D2 hz ⟨o,hT⟩ hTI h1 h2 hend fun h' e tk k he=>?_) (F.args_zip_next_1 _))))
   obtain ⟨o,ho,hc⟩:=he
   exact wpAny_bind (wpAny_isInstance (T:="StopIteration") (b:=true) ⟨o,ho,hc⟩ isSubtype_stop (wpAny_pure (hQ _ tk k)))
end
theorem rW {P:Program} {w:World} {K:PySem.W.Frag} {nm:Str} {tp:Pos} (t u N:Addr) :
  Turn P w K (.Name nm tp) (Itz t u) [N+4,N+2,N+3,N,N+1] (N+4)
   (fun i h=>qA h (N+4) (N+2) (N+3)∧IsPair h (N+2) (.ref N) (.ref (N+1))∧h.IsTupleIter N t i∧h.IsTupleIter (N+1) u i) where
 mem:=by simp
 obj:=fun i h st b hb=>by
  obtain ⟨⟨⟨own,fl,h1,_⟩,x,y,h3⟩,h2,⟨o4,h4,_,d4⟩,⟨o5,h5,_,d5⟩⟩:=st
  simp only [List.mem_cons,List.not_mem_nil,or_false] at hb
  rcases hb with z | z | z | z | z
  ·rw [z];exact ⟨_,h1,fun v z=>by
    have z':Data.fields _=Data.cell v:=z
    cases z'⟩
  ·rw [z];exact ⟨_,h2,fun v z=>by
    have z':Data.seq _ _=Data.cell v:=z
    cases z'⟩
  ·rw [z];exact ⟨_,h3,fun v z=>by
    have z':Data.seq _ _=Data.cell v:=z
    cases z'⟩
  ·rw [z];exact ⟨o4,h4,fun v z=>by rw [d4] at z;cases z⟩
  ·rw [z];exact ⟨o5,h5,fun v z=>by rw [d5] at z;cases z⟩
 keep:=fun i h h' st k=>by
  obtain ⟨⟨⟨own,fl,h1,ho⟩,x,y,h3⟩,h2,h4,h5⟩:=st
  exact ⟨⟨⟨own,fl,k _ (by simp) _ h1,ho⟩,x,y,k _ (by simp) _ h3⟩,k _ (by simp) _ h2,h4.at fun o q=>k _ (by simp) o q,h5.at fun o q=>k _ (by simp) o q⟩
 item:=by
  intro X hP hw hK hc i pins s σ H E I hf st hg
  subst hP hw hK
  obtain ⟨h1,h2,h4,h5⟩:=st
  obtain ⟨xs,ys,x,y,hx,hy,ex,ey⟩:=hg
  obtain ⟨its,rv,p,hz⟩:=I.tuple (SqT.of hx)
  obtain ⟨its2,rv2,p2,hz2⟩:=I.tuple (SqT.of hy)
  obtain ⟨a,ha,ra⟩:=rv.get ex
  obtain ⟨b,hb,rb⟩:=rv2.get ey
  have D0:=mT (N:=N) (t:=t) (u:=u) (fun c hc e=>by rw [e,(hf c hc).1] at hx;cases hx) (fun c hc e=>by rw [e,(hf c hc).1] at hy;cases hy)
  have hA:X.A.in1.handled=none:=I.ok.hd hc
  have tn:t≠N:=fun e=>by rw [e,(hf N (by simp)).1] at hx;cases hx
  have un:u≠N+1:=fun e=>by rw [e,(hf (N+1) (by simp)).1] at hy;cases hy
  have la:i < its.toArray.size:=by
   have:=(List.getElem?_eq_some_iff.mp ha).1
   simpa using this
  have lb:i < its2.toArray.size:=by
   have:=(List.getElem?_eq_some_iff.mp hb).1
   simpa using this
  refine sv D0 (dA (prog:=X.prog) (w:=X.w) hA N t tn its.toArray) (dA (prog:=X.prog) (w:=X.w) hA (N+1) u un its2.toArray) h1 h2 ⟨h4,p⟩ ⟨h5,p2⟩ la lb fun x' y' g1 tk px py z1 z2 z4 z5 z6 k1=>?_
  obtain rfl:x'=a:=by
   have e:its.toArray[i]?=some x':=px
   rw [List.getElem?_toArray,ha] at e
   exact (Option.some.inj e).symm
  obtain rfl:y'=b:=by
   have e:its2.toArray[i]?=some y':=py
   rw [List.getElem?_toArray,hb] at e
   exact (Option.some.inj e).symm
  refine ⟨_,rfl,wpAny_pure ?_⟩
  have k2:∀ c o,c∉[N+4,N+2,N+3,N,N+1]→s.heap.get? c=some o→g1.get? c=some o:=fun c o hc q=>k1 c o (fun z=>hc (by simp [z])) (fun z=>hc (by simp [z])) (fun z=>hc (by simp [z])) (fun z=>hc (by simp [z])) q
  have I2:Inv X pins σ (upd H s.heap.objs.size (.tup [x,y])) { s with heap:=g1,toks:=tk }:=by
   refine I.j8 (fp:=[N+4,N+2,N+3,N,N+1]) (Nat.le_refl _) k2 hf ?_
   exact ⟨by show 2≤sizeLine;decide,[x',y'],.cons ra (.cons rb .nil),⟨_,z6,rfl,_,rfl⟩⟩
  refine ⟨.ref s.heap.objs.size,_,I2,rfl,⟨s.heap.objs.size,x,y,I.hok.fresh (Nat.le_refl _),rfl,rfl,fun zs hy=>?_,fun zs hy'=>?_⟩,⟨z1,z2,z4.1,z5.1⟩,fun b hb=>?_⟩
  ·rw [hx] at hy;cases hy;exact ex
  ·rw [hy] at hy';cases hy';exact ey
  ·have hlt:b < s.heap.objs.size:=by
    obtain ⟨⟨own,fl,q1,_⟩,x,y,q3⟩:=h1
    simp only [List.mem_cons,List.not_mem_nil,or_false] at hb
    rcases hb with z | z | z | z | z
    ·rw [z];exact Heap.lt_size q1
    ·rw [z];exact Heap.lt_size h2
    ·rw [z];exact Heap.lt_size q3
    ·obtain ⟨o,q,_⟩:=h4;rw [z];exact Heap.lt_size q
    ·obtain ⟨o,q,_⟩:=h5;rw [z];exact Heap.lt_size q
   rw [aD (Nat.ne_of_lt hlt)]
   exact (hf b hb).1
 done:=by
  intro X hP hw hK hc i pins s σ H E I hf st hg
  subst hP hw hK
  obtain ⟨h1,h2,h4,h5⟩:=st
  obtain ⟨xs,ys,hx,hy,lx,ly,hend⟩:=hg
  obtain ⟨its,rv,p,hz⟩:=I.tuple (SqT.of hx)
  obtain ⟨its2,rv2,p2,hz2⟩:=I.tuple (SqT.of hy)
  have D0:=mT (N:=N) (t:=t) (u:=u) (fun c hc e=>by rw [e,(hf c hc).1] at hx;cases hx) (fun c hc e=>by rw [e,(hf c hc).1] at hy;cases hy)
  have hA:X.A.in1.handled=none:=I.ok.hd hc
  have tn:t≠N:=fun e=>by rw [e,(hf N (by simp)).1] at hx;cases hx
  have un:u≠N+1:=fun e=>by rw [e,(hf (N+1) (by simp)).1] at hy;cases hy
  have l1:=rv.length
  have l2:=rv2.length
  refine vO D0 (dA (prog:=X.prog) (w:=X.w) hA N t tn its.toArray) (dA (prog:=X.prog) (w:=X.w) hA (N+1) u un its2.toArray) h1 h2 ⟨h4,p⟩ ⟨h5,p2⟩ ?_ fun h' tk hk=>⟨rfl,?_⟩
  ·simp only [List.size_toArray]
   omega
  ·refine I.yn (fp:=[N+4,N+2,N+3,N,N+1]) (fun c o hc q=>?_) hf
   exact hk c o (fun z=>hc (by simp [z])) (fun z=>hc (by simp [z])) (fun z=>hc (by simp [z])) (fun z=>hc (by simp [z])) q
 self:=fun _ _ _ _ _ st h=>by
  obtain ⟨⟨⟨own,fl,q1,_⟩,_⟩,_⟩:=st
  exact oR q1 h
def uC (zs:List Vl) (S:Sto):R Its:=match zs with
 | [.d (.tup xs),.d (.tup ys)]=>.ok ⟨d8 xs ys,none⟩ S
 | _=>.bad
def iZt (as:XA):XI:=fun τ S=>(as τ S).bind uC
section
variable {X:Cx} {WE:WX}
theorem xK {nm:Str} {tp:Pos} {a b:Expr} {xa:XA} {p pos:Pos} (hg:Gl X "zip") (hm:X.mg "zip"=none) (ha:RA X WE [a,b] xa) (hb:bootBuiltins "zip"=some (.type "zip"):=by decide +kernel)
  (hs:starEach [a,b] X.env=[(false,eval a X.env),(false,eval b X.env)]:=by rfl) (hs2:starEach [b] X.env=[(false,eval b X.env)]:=by rfl):RI X WE (.Name nm tp) (.Call (.Name "zip" p) [a,b] [] pos) (iZt xa):=⟨by
 intro pins s σ H R I h
 obtain ⟨μ,S,τ,hr,sr,pp⟩:=h
 refine Call_ (cf I hg hm hb (PyProof.Rows.callWith_type1 (thn (ha.h pos pins s σ H (fun vs H1=>∃ μ1 S1 zs,HR μ1 S1 H1∧bu X.K X.mg μ1 S1 H1 vs zs∧aJ (fe X.K X.mg) WE μ1 S1 H1 (uC zs S1) R) I ?_) fun us s1 ⟨vs,H1,I1,r1,q1⟩=>?_) (by rw [hs,hs2]) (by rw [hs2];rfl)))
 ·exact ⟨μ,S,τ,hr,sr,pp.bind fun v x S1 μ1 H1 st1 r1 p1=>⟨μ1,S1,x,st1.hr,r1,p1⟩⟩
 ·obtain ⟨μ1,S1,zs,hr1,rz,p1⟩:=q1
  have fp:∀ b∈[s1.heap.objs.size+4,s1.heap.objs.size+2,s1.heap.objs.size+3,s1.heap.objs.size,s1.heap.objs.size+1],s1.heap.objs.size≤b:=by
   intro b hb
   simp only [List.mem_cons,List.not_mem_nil,or_false] at hb
   rcases hb with z | z | z | z | z<;>rw [z]
   ·exact Nat.le_add_right _ _
   ·exact Nat.le_add_right _ _
   ·exact Nat.le_add_right _ _
   ·exact Nat.le_refl _
   ·exact Nat.le_add_right _ _
  unfold uC at p1
  split at p1
  ·rename_i xs ys
   cases rz with
   | cons q1 q2=>cases q2 with
    | cons q2 q3=>
     cases q3
     obtain ⟨u1,u2,rfl,ru,rw'⟩:=r1.two
     cases (show Rep (vh μ1 S1 H1) _ (.tup _) from q1) with
     | @tup t vs1 _ g rs=>
      cases (show Rep (vh μ1 S1 H1) _ (.tup _) from q2) with
      | @tup u vs2 _ g2 rs2=>
       cases ru;cases rw'
       obtain ⟨its,rv,pl,hz⟩:=I1.tuple (SqT.of (aO g).2)
       obtain ⟨its2,rv2,pl2,hz2⟩:=I1.tuple (SqT.of (aO g2).2)
       have q:=p1.here hr1 (Az g rs g2 rs2 hz)
       refine lW pl pl2 fun h' z1 z2 z3 z4 z5 hk=>?_
       refine wpAny_pyIter_zip (s:={ s1 with heap:=h' }) z1 ?_
       have I2:Inv X pins σ H1 { s1 with heap:=h' }:=I1.kept (t':=s1.toks) hk
       exact ⟨s1.heap.objs.size+4,_,_,_,H1,rfl,I2,rW t u s1.heap.objs.size,⟨⟨⟨_,_,z1,.inl rfl⟩,_,_,z3⟩,z2,z4,z5⟩,fun b hb=>I1.jS (fp b hb) (I1.hok.fresh (fp b hb)),q⟩
  ·exact p1.elim⟩
end
def least (ns:List Int) (n:Int):Int:=ns.foldl (fun m k=>if k < m then k else m) n
theorem j7:∀ (ns:List Int) (n:Int),(least ns n=n∨least ns n∈ns)∧least ns n≤n∧∀ k∈ns,least ns n≤k
 | [],n=>⟨.inl rfl,Int.le_refl _,fun _ h=>by cases h⟩
 | k :: ns,n=>by
  obtain ⟨h1,h2,h3⟩:=j7 ns (if k < n then k else n)
  show (least ns (if k < n then k else n)=n∨least ns (if k < n then k else n)∈k :: ns)∧least ns (if k < n then k else n)≤n∧∀ j∈k :: ns,least ns (if k < n then k else n)≤j
  refine ⟨?_,?_,fun j hj=>?_⟩
  ·rcases h1 with h1 | h1
   ·rw [h1]
    split
    ·exact .inr List.mem_cons_self
    ·exact .inl rfl
   ·exact .inr (List.mem_cons_of_mem _ h1)
  ·by_cases q:k < n
   ·rw [if_pos q] at h2 ⊢;omega
   ·rw [if_neg q] at h2 ⊢;omega
  ·rcases List.mem_cons.mp hj with e | hj
   ·subst e
    by_cases q:j < n
    ·rw [if_pos q] at h2 ⊢;omega
    ·rw [if_neg q] at h2 ⊢;omega
   ·exact h3 j hj
def df (f:List Int→Int→Int) (xs:List Vl) (S:Sto):R Vl:=match xs with
 | [x]=>(match (bJ x S).bind intsOf with
  | some (n :: ns)=>.ok (.d (.int (f ns n))) S
  | _=>.bad)
 | _=>.bad
def oB (le:Int→Int→Prop):List V→Hp→VK→Prop:=fun vs H Q=>∃ (p:Addr) (ns:List Int),vs=[.ref p]∧(H p=some (.lst (ns.map V.int))∨H p=some (.tup (ns.map V.int)))∧0 < ns.length∧∀ M,M∈ns→(∀ a∈ns,le a M)→Q (.int M) H
section
variable {prog:Program} {w:World} {A:Around} {E:Value→Shared→Prop} {s:Shared} {l:Addr} {xs:Array (Int×Tok)}
theorem jE {Q:Value→Shared→Prop} (hl:s.heap.IsTuple l (intItems xs))
  (h:∀ s₂:Shared,s₂={ s with heap:=s.heap.push { cls:=.type "tuple_iterator",data:=.fields #[.ref l,.int 0 0] } } →
   (s₂.heap.IsTupleIter s.heap.objs.size l 0∧s₂.heap.IsTuple l (intItems xs))→(∀ b∈[s.heap.objs.size,l],b < s₂.heap.objs.size)→l≠s.heap.objs.size→Q (.ref s.heap.objs.size) s₂) :
  wpAny (model prog w) A (pyIter (.ref l)) Q E s:=by
 have hlt:l < s.heap.objs.size:=by obtain ⟨_,e,_⟩:=hl;exact Heap.lt_size e
 have hl':=hl
 refine wpAny_pyIter_tuple hl (h _ rfl ⟨⟨_,Heap.get?_push_size _ rfl,rfl,rfl⟩,by obtain ⟨o,e,r⟩:=hl';exact ⟨o,Heap.get?_push_of_some _ e,r⟩⟩ (fun b hb=>?_) (Nat.ne_of_lt hlt))
 show b < (s.heap.push _).objs.size
 rw [Heap.size_push]
 rcases List.mem_cons.mp hb with rfl | hb
 ·exact Nat.lt_succ_self _
 ·rcases List.mem_cons.mp hb with rfl | hb
  ·exact Nat.lt_succ_of_lt hlt
  ·cases hb
theorem wC {h':Heap} (hk:∀ b o,b∉[s.heap.objs.size]→(s.heap.push { cls:=.type "tuple_iterator",data:=.fields #[.ref l,.int 0 0] }).get? b=some o→h'.get? b=some o) :
  ∀ b o,s.heap.get? b=some o→h'.get? b=some o:=fun b o e=>by
 refine hk b o (fun hm=>?_) (Heap.get?_push_of_some _ e)
 rcases List.mem_cons.mp hm with e1 | hm
 ·exact absurd (e1 ▸ Heap.lt_size e) (Nat.lt_irrefl _)
 ·cases hm
theorem qh {Q:Value→Shared→Prop} (hh:A.handled=none) (hl:s.heap.IsTuple l (intItems xs)) (hne:0 < xs.size)
  (h:∀ v h' tk,(intItems xs)[argBest (fun i j=>decide (numAt xs i > numAt xs j)) (xs.size - 1)]?=some v→(∀ b o,s.heap.get? b=some o→h'.get? b=some o)→Q v { s with heap:=h',toks:=tk }) :
  wpAny (model prog w) A (call (.builtin "max") [.ref l]) Q E s:=by
 refine call_max_walk (jE hl fun s₂ e st hfp hlI=>?_)
 subst e
 refine ⟨_,_,_,_,_,_,_,rfl,Walks.tuple (A:=A.in1) hh _ l hlI (intItems xs),st,hfp,by simpa [intItems] using hne,CmpOf.ints_gt (numAt xs) (fun _ _=>intItems_at),fun v h' tk hP hk=>?_⟩
 exact h v h' tk (by simpa [intItems] using hP) (wC hk)
theorem qP {Q:Value→Shared→Prop} (hh:A.handled=none) (hl:s.heap.IsTuple l (intItems xs)) (hne:0 < xs.size)
  (h:∀ v h' tk,(intItems xs)[argBest (fun i j=>decide (numAt xs i < numAt xs j)) (xs.size - 1)]?=some v→(∀ b o,s.heap.get? b=some o→h'.get? b=some o)→Q v { s with heap:=h',toks:=tk }) :
  wpAny (model prog w) A (call (.builtin "min") [.ref l]) Q E s:=by
 refine call_min_walk (jE hl fun s₂ e st hfp hlI=>?_)
 subst e
 refine ⟨_,_,_,_,_,_,_,rfl,Walks.tuple (A:=A.in1) hh _ l hlI (intItems xs),st,hfp,by simpa [intItems] using hne,CmpOf.ints_lt (numAt xs) (fun _ _=>intItems_at),fun v h' tk hP hk=>?_⟩
 exact h v h' tk (by simpa [intItems] using hP) (wC hk)
end
section
variable {X:Cx}
theorem mj (hc:X.calm=true):bI X (.builtin "max") (oB fun a M=>a≤M):=by
 intro pins s σ H xs us Q I r h
 obtain ⟨p,ns,rfl,hq,hl,q⟩:=h
 obtain ⟨u,rfl,rx⟩:=vals1 r
 cases rx
 have main:∀ (its:List Value),Vals (ns.map V.int) its→(∀ xs:Array (Int×Tok),its.toArray=intItems xs→ns=xs.toList.map (·.1)∧(0 < xs.size)):=fun its rv xs e=>by
  have hI:=intsAre_of rv
  have hns:ns=xs.toList.map (·.1):=by rw [← hI.numsOf,← nums_intItems,← e]
  exact ⟨hns,by
   have h3:=hl
   rw [hns,List.length_map,Array.length_toList] at h3
   exact h3⟩
 have fin:∀ (xs:Array (Int×Tok)) (v:Value) (h':Heap) (tk:Nat),ns=xs.toList.map (·.1)→0 < xs.size→(intItems xs)[argBest (fun i j=>decide (numAt xs i > numAt xs j)) (xs.size - 1)]?=some v→(∀ b o,s.heap.get? b=some o→h'.get? b=some o)→∃ x H',Inv X pins σ H' { s with heap:=h',toks:=tk }∧RelV x v∧Q x H':=fun xs v h' tk hns hsz hv hk=>by
  obtain ⟨t,rfl⟩:=intItems_at hv
  obtain ⟨h1,h2⟩:=argBest_gt (numAt xs) (xs.size - 1)
  refine ⟨.int (numAt xs (argBest (fun i j=>decide (numAt xs i > numAt xs j)) (xs.size - 1))),H,I.kept hk,⟨t,rfl⟩,q _ ?_ fun a ha=>?_⟩
  ·rw [hns,numAt_eq]
   exact PySem.getD_mem (by rw [List.length_map,Array.length_toList];omega)
  ·rw [hns] at ha
   obtain ⟨j,hj,rfl⟩:=mem_getD ha
   rw [List.length_map,Array.length_toList] at hj
   rw [← numAt_eq]
   exact h2 j (by omega)
 rcases hq with hq | hq
 ·obtain ⟨its,rv,pl,hz⟩:=I.list (SqL.of hq)
  obtain ⟨xs,e⟩:=(intsAre_of rv).allInts.items
  obtain ⟨hns,hsz⟩:=main its rv xs e
  have hL:=pl.isList
  rw [e] at hL
  exact max_intList (I.ok.hd hc) hL hsz fun v h' tk hv hk=>fin xs v h' tk hns hsz hv hk
 ·obtain ⟨its,rv,pl,hz⟩:=I.tuple (SqT.of hq)
  obtain ⟨xs,e⟩:=(intsAre_of rv).allInts.items
  obtain ⟨hns,hsz⟩:=main its rv xs e
  rw [e] at pl
  exact qh (I.ok.hd hc) pl hsz fun v h' tk hv hk=>fin xs v h' tk hns hsz hv hk
theorem mm (hc:X.calm=true):bI X (.builtin "min") (oB fun a M=>M≤a):=by
 intro pins s σ H xs us Q I r h
 obtain ⟨p,ns,rfl,hq,hl,q⟩:=h
 obtain ⟨u,rfl,rx⟩:=vals1 r
 cases rx
 have main:∀ (its:List Value),Vals (ns.map V.int) its→(∀ xs:Array (Int×Tok),its.toArray=intItems xs→ns=xs.toList.map (·.1)∧(0 < xs.size)):=fun its rv xs e=>by
  have hI:=intsAre_of rv
  have hns:ns=xs.toList.map (·.1):=by rw [← hI.numsOf,← nums_intItems,← e]
  exact ⟨hns,by
   have h3:=hl
   rw [hns,List.length_map,Array.length_toList] at h3
   exact h3⟩
 have fin:∀ (xs:Array (Int×Tok)) (v:Value) (h':Heap) (tk:Nat),ns=xs.toList.map (·.1)→0 < xs.size→(intItems xs)[argBest (fun i j=>decide (numAt xs i < numAt xs j)) (xs.size - 1)]?=some v→(∀ b o,s.heap.get? b=some o→h'.get? b=some o)→∃ x H',Inv X pins σ H' { s with heap:=h',toks:=tk }∧RelV x v∧Q x H':=fun xs v h' tk hns hsz hv hk=>by
  obtain ⟨t,rfl⟩:=intItems_at hv
  obtain ⟨h1,h2⟩:=argBest_lt (numAt xs) (xs.size - 1)
  refine ⟨.int (numAt xs (argBest (fun i j=>decide (numAt xs i < numAt xs j)) (xs.size - 1))),H,I.kept hk,⟨t,rfl⟩,q _ ?_ fun a ha=>?_⟩
  ·rw [hns,numAt_eq]
   exact PySem.getD_mem (by rw [List.length_map,Array.length_toList];omega)
  ·rw [hns] at ha
   obtain ⟨j,hj,rfl⟩:=mem_getD ha
   rw [List.length_map,Array.length_toList] at hj
   rw [← numAt_eq]
   exact h2 j (by omega)
 rcases hq with hq | hq
 ·obtain ⟨its,rv,pl,hz⟩:=I.list (SqL.of hq)
  obtain ⟨xs,e⟩:=(intsAre_of rv).allInts.items
  obtain ⟨hns,hsz⟩:=main its rv xs e
  have hL:=pl.isList
  rw [e] at hL
  exact min_intList (I.ok.hd hc) hL hsz fun v h' tk hv hk=>fin xs v h' tk hns hsz hv hk
 ·obtain ⟨its,rv,pl,hz⟩:=I.tuple (SqT.of hq)
  obtain ⟨xs,e⟩:=(intsAre_of rv).allInts.items
  obtain ⟨hns,hsz⟩:=main its rv xs e
  rw [e] at pl
  exact qP (I.ok.hd hc) pl hsz fun v h' tk hv hk=>fin xs v h' tk hns hsz hv hk
end
section
variable {K:PySem.W.Frag} {mg:Str→Option Value}
theorem nW {le:Int→Int→Prop} {f:List Int→Int→Int} (anti:∀ a b,le a b→le b a→a=b) (hf:∀ ns n,(f ns n=n∨f ns n∈ns)∧le n (f ns n)∧∀ k∈ns,le k (f ns n)):fc K mg (oB le) (df f):=by
 intro WE μ S H vs xs Q hr rs p
 unfold df at p
 split at p
 ·obtain ⟨v,rfl,r⟩:=rs.one
  split at p
  ·rename_i n ns e
   obtain ⟨ds,e1,e2⟩:=Option.bind_eq_some_iff.mp e
   obtain ⟨a,us,rfl,ha,rr⟩:=fF hr r e1
   rw [f7 e2] at rr
   rw [av.jB rr] at ha
   refine ⟨a,n :: ns,rfl,ha,by simp,fun M h1 h2=>?_⟩
   obtain ⟨b1,b2,b3⟩:=hf ns n
   have hM:M=f ns n:=by
    apply anti
    ·rcases List.mem_cons.mp h1 with h | h
     ·rw [h];exact b2
     ·exact b3 M h
    ·rcases b1 with b1 | b1
     ·rw [b1];exact h2 n List.mem_cons_self
     ·exact h2 _ (List.mem_cons_of_mem _ b1)
   rw [hM]
   exact p.here hr (Rep.int _)
  ·exact p.elim
 ·exact p.elim
theorem mi:fc K mg (oB fun a M=>a≤M) (df best):=nW (fun _ _=>Int.le_antisymm) lr
theorem lQ:fc K mg (oB fun a M=>M≤a) (df least):=nW (fun _ _ h1 h2=>Int.le_antisymm h2 h1) j7
end
theorem wQ {f:List Int→Int→Int} {n:Int} {ns:List Int} {S:Sto}:df f [.d (.tup ((n :: ns).map D.int))] S=.ok (.d (.int (f ns n))) S:=by
 unfold df
 dsimp only
 rw [show (bJ (.d (.tup ((n :: ns).map D.int))) S)=some ((n :: ns).map D.int) from rfl]
 rw [Option.bind_some,show intsOf ((n :: ns).map D.int)=some (n :: ns) by rw [cV (fun x=>x) (n :: ns)];simp]
theorem w4 {f:List Int→Int→Int} {n:Int} {ns:List Int} {S:Sto}:df f [.d (.lst ((n :: ns).map D.int))] S=.ok (.d (.int (f ns n))) S:=by
 unfold df
 dsimp only
 rw [show (bJ (.d (.lst ((n :: ns).map D.int))) S)=some ((n :: ns).map D.int) from rfl]
 rw [Option.bind_some,show intsOf ((n :: ns).map D.int)=some (n :: ns) by rw [cV (fun x=>x) (n :: ns)];simp]
theorem gG {n d k:Nat}:HT.sIx n d (some (k:Int))=min k n:=by
 unfold HT.sIx
 first | (dsimp only;split<;>omega) | (simp;omega) | omega
theorem j5 {n d:Nat}:HT.sIx n d none=d:=rfl
theorem oq {xs:List D} {k:Nat}:dh xs none (some (k:Int))=xs.take k:=by
 unfold dh
 rw [j5,gG,List.drop_zero,Nat.sub_zero]
 by_cases h:k≤xs.length
 ·rw [Nat.min_eq_left h]
 ·rw [Nat.min_eq_right (by omega),List.take_of_length_le (Nat.le_refl _),List.take_of_length_le (by omega)]
theorem nD {xs:List D} {k:Nat}:dh xs (some (k:Int)) none=xs.drop k:=by
 unfold dh
 rw [j5,gG]
 by_cases h:k≤xs.length
 ·rw [Nat.min_eq_left h,List.take_of_length_le (by simp)]
 ·rw [Nat.min_eq_right (by omega),List.drop_of_length_le (Nat.le_refl _),List.drop_of_length_le (by omega)]
  simp
theorem A8 {xs:List D} {a b:Nat}:dh xs (some (a:Int)) (some (b:Int))=(xs.drop a).take (b - a):=by
 unfold dh
 rw [gG,gG]
 by_cases h:a≤xs.length
 ·rw [Nat.min_eq_left h]
  by_cases hb:b≤xs.length
  ·rw [Nat.min_eq_left hb]
  ·rw [Nat.min_eq_right (by omega),List.take_of_length_le (by simp),List.take_of_length_le (by simp;omega)]
 ·rw [Nat.min_eq_right (show xs.length≤a by omega),List.drop_of_length_le (Nat.le_refl _),List.drop_of_length_le (by omega)]
  simp
theorem qo (ns:List Int):D.ck (ns.map D.int)=0:=by
 induction ns with
 | nil=>rfl
 | cons n ns ih=>simp [D.ck,D.depth,ih]
theorem mW {xs:List D} {i:Nat} {z:D} (h:xs[i]?=some z):atI xs (i:Int)=some z:=by
 have hi:=(List.getElem?_eq_some_iff.mp h).1
 unfold atI
 rw [qO (by omega) (by omega)]
 show xs[((i:Nat):Int).toNat]?=_
 rw [Int.toNat_natCast];exact h
def lf2 (f:List D→D→Sto→R Vl) (xs:List D) (r:R Vl):R Vl:=r.bind fun y S2=>match y with
 | .d z=>f xs z S2
 | _=>.bad
def lf1 (f:List D→D→Sto→R Vl) (r:R Vl) (e:XE) (τ:Nv):R Vl:=r.bind fun x S1=>match x with
 | .d (.lst xs)=>lf2 f xs (e τ S1)
 | _=>.bad
theorem DO {f:List D→D→Sto→R Vl} {o e:XE} {τ:Nv} {S:Sto}:xLf f o e τ S=lf1 f (o τ S) e τ:=af rfl
theorem Cp {f:List D→D→Sto→R Vl} {xs:List D} {e:XE} {τ:Nv} {S:Sto}:lf1 f (.ok (.d (.lst xs)) S) e τ=lf2 f xs (e τ S):=af rfl
theorem DG {f:List D→D→Sto→R Vl} {xs:List D} {z:D} {S:Sto}:lf2 f xs (.ok (.d z) S)=f xs z S:=af rfl
theorem B7 {ns:List Int} {k:Int} {S:Sto}:Bq (ns.map D.int) (.int k) S=.ok (.d (.int (ns.count k:Nat))) S:=by
 unfold Bq
 rw [show intsOf (ns.map D.int)=some ns by rw [cV (fun x=>x) ns];simp]
def zp1 (r:R (List Vl)):R Its:=r.bind AU
theorem CY {as:XA} {τ:Nv} {S:Sto}:iZp as τ S=zp1 (as τ S):=af rfl
theorem DD {xs ys:List D} {S:Sto}:zp1 (.ok [.d (.tup xs),.d (.tup ys)] S)=.ok ⟨d8 xs ys,none⟩ S:=af rfl
theorem Du {xs ys:List D} {S:Sto}:zp1 (.ok [.d (.lst xs),.d (.tup ys)] S)=.ok ⟨d8 xs ys,none⟩ S:=af rfl
end L2
set_option maxHeartbeats 4000000
namespace My
open PySem L2
noncomputable def md:XS:=(gu (v8 (xSl oK (aa 0) (de (xC (.int 12))) (de (xC (.int 63))))) (gTu 2 (gCo (gNm 2) (gCo (gNm 3) gN0))) (aK (xOp bh (xOp oIx (aa 1) (xOp oMod (aa 2) (xC (.int 12)))) (aa 3)) (gSb (aa 1) (xOp oMod (aa 2) (xC (.int 12))) dG)))
noncomputable def l8:XS:=(az (aK (xN ji (ab (xSl oK (aa 0) cD (de (xC (.int 12)))) ak)) (gNm 1))
 (az md
 (aE (xN mkM (ab (xFz (aa 1)) (ab (xC (.int 0)) (ab (xC (.int 0)) ak)))))))
noncomputable def il:XF:=aN 1 4 l8
noncomputable def jI:XS:=(az (xIf (aR (xOp oGe (aa 0) (xOp rH (xC (.int 10)) (xC (.int 18))))) (aE (aa 0)) aS)
 (az (aK (xOp oMod (xOp bh (xOp bh (xOp fR (xOp oMod (aa 0) (xC (.int 1000000007))) (xC (.int 69069))) (xOp fR (aa 1) (xC (.int 40503)))) (xC (.int 977))) (xC (.int 2147483629))) (gNm 2))
 (az (aK (xOp oMod (xOp bh (xOp bh (xOp fR (aa 2) (aa 2)) (xOp fR (aa 1) (xC (.int 7919)))) (xOp oMod (aa 0) (xC (.int 65537)))) (xC (.int 2147483587))) (gNm 3))
 (az (aK (xOp oMod (xOp bh (xOp bh (xOp fR (aa 3) (aa 3)) (xOp fR (aa 2) (xC (.int 31)))) (xC (.int 5))) (xC (.int 2147483563))) (gNm 4))
 (aE (xOp bh (xOp fR (xOp bh (xOp fR (aa 2) (xC (.int 2147483659))) (aa 3)) (xC (.int 2147483693))) (aa 4)))))))
noncomputable def eg:XF:=aN 2 5 jI
noncomputable def mq:XS:=(az (xIf (aR (xOp oLt (xOp oIx (aa 0) (xC (.int 2))) (aa 1))) (az (aK (xOp oIx (aa 0) (xC (.int 1))) (gNm 2))
 (az (aK (xC (.int 0)) (gNm 3))
 (az (xIf (aR (xOp oLt (aa 2) (xN bF (ab (xOp oIx (aa 0) (xC (.int 0))) ak)))) (aK (xOp oIx (xOp oIx (aa 0) (xC (.int 0))) (aa 2)) (gNm 3)) (xIf (aR (xOp oGt (xN bF (ab (xOp oIx (aa 0) (xC (.int 0))) ak)) (xC (.int 0)))) (aK (xOp oMod (xOp oIx (xOp oIx (aa 0) (xC (.int 0))) (xOp oMod (xOp bh (xOp fR (aa 2) (xC (.int 5))) (xC (.int 3))) (xN bF (ab (xOp oIx (aa 0) (xC (.int 0))) ak)))) (xOp bh (xOp rH (xC (.int 10)) (xC (.int 17))) (aa 2))) (gNm 3)) aS))
 (az (aK (xOp bh (aa 2) (xC (.int 1))) (gSb (aa 0) (xC (.int 1)) dG))
 (aK (ay eg (ab (aa 3) (ab (aa 2) ak))) (gSb (aa 0) (xC (.int 2)) dG)))))) aS)
 (az (aK (xOp oMod (xOp oIx (aa 0) (xC (.int 2))) (aa 1)) (gNm 4))
 (az (aK (xOp oDiv (xOp oIx (aa 0) (xC (.int 2))) (aa 1)) (gSb (aa 0) (xC (.int 2)) dG))
 (aE (aa 4)))))
noncomputable def bq:XF:=aN 2 5 mq
noncomputable def jL:XS:=(gu (lj (ab (xOp bh (xC (.int 1)) (ay bq (ab (aa 0) (ab (aa 1) ak)))) ak)) (gNm 4) (az (aK (xOp bh (aa 2) (ay bq (ab (aa 0) (ab (xC (.int 5)) ak)))) (gNm 5))
 (az (xIf (aR (xOp oEq (ay bq (ab (aa 0) (ab (xC (.int 6)) ak))) (xC (.int 0)))) (aK (xOp fb (ay bq (ab (aa 0) (ab (xC (.int 19)) ak))) (xC (.int 9))) (gNm 5)) aS)
 (xIf (aR (xOp eK (aa 5) (aa 3))) (ed (xLm jc (aa 3) (aa 5))) aS))))
noncomputable def jM:XS:=(az (aK (xN mkM ak) (gNm 3))
 (az jL
 (aE (xN bP (ab (xN gi (ab (aa 3) ak)) ak)))))
noncomputable def fo:XF:=aN 3 6 jM
noncomputable def kS:XE:=(xLC (lj (ab (xOp bh (xC (.int 1)) (ay bq (ab (aa 0) (ab (aa 1) ak)))) ak)) 1 (gNm 0) (fun _ S=>.ok true S) (ay fo (ab (aa 1) (ab (aa 3) (ab (aa 4) ak)))))
noncomputable def k6:XS:=(az (aK (xOp fb (ay bq (ab (aa 0) (ab (xC (.int 15)) ak))) (xC (.int 9))) (gNm 3))
 (aE (xN bP (ab kS ak))))
noncomputable def fZ:XF:=aN 3 4 k6
noncomputable def lV:XS:=(az (aK (xC (.int 0)) (gSb (aa 0) (xC (.int 2)) dG))
 (aE (aa 0)))
noncomputable def ia:XF:=aN 1 1 lV
noncomputable def jJ:XS:=(aE (cu (xUn (gy "int") (aa 0)) (qc (xUn (gy "bool") (aa 0)))))
noncomputable def fA:XF:=aN 1 1 jJ
noncomputable def iR:XS:=(aE (cu (ay fA (ab (aa 0) ak)) (eR oLe oLe (aa 1) (aa 0) (aa 2))))
noncomputable def eO:XF:=aN 3 3 iR
noncomputable def iy:XE:=(xLC (b8 (aa 0)) 1 (gNm 0) (fun _ S=>.ok true S) (ay eO (ab (aa 0) (ab (aa 2) (ab (aa 3) ak)))))
noncomputable def ix:XS:=(aE (cu (xUn (gy "tuple") (aa 0)) (xN eX (ab iy ak))))
noncomputable def cH:XF:=aN 3 3 ix
noncomputable def e_:XE:=(xLC (uM (ab (xC (.int 1)) (ab (xN bF (ab (aa 0) ak)) ak))) 1 (gNm 0) (fun _ S=>.ok true S) (xOp oLt (xOp oIx (aa 1) (xOp fb (aa 0) (xC (.int 1)))) (xOp oIx (aa 1) (aa 0))))
noncomputable def iw:XS:=(aE (xN eX (ab e_ ak)))
noncomputable def dU:XF:=aN 1 1 iw
noncomputable def iD:XS:=(aE (cu (ay cH (ab (aa 0) (ab (xUn nh (xC (.int 9))) (ab (xC (.int 9)) ak)))) (cu (eR oLe oLe (xC (.int 1)) (xN bF (ab (aa 0) ak)) (xC (.int 4))) (ay dU (ab (aa 0) ak)))))
noncomputable def dZ:XF:=aN 1 1 iD
noncomputable def jF:XE:=(xLC (b8 (aa 0)) 1 (gNm 0) (fun _ S=>.ok true S) (ay dZ (ab (aa 0) ak)))
noncomputable def jH:XS:=(az (xIf (xOr (c5 (du (xUn (gy "tuple") (aa 0)))) (c5 (aR (eR oLe oLe (xC (.int 1)) (xN bF (ab (aa 0) ak)) (xC (.int 4)))))) (aE (xC (.bl false))) aS)
 (aE (xN eX (ab jF ak))))
noncomputable def fq:XF:=aN 1 1 jH
noncomputable def iM:XS:=(xIf (c5 (du (ay fq (ab (aa 0) ak)))) b5 aS)
noncomputable def d_:XF:=aN 1 1 iM
noncomputable def iC:XS:=(aE (xOp oEq (xUn oLS (aa 0)) (xN bF (ab (aa 0) ak))))
noncomputable def cX:XF:=aN 1 1 iC
noncomputable def jh:XS:=(aE (cu (ay cH (ab (aa 0) (ab (xC (.int 0)) (ab (xC (.int 3)) ak)))) (cu (eR oLe oLe (xC (.int 1)) (xN bF (ab (aa 0) ak)) (xC (.int 4))) (ay cX (ab (aa 0) ak)))))
noncomputable def eN:XF:=aN 1 1 jh
noncomputable def kh:XS:=(aE (cu (xOp oEq (xN bF (ab (aa 0) ak)) (xC (.int 3))) (cu (ay cH (ab (xOp oIx (aa 0) (xC (.int 2))) (ab (xC (.int 1)) (ab (xC (.int 4)) ak)))) (xOp oEq (xN bF (ab (xOp oIx (aa 0) (xC (.int 2))) ak)) (xN bF (ab (xOp oIx (aa 0) (xC (.int 1))) ak))))))
noncomputable def gk:XF:=aN 1 1 kh
noncomputable def fj:XS:=(az (aK (xOp oIx (aa 0) (xC (.int 0))) (gNm 1))
 (az (xIf (aR (xOp oEq (aa 1) (xC (.str "unlike")))) b5 aS)
 (az (xIf (aR (xOp oEq (aa 1) (xC (.str "many")))) b5 aS)
 (az (xIf (aR (xOp oEq (aa 1) (xC (.str "sum")))) b5 aS)
 (az (xIf (aR (xOp oEq (aa 1) (xC (.str "row")))) b5 aS)
 (aE (cu (xOp oEq (aa 1) (xC (.str "hand"))) (ay gk (ab (aa 0) ak)))))))))
noncomputable def cJ:XF:=aN 1 2 fj
noncomputable def kZ:XS:=(az (xIf (xOr (c5 (du (xUn (gy "tuple") (aa 0)))) (aR (xOp oLt (xN bF (ab (aa 0) ak)) (xC (.int 2))))) (aE (xC (.bl false))) aS)
 (aE (cu (ay eN (ab (xOp oIx (aa 0) (xC (.int 1))) ak)) (ay cJ (ab (aa 0) ak)))))
noncomputable def gf:XF:=aN 1 1 kZ
noncomputable def iq:XE:=(xLC (b8 (xOp oIx (aa 1) (xC (.int 1)))) 1 (gNm 0) (fun _ S=>.ok true S) (xOp oLt (aa 0) (xN bF (ab (aa 1) ak))))
noncomputable def iH:XS:=(aE (cu (ay gf (ab (aa 1) ak)) (xN eX (ab iq ak))))
noncomputable def dW:XF:=aN 2 2 iH
noncomputable def i6:XS:=(xIf (c5 (du (ay dW (ab (aa 0) (ab (aa 1) ak))))) b5 aS)
noncomputable def eQ:XF:=aN 3 3 i6
noncomputable def pT:XS:=(az (ed (ay d_ (ab (aa 0) ak)))
 (ed (ay eQ (ab (aa 0) (ab (aa 1) (ab (xC (.int 0)) ak))))))
noncomputable def kc:XF:=aN 2 2 pT
noncomputable def iQ:XS:=(az (ed (ay kc (ab (aa 0) (ab (aa 1) ak))))
 (xIf (aR (xOp oNe (xOp oIx (aa 1) (xC (.int 0))) (aa 2))) b5 aS))
noncomputable def dv:XF:=aN 3 3 iQ
noncomputable def fN:XE:=(xLC (b8 (xOp oIx (aa 0) (aa 5))) 1 (gNm 0) (aR (xOp oGe (aa 0) (aa 5))) (aa 0))
noncomputable def jl:XS:=(gu (b8 (aa 2)) (gNm 5) (az (aK fN (gNm 6))
 (az (xIf (c5 (du (aa 6))) (aE (xC .non)) aS)
 (az (mO (aa 3) (aa 5) (xOp oIx (aa 6) (xC (.int 0))))
 (aK (xOp bh (xOp oIx (aa 6) (xC (.int 0))) (xOp oDx (aa 1) (aa 5))) (gNm 4))))))
noncomputable def jb:XS:=(az (aK qj (gNm 3))
 (az (aK (xOp oIx (xOp oIx (aa 0) (xOp oIx (aa 2) (xC (.int 0)))) (xC (.int 0))) (gNm 4))
 (az jl
 (aE (xFz (aa 3))))))
noncomputable def dB:XF:=aN 3 7 jb
noncomputable def ee:XE:=(xLC (oD (aa 0)) 2 (gTu 2 (gCo (gNm 0) (gCo (gNm 1) gN0))) (fun _ S=>.ok true S) (kD (aa 3) (aa 0) (xOp oIx (aa 1) (xC (.int 0)))))
noncomputable def f_:XS:=(aE (xN bP (ab ee ak)))
noncomputable def c7:XF:=aN 2 2 f_
noncomputable def cI (s_told_of_order s_told_of_places:XF):XS:=(az (aK (ay dB (ab (aa 0) (ab (aa 1) (ab (aa 2) ak)))) (gNm 4))
 (az (xIf (aR (xOp oIs (aa 4) (xC .non))) (aE (xN mkT (ab (xC (.str "no")) (ab (xN mkT (ab (xC (.str "late")) (ab (aa 2) ak))) ak)))) aS)
 (az (xIf (c5 (du (aa 3))) (aE (xN mkT (ab (xC (.str "can")) (ab (ay c7 (ab (aa 0) (ab (aa 4) ak))) ak)))) aS)
 (aE (ay s_told_of_places (ab (aa 0) (ab (aa 1) (ab (aa 2) (ab (xN bF (ab (aa 2) ak)) (ab (aa 3) ak))))))))))
noncomputable def dq (s_told_of_order s_told_of_places:XF):XS:=(az (aK (xOp oIx (aa 4) (xC (.int 0))) (gNm 5))
 (az (aK (ay s_told_of_order (ab (aa 0) (ab (aa 1) (ab (xOp bh (xOp bh (xSl oSl (aa 2) cD (de (aa 3))) (xN mkT (ab (aa 5) ak))) (xSl oSl (aa 2) (de (aa 3)) cD)) (ab (xSl oSl (aa 4) (de (xC (.int 1))) cD) ak))))) (gNm 6))
 (az (xIf (xOr (aR (xOp oEq (xOp oIx (aa 6) (xC (.int 0))) (xC (.str "can")))) (aR (xOp oEq (aa 3) (xC (.int 0))))) (aE (aa 6)) aS)
 (az (aK (ay s_told_of_places (ab (aa 0) (ab (aa 1) (ab (aa 2) (ab (xOp fb (aa 3) (xC (.int 1))) (ab (aa 4) ak)))))) (gNm 7))
 (az (xIf (aR (xOp oEq (xOp oIx (aa 7) (xC (.int 0))) (xC (.str "can")))) (aE (aa 7)) aS)
 (aE (xN mkT (ab (xC (.str "no")) (ab (xN mkT (ab (xC (.str "first")) (ab (xOp oIx (aa 2) (xOp fb (aa 3) (xC (.int 1)))) (ab (aa 5) (ab (xOp oIx (aa 6) (xC (.int 1))) (ab (xOp oIx (aa 7) (xC (.int 1))) ak)))))) ak)))))))))
mutual
noncomputable def bx:Nat→XF
 | 0=>aN 4 5 b5
 | n+1=>aN 4 5 (cI (bx n) (bo n))
noncomputable def bo:Nat→XF
 | 0=>aN 5 8 b5
 | n+1=>aN 5 8 (dq (bx n) (bo n))
end
noncomputable def iE:XS:=(aE (xFz (xN fDZ (ab (xOp oIx (aa 0) (xC (.int 1))) (ab (xOp oIx (aa 0) (xC (.int 2))) ak)))))
noncomputable def cU:XF:=aN 1 1 iE
noncomputable def jK:XS:=(az (ed (ay dv (ab (aa 0) (ab (aa 1) (ab (xC (.str "hand")) ak)))))
 (aE (ay (bx 40) (ab (aa 0) (ab (ay cU (ab (aa 1) ak)) (ab (xSl oSl (xOp oIx (aa 1) (xC (.int 1))) cD (de (xC (.int 1)))) (ab (xSl oSl (xOp oIx (aa 1) (xC (.int 1))) (de (xC (.int 1))) cD) ak)))))))
noncomputable def cw:XF:=aN 2 2 jK
noncomputable def ip:XE:=(xLC (b8 (xOp oIx (aa 1) (xC (.int 1)))) 1 (gNm 0) (fun _ S=>.ok true S) (xLm lJ (aa 3) (ay bq (ab (aa 1) (ab (xN bF (ab (aa 3) ak)) ak)))))
noncomputable def iG:XE:=(xLC (b8 (aa 3)) 1 (gNm 0) (fun _ S=>.ok true S) (xOp oIx (xOp oIx (aa 2) (xC (.int 2))) (aa 0)))
noncomputable def iJ:XE:=(xLC (b8 (aa 3)) 1 (gNm 0) (fun _ S=>.ok true S) (xOp oIx (xOp oIx (aa 2) (xC (.int 1))) (aa 0)))
noncomputable def iK:XS:=(az (aK (xN (lrg rf) (ab (xN bF (ab (xOp oIx (aa 1) (xC (.int 1))) ak)) ak)) (gNm 2))
 (az (aK ip (gNm 3))
 (aE (xN mkT (ab (xC (.str "hand")) (ab (xN bP (ab iJ ak)) (ab (xN bP (ab iG ak)) ak)))))))
noncomputable def ez:XF:=aN 2 4 iK
noncomputable def kE:XE:=(xLC (b8 (aa 0)) 1 (gNm 0) (fun _ S=>.ok true S) (xOp bh (aa 0) (aa 3)))
noncomputable def k8:XE:=(xLC (b8 (aa 0)) 1 (gNm 0) (fun _ S=>.ok true S) (xN bP (ab kE ak)))
noncomputable def kA:XS:=(aE (xN bP (ab k8 ak)))
noncomputable def gh:XF:=aN 2 2 kA
noncomputable def kR:XE:=(xLC (b8 (aa 5)) 1 (gNm 0) (fun _ S=>.ok true S) (xOp fb (xOp fb (xC (.int 0)) (aa 0)) (kD (aa 3) (aa 5) (xC (.int 0)))))
noncomputable def ky:XS:=(gu (oD (aa 0)) (gTu 2 (gCo (gNm 4) (gCo (gNm 5) gN0))) (ed (xLm jc (aa 3) (xN bP (ab (xN gi (ab kR ak)) ak)))))
noncomputable def kL:XS:=(az (aK (xFz (xN fDZ (ab (xOp oIx (aa 1) (xC (.int 1))) (ab (xOp oIx (aa 1) (xC (.int 2))) ak)))) (gNm 2))
 (az (aK (xN mkM ak) (gNm 3))
 (az ky
 (aE (xN bP (ab (aa 3) ak))))))
noncomputable def f9:XF:=aN 2 6 kL
noncomputable def jX:XE:=(xLC (b8 (aa 0)) 1 (gNm 0) (fun _ S=>.ok true S) (xN (df least) (ab (aa 0) ak)))
noncomputable def jU:XE:=(xLC (b8 (aa 0)) 1 (gNm 0) (fun _ S=>.ok true S) (xN (df best) (ab (aa 0) ak)))
noncomputable def m9:XS:=(aE (v_ (xOp oLt (xN (df least) (ab jX ak)) (xUn nh (xC (.int 9)))) (xOp oGt (xN (df best) (ab jU ak)) (xC (.int 9)))))
noncomputable def jv:XF:=aN 1 1 m9
noncomputable def mn:XS:=(aE (xOp bh (xOp bh (xSl oSl (aa 0) cD (de (aa 1))) (xN mkT (ab (xN mkT (ab (aa 2) ak)) ak))) (xSl oSl (aa 0) (de (xOp bh (aa 1) (xC (.int 1)))) cD)))
noncomputable def hW:XF:=aN 3 3 mn
noncomputable def fH:XE:=(xLC (b8 (aa 2)) 1 (gNm 0) (fun _ S=>.ok true S) (xOp oIn (aa 0) (xOp oIx (aa 2) (xC (.int 1)))))
noncomputable def dM:XE:=(xLC (iZt (ab (aa 2) (ab (xSl oSl (aa 2) (de (xC (.int 1))) cD) ak))) 1 (gNm 0) (fun _ S=>.ok true S) (xOp oIn (aa 0) (aa 4)))
noncomputable def fM:XS:=(az (xIf (xOr (c5 (du (xUn (gy "tuple") (aa 2)))) (xOr (aR (xOp oLt (xN bF (ab (aa 2) ak)) (xC (.int 2)))) (c5 (du (ay cX (ab (aa 2) ak)))))) (aE (xC (.bl false))) aS)
 (az (xIf (c5 (du (xN eX (ab fH ak)))) (aE (xC (.bl false))) aS)
 (az (xIf (c5 (du (xN eX (ab dM ak)))) (aE (xC (.bl false))) aS)
 (aE (xOp oIs (ay dB (ab (aa 0) (ab (ay cU (ab (aa 1) ak)) (ab (aa 2) ak)))) (xC .non))))))
noncomputable def cP:XF:=aN 4 4 fM
noncomputable def fm (s_is_right_split s_is_right_tree:XF):XS:=(az (aK (xOp oIx (aa 2) (xC (.int 1))) (gNm 4))
 (az (aK (xOp oIx (aa 2) (xC (.int 2))) (gNm 5))
 (az (xIf (xOr (aR (xOp oEq (aa 4) (aa 5))) (xOr (aR (xOp eK (aa 4) (xOp oIx (aa 1) (xC (.int 1))))) (aR (xOp eK (aa 5) (xOp oIx (aa 1) (xC (.int 1))))))) (aE (xC (.bl false))) aS)
 (az (xIf (c5 (du (ay s_is_right_tree (ab (aa 0) (ab (aa 1) (ab (xOp oIx (aa 2) (xC (.int 3))) (ab (xOp bh (aa 3) (xN mkL (ab (xN mkT (ab (aa 4) (ab (aa 5) ak))) ak))) ak))))))) (aE (xC (.bl false))) aS)
 (aE (ay s_is_right_tree (ab (aa 0) (ab (aa 1) (ab (xOp oIx (aa 2) (xC (.int 4))) (ab (xOp bh (aa 3) (xN mkL (ab (xN mkT (ab (aa 5) (ab (aa 4) ak))) ak))) ak))))))))))
noncomputable def dI (s_is_right_split s_is_right_tree:XF):XS:=(az (xIf (c5 (du (xUn (gy "tuple") (aa 2)))) (aE (xC (.bl false))) aS)
 (az (xIf (rh (aR (xOp oEq (xN bF (ab (aa 2) ak)) (xC (.int 2)))) (aR (xOp oEq (xOp oIx (aa 2) (xC (.int 0))) (xC (.str "late"))))) (aE (ay cP (ab (aa 0) (ab (aa 1) (ab (xOp oIx (aa 2) (xC (.int 1))) (ab (aa 3) ak)))))) aS)
 (aE (cu (xOp oEq (xN bF (ab (aa 2) ak)) (xC (.int 5))) (cu (xOp oEq (xOp oIx (aa 2) (xC (.int 0))) (xC (.str "first"))) (ay s_is_right_split (ab (aa 0) (ab (aa 1) (ab (aa 2) (ab (aa 3) ak))))))))))
mutual
noncomputable def bU:Nat→XF
 | 0=>aN 4 6 b5
 | n+1=>aN 4 6 (fm (bU n) (bH n))
noncomputable def bH:Nat→XF
 | 0=>aN 4 4 b5
 | n+1=>aN 4 4 (dI (bU n) (bH n))
end
noncomputable def iF:XS:=(az (ed (ay dv (ab (aa 0) (ab (aa 1) (ab (xC (.str "hand")) ak)))))
 (aE (ay (bH 40) (ab (aa 0) (ab (aa 1) (ab (aa 2) (ab (xN mkL ak) ak)))))))
noncomputable def ef:XF:=aN 3 3 iF
noncomputable def gY:XS:=(gu (b8 (aa 5)) (gTu 2 (gCo (gNm 6) (gCo (gNm 7) gN0))) (xIf (rh (c5 (du (ay jv (ab (aa 6) ak)))) (aR (xOp oNe (xOp oIx (ay cw (ab (aa 6) (ab (aa 7) ak))) (xC (.int 0))) (aa 3)))) (aE (xC (.bl false))) aS))
noncomputable def kr:XE:=(xLC (b8 (xOp oIx (aa 2) (xC (.int 2)))) 1 (gNm 0) (fun _ S=>.ok true S) (xN qZ (ab (xC (.int 1)) (ab (xOp fb (aa 0) (xC (.int 1))) ak))))
noncomputable def kd:XE:=(xLC (b8 (xOp oIx (aa 2) (xC (.int 2)))) 1 (gNm 0) (fun _ S=>.ok true S) (xN qy (ab (xC (.int 4)) (ab (xOp bh (aa 0) (xC (.int 1))) ak))))
noncomputable def kI:XS:=(az (aK (ay cw (ab (aa 1) (ab (aa 2) ak))) (gTu 2 (gCo (gNm 3) (gCo (gNm 4) gN0))))
 (az (aK (xN mkM (ab (xN mkT (ab (aa 1) (ab (ay ez (ab (aa 0) (ab (aa 2) ak))) ak))) (ab (xN mkT (ab (ay gh (ab (aa 1) (ab (xOp fb (ay bq (ab (aa 0) (ab (xC (.int 5)) ak))) (xC (.int 2))) ak))) (ab (aa 2) ak))) ak))) (gNm 5))
 (az (ed (xLm jc (aa 5) (xN mkT (ab (ay f9 (ab (aa 1) (ab (aa 2) ak))) (ab (aa 2) ak)))))
 (az gY
 (az (aK (xOp oIx (xOp oIx (aa 2) (xC (.int 1))) (ay bq (ab (aa 0) (ab (xN bF (ab (xOp oIx (aa 2) (xC (.int 1))) ak)) ak)))) (gNm 8))
 (az (aK (ay hW (ab (aa 1) (ab (aa 8) (ab (xOp oIx (xOp oIx (aa 1) (aa 8)) (ay bq (ab (aa 0) (ab (xN bF (ab (xOp oIx (aa 1) (aa 8)) ak)) ak)))) ak)))) (gNm 9))
 (az (aK (xN mkT (ab (xC (.str "hand")) (ab (xOp oIx (aa 2) (xC (.int 1))) (ab (xN bP (ab kr ak)) ak)))) (gNm 10))
 (az (aK (xN mkT (ab (xC (.str "hand")) (ab (xOp oIx (aa 2) (xC (.int 1))) (ab (xN bP (ab kd ak)) ak)))) (gNm 11))
 (az (xIf (aR (xOp oEq (aa 3) (xC (.str "can")))) (aE (xOp oEq (xOp oIx (ay cw (ab (aa 1) (ab (aa 10) ak))) (xC (.int 0))) (xC (.str "can")))) aS)
 (aE (cu (xOp oIs (ay ef (ab (aa 9) (ab (aa 2) (ab (aa 4) ak)))) (xC (.bl true))) (xOp oEq (xOp oIx (ay cw (ab (aa 1) (ab (aa 11) ak))) (xC (.int 0))) (xC (.str "no"))))))))))))))
noncomputable def f6:XF:=aN 3 12 kI
noncomputable def dY:XE:=(xLC (lj (ab (aa 3) ak)) 1 (gNm 0) (fun _ S=>.ok true S) (xLm lJ (aa 3) (ay bq (ab (aa 1) (ab (xN bF (ab (aa 3) ak)) ak)))))
noncomputable def gp:XS:=(az (aK (xN (lrg rf) (ab (xN bF (ab (aa 1) ak)) ak)) (gNm 2))
 (az (aK (xOp bh (xC (.int 1)) (ay bq (ab (aa 0) (ab (xN bF (ab (aa 2) ak)) ak)))) (gNm 3))
 (az (xIf (aR (xOp oGt (ay bq (ab (aa 0) (ab (xC (.int 3)) ak))) (xC (.int 0)))) (aK (xN bF (ab (aa 2) ak)) (gNm 3)) aS)
 (aE (xN bP (ab dY ak))))))
noncomputable def c_:XF:=aN 2 4 gp
noncomputable def i8:XE:=(xLC (b8 (aa 3)) 1 (gNm 0) (fun _ S=>.ok true S) (xOp bh (xC (.int 1)) (ay bq (ab (aa 1) (ab (xOp oIx (xN mkL (ab (xC (.int 4)) (ab (xC (.int 2)) ak))) (ay bq (ab (aa 1) (ab (xC (.int 2)) ak)))) ak)))))
noncomputable def iZ:XS:=(az (aK (ay c_ (ab (aa 0) (ab (aa 1) ak))) (gNm 3))
 (az (xIf (aR (xOp oEq (aa 2) (xC (.int 0)))) b5 aS)
 (az (xIf (aR (xOp oEq (aa 2) (xC (.int 1)))) b5 aS)
 (az (xIf (aR (xOp oEq (aa 2) (xC (.int 2)))) b5 aS)
 (az (xIf (aR (xOp oEq (aa 2) (xC (.int 3)))) b5 aS)
 (aE (xN mkT (ab (xC (.str "hand")) (ab (aa 3) (ab (xN bP (ab i8 ak)) ak))))))))))
noncomputable def eP:XF:=aN 3 11 iZ
noncomputable def tj:XS:=(gu (lj (ab (xC (.int 4)) ak)) (gNm 2) (az (aK (ay fZ (ab (ay ia (ab (aa 1) ak)) (ab (xC (.int 4)) (ab (xOp oIx (xN mkL (ab (xC (.int 2)) (ab (xC (.int 3)) (ab (xC (.int 4)) (ab (xC (.int 2)) ak))))) (aa 2)) ak)))) (gNm 3))
 (xIf (c5 (du (ay f6 (ab (aa 1) (ab (aa 3) (ab (ay eP (ab (aa 1) (ab (aa 3) (ab (xC (.int 4)) ak)))) ak)))))) (aE (xC (.bl false))) aS)))
noncomputable def rS:XS:=(az (aK (ay il (ab (aa 0) ak)) (gNm 1))
 (az tj
 (aE (xC (.bl true)))))
noncomputable def qr:XF:=aN 1 4 rS
local macro_rules | `(tactic| walk_at "mx") => `(tactic| simp only [DO, Cp, DG, B7, AD, CY, DD, Du, w8, wI, Ac, C3, Cb, zH, zM, C9, Cm, vg, Dk, CM, AV, Bo, yK, El, zj, Ct, Ds, BX, B9, CF, Ah, yZ, yW, CL, Dh, CT, z_, Av, xB, yG, yC, z0, zJ, y8, xg, xk, BO, A4, zI, tE, pE, wz, wL, DS, D3, pV, AW, wx, Cu, Dl, Ba, tM, yO, EJ, Cd, CD, CB, Cc, CC, CO, Cg, Dp, CS, ll, nC, ig, Cj, BW, C7, xG, Ci, zg, CP, xy, xf, vB, wV, zt, ox, oi, mN, ke, kg, C_, BY, Dm, DA, wX, wK, w6, rL, nj, qV, nJ, se, tD, Bu, DJ, zQ, Ao, A_, B3, Ez, zW, B5, Dg, Cy, C8, CQ, CI, Dv, DB, zV, Bn, zY, zO, vU, vC, uR, uD, CV, n_, A5, Aq, y3, Ae, AN, yi, yQ, Di, CA, kz, B_, Cr, Dz, BU, DP, DZ, EB, EH, zy, zD, BD, zm, BP, yX, A2, z7, BH, zG, xV, xx, yv, BC, zK, AE, BI, Bb, AM, zv, BG, AG, zF, xD, yw, yM, zB, Bz, Bm, A3, vo, v9, u7, vR, vE, vq, wt, ua, DI, Ab,
 List.getElem?_cons_zero,List.getElem?_cons_succ,List.set_cons_zero,List.set_cons_succ,List.map_cons,List.map_nil,List.length_cons,List.length_nil,List.cons_append,List.nil_append,List.replicate_succ,List.replicate_zero,List.append_nil,Nat.reduceSub,Nat.reduceAdd,Nat.zero_add,Bool.not_true,Bool.not_false,decide_true,decide_false,beq_self_eq_true,if_true,if_false,↓reduceIte,Int.reduceNeg])
local macro_rules | `(tactic| walk_at "mo") => `(tactic| first
  | rw [wZ (by first | decide | omega)]
  | rw [B0 (by first | exact CN (by decide) (by decide) | exact Or.inl ⟨by omega,by omega⟩ | exact Or.inr ⟨by omega,by omega⟩)]
  | rw [Ca ⟨by first | decide | omega,by first | decide | omega⟩]
  | rw [qC ⟨by decide,by decide,by decide⟩]
  | rw [kK (by first | (simp only [List.length_cons,List.length_nil,List.length_map];omega) | (simp;omega))]
  | rw [tK (by first | (simp only [List.length_cons,List.length_nil,List.length_map];omega) | (simp;omega))]
  | rw [DL (by omega)]
  | rw [wq (by omega)])
local macro_rules | `(tactic| walk_at "mm") => `(tactic| repeat (first | walk_at "mx" | walk_at "mo"))
def cO (cells:List Int) (at' pool:Int):Ob:=.lst [.lst (cells.map D.int),.int at',.int pool]
def Pen (o:Ob):Prop:=∃ cells at' pool,o=cO cells at' pool∧cells.length≤63∧0≤at'∧0≤pool
theorem aH {S:Sto} {x:D} {τ:Nv}:leave S (.ok (.rt (.d x),τ) S)=.ok (.d x) S:=by rw [hU,fI,List.take_length]
theorem uO {S R:Sto} {x:D} {τ:Nv}:leave S (.ok (.rt (.d x),τ) (S++R))=.ok (.d x) S:=by rw [hU,fI,List.take_left]
theorem cY {S S':Sto} {x:D} {τ:Nv}:leave S (.ok (.rt (.d x),τ) S')=.ok (.d x) (S'.take S.length):=by rw [hU,fI]
theorem t9 (cell at':Int) (h:0≤at') (S:Sto):∃ r:Int,0≤r∧eg [.d (.int cell),.d (.int at')] S=.ok (.d (.int r)) S:=by
 unfold eg
 rw [dC]
 unfold jI
 walk_at "mx"
 rw [qC ⟨by decide,by decide,by decide⟩]
 walk_at "mx"
 by_cases hc:(10:Int) ^ (18:Int).toNat≤cell
 ·rw [decide_eq_true hc]
  refine ⟨cell,Int.le_trans (by decide) hc,?_⟩
  walk_at "mx"
  exact aH
 ·rw [decide_eq_false hc]
  walk_at "mm"
  generalize hone:(cell % 1000000007 * 69069+at' * 40503+977) % 2147483629=one
  have o1:0≤one:=by rw [← hone];exact Int.emod_nonneg _ (by decide)
  have o2:one < 2147483629:=by rw [← hone];exact Int.emod_lt_of_pos _ (by decide)
  walk_at "mm"
  generalize htwo:(one * one+at' * 7919+cell % 65537) % 2147483587=two
  have o3:0≤two:=by rw [← htwo];exact Int.emod_nonneg _ (by decide)
  have o4:two < 2147483587:=by rw [← htwo];exact Int.emod_lt_of_pos _ (by decide)
  walk_at "mm"
  generalize hthree:(two * two+one * 31+5) % 2147483563=three
  have o5:0≤three:=by rw [← hthree];exact Int.emod_nonneg _ (by decide)
  walk_at "mm"
  exact ⟨(one * 2147483659+two) * 2147483693+three,by omega,aH⟩
theorem km {cells:List Int} {at' pool:Int} {R:Sto}:oIx (.r 0) (.d (.int 0)) (cO cells at' pool :: R)=.ok (.d (.lst (cells.map D.int))) (cO cells at' pool :: R):=mP rfl rfl
theorem C6 {cells:List Int} {at' pool:Int} {R:Sto}:oIx (.r 0) (.d (.int 1)) (cO cells at' pool :: R)=.ok (.d (.int at')) (cO cells at' pool :: R):=mP rfl rfl
theorem qI {cells:List Int} {at' pool:Int} {R:Sto}:oIx (.r 0) (.d (.int 2)) (cO cells at' pool :: R)=.ok (.d (.int pool)) (cO cells at' pool :: R):=mP rfl rfl
theorem y4 {cells:List Int} {at' pool v:Int} {R:Sto}:dG (.r 0) (.d (.int 1)) (.d (.int v)) (cO cells at' pool :: R)=.ok () (cO cells v pool :: R):=af rfl
theorem nI {cells:List Int} {at' pool v:Int} {R:Sto}:dG (.r 0) (.d (.int 2)) (.d (.int v)) (cO cells at' pool :: R)=.ok () (cO cells at' v :: R):=af rfl
theorem gI {ns:List Int} {i:Int} (h0:0≤i) (h1:i < ns.length):∃ n,atI (ns.map D.int) i=some (.int n)∧n∈ns:=by
 have hk:i.toNat < ns.length:=by omega
 refine ⟨ns[i.toNat],?_,List.getElem_mem hk⟩
 unfold atI
 rw [qO h0 (by simpa using h1)]
 show (ns.map D.int)[i.toNat]?=_
 rw [List.getElem?_map,List.getElem?_eq_getElem hk]
 rfl
theorem ie {o o':Ob} {R:Sto}:(o' :: R).take (o :: R).length=o' :: R:=by rw [show (o :: R).length=(o' :: R).length from rfl,List.take_length]
theorem bX {o:Ob} {R:Sto} {m:Int} (hp:Pen o) (h0:0 < m) (h1:m < 1073741824):∃ (k:Int) (o':Ob),0≤k∧k < m∧Pen o'∧bq [.r 0,.d (.int m)] (o :: R)=.ok (.d (.int k)) (o' :: R):=by
 obtain ⟨cells,at',pool,rfl,hl,ha,hq⟩:=hp
 unfold bq
 rw [dC]
 unfold mq
 have tail:∀ (at2 pool2:Int) (o2 o3:Option Vl),0≤at2→0≤pool2→∃ (k:Int) (o':Ob),0≤k∧k < m∧Pen o' ∧
   leave (cO cells at' pool :: R) ((az (aK (xOp oMod (xOp oIx (aa 0) (xC (.int 2))) (aa 1)) (gNm 4)) (az (aK (xOp oDiv (xOp oIx (aa 0) (xC (.int 2))) (aa 1)) (gSb (aa 0) (xC (.int 2)) dG)) (aE (aa 4)))) [some (.r 0),some (.d (.int m)),o2,o3,none] (cO cells at2 pool2 :: R))=.ok (.d (.int k)) (o' :: R):=by
  intro at2 pool2 o2 o3 g1 g2
  walk_at "mx"
  rw [qI]
  walk_at "mm"
  rw [qI]
  walk_at "mm"
  rw [nI]
  walk_at "mm"
  exact ⟨pool2 % m,_,Int.emod_nonneg _ (by omega),Int.emod_lt_of_pos _ h0,⟨cells,at2,pool2 / m,rfl,hl,g1,Int.ediv_nonneg g2 (by omega)⟩,by rw [cY,ie]⟩
 rw [nC,wV]
 walk_at "mx"
 rw [qI]
 walk_at "mm"
 by_cases hc:pool < m
 ·rw [decide_eq_true hc]
  walk_at "mx"
  rw [C6]
  walk_at "mm"
  rw [km]
  walk_at "mm"
  have fin:∀ cell:Int,∃ (k:Int) (o':Ob),0≤k∧k < m∧Pen o'∧leave (cO cells at' pool :: R) (sq1 ((az (aK (xOp bh (aa 2) (xC (.int 1))) (gSb (aa 0) (xC (.int 1)) dG)) (aK (ay eg (ab (aa 3) (ab (aa 2) ak))) (gSb (aa 0) (xC (.int 2)) dG))) [some (.r 0),some (.d (.int m)),some (.d (.int at')),some (.d (.int cell)),none] (cO cells at' pool :: R))
    (az (aK (xOp oMod (xOp oIx (aa 0) (xC (.int 2))) (aa 1)) (gNm 4)) (az (aK (xOp oDiv (xOp oIx (aa 0) (xC (.int 2))) (aa 1)) (gSb (aa 0) (xC (.int 2)) dG)) (aE (aa 4)))))=.ok (.d (.int k)) (o' :: R):=by
   intro cell
   rw [nC,oi]
   walk_at "mx"
   rw [y4]
   rw [rL,ke,ig,oi,pV]
   obtain ⟨r,hr,er⟩:=t9 cell at' ha (cO cells (at'+1) pool :: R)
   simp only [pE,tE,wI,w8,wz,wL,AW,er,wx,mN,wX,wK,w6,Ac,nI,rL,ke,ig]
   exact tail (at'+1) r _ _ (by omega) hr
  by_cases hin:at' < ((cells.map D.int).length:Int)
  ·rw [decide_eq_true hin]
   walk_at "mx"
   rw [km]
   obtain ⟨n,en,_⟩:=gI (ns:=cells) ha (by simpa using hin)
   walk_at "mx"
   rw [kf en]
   rw [mN,kg,ke,ig]
   exact fin n
  ·rw [decide_eq_false hin]
   walk_at "mx"
   rw [km]
   walk_at "mm"
   by_cases hpos:(0:Int) < ((cells.map D.int).length:Int)
   ·rw [decide_eq_true hpos]
    walk_at "mx"
    rw [km]
    walk_at "mm"
    rw [km]
    walk_at "mm"
    obtain ⟨n,en,_⟩:=gI (ns:=cells) (i:=(at' * 5+3) % ((cells.map D.int).length:Int)) (Int.emod_nonneg _ (by omega)) (by have:=Int.emod_lt_of_pos (at' * 5+3) hpos;simpa using this)
    rw [kf en]
    walk_at "mx"
    rw [qC ⟨by decide,by decide,by decide⟩]
    walk_at "mx"
    rw [wZ (by have:(0:Int) < 10 ^ (17:Int).toNat:=(by decide);omega)]
    rw [mN,kg,ke,ig]
    exact fin _
   ·rw [decide_eq_false hpos]
    rw [ox,ll,ig]
    exact fin 0
 ·rw [decide_eq_false hc]
  rw [ox,ll,ig]
  exact tail at' pool _ _ ha hq
structure GoodW (m:Int) (ws:List Int):Prop where
 rise:ws.Pairwise (· < ·)
 lim:∀ w∈ws,-9≤w∧w≤9
 pos:1≤ws.length
 le:(ws.length:Int)≤m
def aj (ns:List Int):D:=.tup (ns.map D.int)
theorem sy {o:Ob} {R:Sto} {most near:Int} (hp:Pen o) (h0:0 < most) (h1:most≤50) (n0:-9≤near) (n1:near≤5):∃ (ws:List Int) (o':Ob),GoodW most ws∧Pen o'∧fo [.r 0,.d (.int most),.d (.int near)] (o :: R)=.ok (.d (aj ws)) (o' :: R):=by
 unfold fo
 rw [cS]
 unfold jM
 walk_at "mx"
 obtain ⟨k,o1,k0,k1,hp1,e1⟩:=bX (R:=R++[.lst []]) hp h0 (by omega)
 obtain ⟨τ',S',e2,o2,ws,x4,x5,hp2,rfl,rfl,nd,lim,le,pos⟩:=iV (show _=jL [some (.r 0),some (.d (.int most)),some (.d (.int near)),some (.r (R.length+1)),none,none] (o :: (R++[.lst []])) from rfl)
  (S1:=o1 :: (R++[.lst []])) (gd:=none) (items:=(List.range (1+k).toNat).map fun i=>Vl.d (.int (i:Nat))) (by walk_at "mx";rw [e1];walk_at "mm")
  (fun i τ S=>∃ (o':Ob) (ws:List Int) (x4 x5:Option Vl),Pen o'∧τ=[some (.r 0),some (.d (.int most)),some (.d (.int near)),some (.r (R.length+1)),x4,x5]∧S=o' :: (R++[.lst (ws.map D.int)])∧ws.Nodup∧(∀ w∈ws,-9≤w∧w≤9)∧ws.length≤i∧(0 < i→0 < ws.length))
  ⟨o1,[],none,none,hp1,rfl,rfl,List.nodup_nil,by simp,Nat.le_refl _,by omega⟩ (by
   rintro i z τ S hz ⟨o',ws,x4,x5,hp',rfl,rfl,nd,lim,le,pos⟩
   have hi:i < (1+k).toNat:=by simpa using (List.getElem?_eq_some_iff.mp hz).1
   obtain ⟨a,oa,a0,a1,hpa,ea⟩:=bX (R:=R++[.lst (ws.map D.int)]) (m:=5) hp' (by decide) (by decide)
   obtain ⟨b,ob,b0,b1,hpb,eb⟩:=bX (R:=R++[.lst (ws.map D.int)]) (m:=6) hpa (by decide) (by decide)
   obtain ⟨c,oc,c0,c1,hpc,ec⟩:=bX (R:=R++[.lst (ws.map D.int)]) (m:=19) hpb (by decide) (by decide)
   have fin:∀ (v:Int) (q:Ob) (x5':Option Vl),-9≤v→v≤9→Pen q→x5'=some (.d (.int v))→∃ fl τ2 S2,(xIf (aR (xOp eK (aa 5) (aa 3))) (ed (xLm jc (aa 3) (aa 5))) aS) [some (.r 0),some (.d (.int most)),some (.d (.int near)),some (.r (R.length+1)),some z,x5'] (q :: (R++[.lst (ws.map D.int)]))=.ok (fl,τ2) S2∧(fl=.nx∨fl=.ct) ∧
     ∃ (o':Ob) (ws:List Int) (x4 x5:Option Vl),Pen o'∧τ2=[some (.r 0),some (.d (.int most)),some (.d (.int near)),some (.r (R.length+1)),x4,x5]∧S2=o' :: (R++[.lst (ws.map D.int)])∧ws.Nodup∧(∀ w∈ws,-9≤w∧w≤9)∧ws.length≤i+1∧(0 < i+1→0 < ws.length):=by
    rintro v q _ v0 v1 hq rfl
    walk_at "mx"
    rw [AJ (ns:=ws) pG]
    by_cases hm:v∈ws
    ·rw [decide_eq_true hm]
     walk_at "mx"
     exact ⟨_,_,_,rfl,.inl rfl,q,ws,_,_,hq,rfl,rfl,nd,lim,by omega,fun _=>List.length_pos_of_mem hm⟩
    ·rw [decide_eq_false hm]
     walk_at "mx"
     rw [rP (by rw [List.length_map];omega)]
     walk_at "mx"
     refine ⟨_,_,_,rfl,.inl rfl,q,ws++[v],_,_,hq,rfl,by rw [List.map_append];rfl,?_,?_,by simp;omega,fun _=>by simp⟩
     ·rw [List.nodup_append]
      refine ⟨nd,by simp,fun x hx y hy=>?_⟩
      rw [List.mem_singleton.mp hy]
      rintro rfl
      exact hm hx
     ·intro w hw
      rcases List.mem_append.mp hw with e | e
      ·exact lim w e
      ·rw [List.mem_singleton.mp e];omega
   by_cases hb:b=0
   ·subst hb
    obtain ⟨fl,τ2,S2,f1,f2,f3⟩:=fin (c - 9) oc _ (by omega) (by omega) hpc rfl
    refine ⟨_,_,fl,τ2,S2,kg,?_,f2,True.intro,f3⟩
    walk_at "mx"
    rw [ea]
    walk_at "mx"
    rw [eb]
    walk_at "mx"
    rw [ec]
    walk_at "mx"
    rw [← f1]
    walk_at "mx"
   ·obtain ⟨fl,τ2,S2,f1,f2,f3⟩:=fin (near+a) ob _ (by omega) (by omega) hpb rfl
    refine ⟨_,_,fl,τ2,S2,kg,?_,f2,True.intro,f3⟩
    walk_at "mx"
    rw [ea]
    walk_at "mx"
    rw [eb]
    walk_at "mx"
    rw [decide_eq_false hb]
    walk_at "mx"
    rw [← f1]
    walk_at "mx")
 rw [e2]
 walk_at "mx"
 rw [k9] at le pos
 rw [yb pG (by omega)]
 walk_at "mx"
 refine ⟨sortI ws,o2,⟨j4 nd,fun w hw=>lim w ((i5 ws w).mp hw),by rw [dS];exact pos (by omega),by rw [dS];omega⟩,hp2,?_⟩
 rw [cY]
 simp [aj]
structure bK (n m:Int) (wss:List (List Int)):Prop where
 pos:1≤wss.length
 le:(wss.length:Int)≤n
 all:∀ ws∈wss,GoodW m ws
def aw (wss:List (List Int)):D:=.tup (wss.map aj)
theorem v5 {o:Ob} {R:Sto} {names most:Int} (hp:Pen o) (h0:0 < names) (h1:names≤50) (m0:0 < most) (m1:most≤50):∃ (wss:List (List Int)) (o':Ob),bK names most wss∧Pen o'∧fZ [.r 0,.d (.int names),.d (.int most)] (o :: R)=.ok (.d (aw wss)) (o' :: R):=by
 unfold fZ
 rw [cS]
 unfold k6
 walk_at "mx"
 obtain ⟨k,o1,k0,k1,hp1,e1⟩:=bX (R:=R) (m:=15) hp (by decide) (by decide)
 rw [e1]
 walk_at "mx"
 obtain ⟨j,o2,j0,j1,hp2,e2⟩:=bX (R:=R) hp1 h0 (by omega)
 obtain ⟨acc,Q,e4,hl,o3,wss,hp3,rfl,rfl,hw,hg⟩:=k7 (show _=kS [some (.r 0),some (.d (.int names)),some (.d (.int most)),some (.d (.int (k - 9)))] (o1 :: R) from rfl) (S1:=o2 :: R) (items:=(List.range (1+j).toNat).map fun i=>Vl.d (.int (i:Nat))) (by walk_at "mx";rw [e2];walk_at "mm")
  (fun i acc Q=>∃ (o':Ob) (wss:List (List Int)),Pen o'∧acc=wss.map aj∧Q=o' :: R∧wss.length=i∧∀ ws∈wss,GoodW most ws) ⟨o2,[],hp2,rfl,rfl,rfl,by simp⟩ (by
   rintro i z acc Q hz ⟨o',wss,hp',rfl,rfl,hw,hg⟩ _
   obtain ⟨hi,rfl⟩:=lC hz
   obtain ⟨ws,o3,gw,hp3,e3⟩:=sy (R:=R++[.lst (wss.map aj)]) (near:=k - 9) hp' m0 m1 (by omega) (by omega)
   refine ⟨aj ws,o3 :: R,?_,rfl,o3,wss++[ws],hp3,h_.symm,rfl,by simp [hw],fun x hx=>?_⟩
   ·walk_at "mx"
    rw [e3]
    walk_at "mx"
   ·rcases List.mem_append.mp hx with e | e
    ·exact hg x e
    ·rw [List.mem_singleton.mp e];exact gw)
 rw [e4]
 walk_at "mx"
 rw [k9] at hw
 exact ⟨wss,o3,⟨by omega,by omega,hg⟩,hp3,by rw [cY,ie];rfl⟩
theorem yB {o:Ob} {R:Sto} (hp:Pen o):∃ o',Pen o'∧ia [.r 0] (o :: R)=.ok (.r 0) (o' :: R):=by
 obtain ⟨cells,at',pool,rfl,hl,ha,hq⟩:=hp
 unfold ia
 rw [cg]
 unfold lV
 walk_at "mx"
 rw [nI]
 walk_at "mx"
 refine ⟨cO cells at' 0,⟨cells,at',0,rfl,hl,ha,Int.le_refl 0⟩,?_⟩
 rw [hU]
 unfold out
 dsimp only
 rw [if_pos (by simp),ie]
theorem fQ {xs:List D} {i:Nat} {z:Vl} (h:(b6 0 xs)[i]?=some z):∃ x,xs[i]?=some x∧z=.d (.tup [.int i,x]):=by
 rw [cR] at h
 cases q:xs[i]? with
 | none=>rw [q] at h;cases h
 | some x=>rw [q] at h;cases h;exact ⟨x,rfl,by rw [Nat.zero_add]⟩
theorem yr (ns:List Int):∃ o,Pen o∧il [.sc ns] []=.ok (.r 0) [o]:=by
 unfold il
 rw [cg]
 unfold l8
 walk_at "mx"
 rw [show (12:Int)=((12:Nat):Int) from rfl,oq,← List.map_take]
 obtain ⟨τ',S',e2,cs,x2,x3,rfl,rfl,hl⟩:=iV (show _=md [some (.sc ns),some (.r 0),none,none] [.lst ((ns.take 12).map D.int)] from rfl)
  (S1:=[.lst ((ns.take 12).map D.int)]) (gd:=none) (items:=b6 0 (((ns.map D.int).drop 12).take (63 - 12))) (by
   walk_at "mx"
   rw [show (12:Int)=((12:Nat):Int) from rfl,show (63:Int)=((63:Nat):Int) from rfl,A8])
  (fun i τ S=>∃ (cs:List Int) (x2 x3:Option Vl),τ=[some (.sc ns),some (.r 0),x2,x3]∧S=[.lst (cs.map D.int)]∧cs.length=(ns.take 12).length) ⟨_,none,none,rfl,rfl,rfl⟩ (by
   rintro i z τ S hz ⟨cs,x2,x3,rfl,rfl,hl⟩
   obtain ⟨x,ex,rfl⟩:=fQ hz
   have hx:x∈ns.map D.int:=List.mem_of_mem_drop (List.mem_of_mem_take (List.mem_of_getElem? ex))
   obtain ⟨v,_,rfl⟩:=List.mem_map.mp hx
   have hlen:12 < ns.length:=by
    have:=(List.getElem?_eq_some_iff.mp ex).1
    simp at this
    omega
   have hcs:cs.length=12:=by rw [hl];simp;omega
   have h0:0≤((i:Nat):Int) % 12:=Int.emod_nonneg _ (by decide)
   have h1:((i:Nat):Int) % 12 < 12:=Int.emod_lt_of_pos _ (by decide)
   obtain ⟨c,ec,_⟩:=gI (ns:=cs) (i:=((i:Nat):Int) % 12) h0 (by omega)
   have hix:ixN (cs.map D.int).length (((i:Nat):Int) % 12)=some (((i:Nat):Int) % 12).toNat:=qO h0 (by rw [List.length_map];omega)
   refine ⟨_,_,.nx,_,_,by walk_at "mm";rfl,by
    walk_at "mm"
    rw [mP (xs:=cs.map D.int) rfl ec]
    walk_at "mm"
    rw [show dG (.r 0) (.d (.int (((i:Nat):Int) % 12))) (.d (.int (c+v))) [Ob.lst (cs.map D.int)]=.ok () [.lst ((cs.map D.int).set (((i:Nat):Int) % 12).toNat (.int (c+v)))] by
     unfold dG
     simp only [List.getElem?_cons_zero,hix]
     rfl]
    walk_at "mx"
    rfl,.inl rfl,True.intro,cs.set (((i:Nat):Int) % 12).toNat (c+v),_,_,rfl,by rw [List.map_set],by rw [List.length_set];exact hl⟩)
 rw [e2]
 walk_at "mx"
 refine ⟨cO cs 0 0,⟨cs,0,0,rfl,by rw [hl];simp;omega,Int.le_refl 0,Int.le_refl 0⟩,?_⟩
 rfl
theorem iN {α β:Type} (f:α→β):∀ (l:List α) (k:Nat),(l.eraseIdx k).map f=(l.map f).eraseIdx k
 | [],_=>rfl
 | _ :: _,0=>rfl
 | x :: l,k+1=>by
  rw [List.eraseIdx_cons_succ,List.map_cons,List.map_cons,List.eraseIdx_cons_succ,iN f l k]
structure bR (k:Nat) (ns:List Int):Prop where
 dom:∀ n∈ns,0≤n∧n < (k:Int)
 pos:1≤ns.length
 le:ns.length≤k
 nd:ns.Nodup
theorem mw {o:Ob} {R:Sto} {wss:List (List Int)} (hp:Pen o) (h0:1≤wss.length) (h1:wss.length≤50):∃ (ns:List Int) (o':Ob),bR wss.length ns∧Pen o'∧c_ [.r 0,.d (aw wss)] (o :: R)=.ok (.d (aj ns)) (o' :: R):=by
 unfold c_
 rw [dC]
 unfold gp aw
 walk_at "mx"
 rw [List.length_map,rY (by omega)]
 walk_at "mx"
 have hr:(List.range ((wss.length:Nat):Int).toNat).map (fun i=>D.int ((i:Nat):Int))=((List.range wss.length).map fun i=>((i:Nat):Int)).map D.int:=by rw [Int.toNat_natCast,List.map_map];rfl
 rw [hr]
 generalize hL:((List.range wss.length).map fun i=>((i:Nat):Int))=L0
 have lL:L0.length=wss.length:=by rw [← hL];simp
 have dL:∀ n∈L0,0≤n∧n < (wss.length:Int):=by
  intro n hn
  rw [← hL] at hn
  obtain ⟨i,hi,rfl⟩:=List.mem_map.mp hn
  have:=List.mem_range.mp hi
  omega
 have nL:L0.Nodup:=by
  rw [← hL]
  exact List.Pairwise.map _ (fun a b (h:a≠b)=>by omega) List.nodup_range
 rw [kX (xs:=L0.map D.int) (by walk_at "mx"),List.length_map,lL]
 obtain ⟨a,o1,a0,a1,hp1,e1⟩:=bX (R:=R++[.lst (L0.map D.int)]) (m:=(wss.length:Int)) hp (by omega) (by omega)
 walk_at "mx"
 rw [e1]
 walk_at "mx"
 obtain ⟨b,o2,b0,b1,hp2,e2⟩:=bX (R:=R++[.lst (L0.map D.int)]) (m:=3) hp1 (by decide) (by decide)
 rw [e2]
 walk_at "mx"
 have fin:∀ (many:Int),1≤many→many≤wss.length→∃ (ns left:List Int) (o':Ob),bR wss.length ns∧Pen o' ∧
   dY [some (.r 0),some (.d (.tup (wss.map aj))),some (.r (R.length+1)),some (.d (.int many))] (o2 :: (R++[.lst (L0.map D.int)]))=.ok (.d (.lst (ns.map D.int))) (o' :: (R++[.lst (left.map D.int)])):=by
  intro many m0 m1
  obtain ⟨acc,Q,e4,hl,o3,ns,left,hp3,rfl,rfl,hw,hlen,hmem,hnd⟩:=k7 (show _=dY [some (.r 0),some (.d (.tup (wss.map aj))),some (.r (R.length+1)),some (.d (.int many))] (o2 :: (R++[.lst (L0.map D.int)])) from rfl) (S1:=o2 :: (R++[.lst (L0.map D.int)])) (items:=(List.range many.toNat).map fun i=>Vl.d (.int (i:Nat))) (by walk_at "mm")
   (fun i acc Q=>∃ (o':Ob) (ns left:List Int),Pen o'∧acc=ns.map D.int∧Q=o' :: (R++[.lst (left.map D.int)])∧ns.length=i∧left.length+i=wss.length∧(∀ n,n∈ns++left→0≤n∧n < (wss.length:Int))∧(ns++left).Nodup) ⟨o2,[],L0,hp2,rfl,rfl,rfl,by omega,by simpa using dL,by simpa using nL⟩ (by
    rintro i z acc Q hz ⟨o',ns,left,hp',rfl,rfl,hw,hlen,hmem,hnd⟩ _
    obtain ⟨hi,rfl⟩:=lC hz
    obtain ⟨c,o3,c0,c1,hp3,e3⟩:=bX (R:=R++[.lst (left.map D.int),.lst (ns.map D.int)]) (m:=(left.length:Int)) hp' (by omega) (by omega)
    have hc:c.toNat < left.length:=by omega
    have hge:(left.map D.int)[c.toNat]?=some (.int left[c.toNat]):=by rw [List.getElem?_map,List.getElem?_eq_getElem hc];rfl
    have pe:(left[c.toNat] :: left.eraseIdx c.toNat).Perm left:=hG left c.toNat hc
    have pa:((ns++[left[c.toNat]])++left.eraseIdx c.toNat).Perm (ns++left):=by
     rw [List.append_assoc]
     exact List.Perm.append_left ns pe
    refine ⟨.int left[c.toNat],o3 :: (R++[.lst ((left.eraseIdx c.toNat).map D.int)]),?_,by simp,o3,ns++[left[c.toNat]],left.eraseIdx c.toNat,hp3,h_.symm,rfl,by simp [hw],?_,fun n hn=>hmem n (pa.mem_iff.mp hn),pa.nodup_iff.mpr hnd⟩
    ·walk_at "mx"
     rw [show (R++[Ob.lst (left.map D.int)]++[Ob.lst (ns.map D.int)])=R++[.lst (left.map D.int),.lst (ns.map D.int)] by simp]
     walk_at "mx"
     rw [kX (xs:=left.map D.int) (by walk_at "mx"),List.length_map]
     walk_at "mx"
     rw [e3]
     walk_at "mx"
     rw [wM (by omega) hge]
     walk_at "mx"
     rw [iN]
     simp
    ·rw [List.length_eraseIdx_of_lt hc];omega)
  rw [k9] at hw hlen
  exact ⟨ns,left,o3,⟨fun n hn=>hmem n (List.mem_append_left _ hn),by omega,by omega,(List.nodup_append.mp hnd).1⟩,hp3,e4⟩
 by_cases hb:0 < b
 ·rw [decide_eq_true hb]
  walk_at "mx"
  rw [kX (xs:=L0.map D.int) (by walk_at "mx"),List.length_map,lL]
  walk_at "mx"
  obtain ⟨ns,left,o3,gn,hp3,e4⟩:=fin (wss.length:Int) (by omega) (by omega)
  rw [e4]
  walk_at "mx"
  refine ⟨ns,o3,gn,hp3,?_⟩
  rw [cY]
  simp [aj]
 ·rw [decide_eq_false hb]
  walk_at "mx"
  obtain ⟨ns,left,o3,gn,hp3,e4⟩:=fin (1+a) (by omega) (by omega)
  rw [e4]
  walk_at "mx"
  refine ⟨ns,o3,gn,hp3,?_⟩
  rw [cY]
  simp [aj]
theorem ints_get {ps:List Int} {i:Nat} {z:Vl} (h:((ps.map D.int).map Vl.d)[i]?=some z):∃ p,ps[i]?=some p∧z=.d (.int p):=by
 rw [List.getElem?_map,List.getElem?_map] at h
 cases q:ps[i]? with
 | none=>rw [q] at h;cases h
 | some p=>rw [q] at h;cases h;exact ⟨p,rfl,rfl⟩
theorem take_snoc {α:Type} {ps:List α} {i:Nat} {p:α} (h:ps[i]?=some p):ps.take (i+1)=ps.take i++[p]:=by
 rw [List.take_add_one,h];rfl
theorem oF {wss:List (List Int)} {p:Int} (h0:0≤p) (h1:p < wss.length):atI (wss.map aj) p=some (aj (wss.getD p.toNat [])):=by
 obtain ⟨k,rfl⟩:=Int.eq_ofNat_of_zero_le h0
 have hk:k < wss.length:=by omega
 exact mW (by rw [List.getElem?_map,List.getElem?_eq_getElem hk,Int.toNat_natCast,List.getD_eq_getElem?_getD,List.getElem?_eq_getElem hk];rfl)
theorem eW {wss:List (List Int)} {p:Int} (h0:0≤p) (h1:p < wss.length):wss.getD p.toNat []∈wss:=by
 have hk:p.toNat < wss.length:=by omega
 rw [List.getD_eq_getElem?_getD,List.getElem?_eq_getElem hk]
 exact List.getElem_mem hk
theorem pf {v:Int} {S:Sto}:fA [.d (.int v)] S=.ok (.d (.bl true)) S:=by
 unfold fA
 rw [cg]
 unfold jJ
 walk_at "mx"
 rw [show isT "int" (.int v)=true from rfl]
 walk_at "mx"
 rw [show isT "bool" (.int v)=false from rfl]
 walk_at "mx"
 rw [aH]
theorem nz {v lo hi:Int} {S:Sto} (h:lo≤v∧v≤hi):eO [.d (.int v),.d (.int lo),.d (.int hi)] S=.ok (.d (.bl true)) S:=by
 unfold eO
 rw [cS]
 unfold iR
 walk_at "mx"
 rw [pf]
 walk_at "mx"
 rw [decide_eq_true h.1]
 walk_at "mx"
 rw [decide_eq_true h.2]
 rw [aH]
theorem all_true {α:Type} {l:List α} {S:Sto}:eX [.d (.lst (l.map fun _=>D.bl true))] S=.ok (.d (.bl true)) S:=by
 rw [sG (f:=fun _=>true)]
 simp
theorem jx {xs:List D}:isT "tuple" (.tup xs)=true:=rfl
theorem eY {ns:List Int} {lo hi:Int} {S:Sto} (h:∀ v∈ns,lo≤v∧v≤hi):cH [.d (aj ns),.d (.int lo),.d (.int hi)] S=.ok (.d (.bl true)) S:=by
 unfold cH
 rw [cS]
 unfold ix aj
 walk_at "mx"
 rw [jx]
 walk_at "mx"
 rw [cN (show _=iy [some (.d (.tup (ns.map D.int))),some (.d (.int lo)),some (.d (.int hi))] S from rfl) (xs:=ns.map D.int) (S1:=S) (by walk_at "mx") (fun _=>.bl true) (by
  intro x hx S
  obtain ⟨v,hv,rfl⟩:=List.mem_map.mp hx
  walk_at "mx"
  rw [nz (h v hv)]
  walk_at "mx")]
 walk_at "mx"
 rw [all_true]
 walk_at "mx"
 rw [aH]
theorem yU {ns:List Int} (h:∀ k,k+1 < ns.length→ns.getD k 0 < ns.getD (k+1) 0):ns.Pairwise (· < ·):=by
 rw [List.pairwise_iff_getElem]
 have key:∀ d i,(hd:i+d+1 < ns.length)→ns.getD i 0 < ns.getD (i+d+1) 0:=by
  intro d
  induction d with
  | zero=>intro i hd;exact h i hd
  | succ d ih=>
   intro i hd
   have a:=ih i (by omega)
   have b:=h (i+d+1) (by omega)
   rw [show i+(d+1)+1=i+d+1+1 by omega]
   omega
 intro i j hi hj hij
 have:=key (j - i - 1) i (by omega)
 rw [show i+(j - i - 1)+1=j by omega,List.getD_eq_getElem?_getD,List.getD_eq_getElem?_getD,List.getElem?_eq_getElem hi,List.getElem?_eq_getElem hj] at this
 simpa using this
theorem xv {ns:List Int} (h:ns.Pairwise (· < ·)) {k:Nat} (hk:k+1 < ns.length):ns.getD k 0 < ns.getD (k+1) 0:=by
 rw [List.pairwise_iff_getElem] at h
 have:=h k (k+1) (by omega) hk (by omega)
 rw [List.getD_eq_getElem?_getD,List.getD_eq_getElem?_getD,List.getElem?_eq_getElem hk,List.getElem?_eq_getElem (by omega)]
 simpa using this
theorem u9 {ns:List Int}:((List.range (ns.length - 1)).all fun k=>decide (ns.getD k 0 < ns.getD (k+1) 0))=decide (ns.Pairwise (· < ·)):=by
 rw [Bool.eq_iff_iff,List.all_eq_true,decide_eq_true_iff]
 constructor
 ·intro h
  exact yU fun k hk=>by simpa using h k (List.mem_range.mpr (by omega))
 ·intro h k hk
  have:=List.mem_range.mp hk
  exact decide_eq_true (xv h (by omega))
def nbL (ns:List Int):Vl→D
 | .d (.int j)=>.bl (decide (ns.getD (j.toNat - 1) 0 < ns.getD j.toNat 0))
 | _=>.non
theorem lM {ns:List Int} {i:Nat} (h:i < ns.length):atI (ns.map D.int) (i:Int)=some (.int (ns.getD i 0)):=mW (by rw [List.getElem?_map,List.getElem?_eq_getElem h,List.getD_eq_getElem?_getD,List.getElem?_eq_getElem h];rfl)
theorem mx {ns:List Int} {S:Sto} (h:ns.length≤1000):dU [.d (aj ns)] S=.ok (.d (.bl (decide (ns.Pairwise (· < ·))))) S:=by
 unfold dU
 rw [cg]
 unfold iw aj
 walk_at "mx"
 have key:e_ [some (.d (.tup (ns.map D.int)))] S=.ok (.d (.lst ((List.range (ns.length - 1)).map fun k=>.bl (decide (ns.getD k 0 < ns.getD (k+1) 0))))) S:=by
  unfold e_
  rw [nP (items:=(List.range ((ns.length:Int) - 1).toNat).map fun k=>Vl.d (.int (1+(k:Nat)))) (S1:=S) (by walk_at "mx";rw [List.length_map,wq (by omega)]) (nbL ns) (by
   intro z hz S
   obtain ⟨k,hk,rfl⟩:=List.mem_map.mp hz
   have hk:=List.mem_range.mp hk
   walk_at "mx"
   rw [show (1:Int)+(k:Nat) - 1=(k:Nat) by omega,show (1:Int)+(k:Nat)=((k+1:Nat):Int) by omega,cn (lM (by omega))]
   walk_at "mx"
   rw [cn (lM (by omega))]
   walk_at "mx"
   rfl)]
  rw [List.map_map,show ((ns.length:Int) - 1).toNat=ns.length - 1 by omega]
  congr 3
  refine List.map_congr_left fun k hk=>?_
  show nbL ns (.d (.int (1+(k:Nat))))=_
  rw [show (1:Int)+(k:Nat)=((k+1:Nat):Int) by omega]
  rfl
 rw [key]
 walk_at "mx"
 rw [sG,u9]
 walk_at "mx"
 rw [aH]
theorem my {ws:List Int} {m:Int} {S:Sto} (g:GoodW m ws) (hm:m≤4):dZ [.d (aj ws)] S=.ok (.d (.bl true)) S:=by
 have h1:=g.pos
 have h2:=g.le
 unfold dZ
 rw [cg]
 unfold iD
 walk_at "mx"
 rw [eY g.lim]
 walk_at "mx"
 rw [show aj ws=.tup (ws.map D.int) from rfl]
 try walk_at "mx"
 rw [List.length_map,decide_eq_true (show (1:Int)≤(ws.length:Int) by omega)]
 walk_at "mx"
 rw [decide_eq_true (show (ws.length:Int)≤4 by omega)]
 walk_at "mx"
 rw [show D.tup (ws.map D.int)=aj ws from rfl,mx (by omega),decide_eq_true g.rise]
 walk_at "mx"
 rw [aH]
theorem oV {wss:List (List Int)} {n m:Int} {S:Sto} (g:bK n m wss) (hn:n≤4) (hm:m≤4):fq [.d (aw wss)] S=.ok (.d (.bl true)) S:=by
 have h1:=g.pos
 have h2:=g.le
 unfold fq
 rw [cg]
 unfold jH aw
 walk_at "mx"
 rw [jx]
 walk_at "mx"
 rw [List.length_map,decide_eq_true (show (1:Int)≤(wss.length:Int) by omega)]
 walk_at "mx"
 rw [decide_eq_true (show (wss.length:Int)≤4 by omega)]
 walk_at "mx"
 rw [cN (show _=jF [some (.d (.tup (wss.map aj)))] S from rfl) (xs:=wss.map aj) (S1:=S) (by walk_at "mx") (fun _=>.bl true) (by
  intro x hx S
  obtain ⟨ws,hv,rfl⟩:=List.mem_map.mp hx
  walk_at "mx"
  rw [my (g.all ws hv) hm]
  walk_at "mx")]
 walk_at "mx"
 rw [all_true]
 walk_at "mx"
 rw [aH]
theorem mK {wss:List (List Int)} {n m:Int} {S:Sto} (g:bK n m wss) (hn:n≤4) (hm:m≤4):d_ [.d (aw wss)] S=.ok (.d .non) S:=by
 unfold d_
 rw [cg]
 unfold iM
 walk_at "mx"
 rw [oV g hn hm]
 walk_at "mx"
 rw [gO,fI,List.take_length]
theorem u5 {ns:List Int} (h:ns.Nodup):(dD ns).length=ns.length:=by
 rw [← uz (xs:=ns) (fun z=>i5 ns z) (j4 h),dS]
theorem iz {ns:List Int} {S:Sto} (h:ns.Nodup) (hl:ns.length≤60):cX [.d (aj ns)] S=.ok (.d (.bl true)) S:=by
 unfold cX
 rw [cg]
 unfold iC aj
 walk_at "mx"
 rw [B8 (ns:=ns) rfl (by omega)]
 walk_at "mx"
 rw [List.length_map,u5 h]
 walk_at "mx"
 rw [aH]
theorem ni {ns:List Int} {k:Nat} {S:Sto} (g:bR k ns) (hk:k≤4):eN [.d (aj ns)] S=.ok (.d (.bl true)) S:=by
 have h1:=g.pos
 have h2:=g.le
 unfold eN
 rw [cg]
 unfold jh
 walk_at "mx"
 rw [eY (fun v hv=>by have:=g.dom v hv;omega)]
 walk_at "mx"
 rw [show aj ns=.tup (ns.map D.int) from rfl]
 try walk_at "mx"
 rw [List.length_map,decide_eq_true (show (1:Int)≤(ns.length:Int) by omega)]
 walk_at "mx"
 rw [decide_eq_true (show (ns.length:Int)≤4 by omega)]
 walk_at "mx"
 rw [show D.tup (ns.map D.int)=aj ns from rfl,iz g.nd (by omega)]
 walk_at "mx"
 rw [aH]
theorem pP {it:XI} {t:XT} {e:XE} {τ:Nv} {S S1:Sto} {r:R Vl} (hC:xLC it 1 (gNm 0) t e τ S=r) {α:Type} {d g:α→D} {xs:List α} (hit:it τ S=.ok ⟨xs.map fun x=>Vl.d (d x),none⟩ S1) (p:α→Bool) (ht:∀ x∈xs,∀ S:Sto,t (some (.d (d x)) :: τ) S=.ok (p x) S) (he:∀ x∈xs,p x=true→∀ S:Sto,e (some (.d (d x)) :: τ) S=.ok (.d (g x)) S):r=.ok (.d (.lst ((xs.filter p).map g))) S1:=by
 obtain ⟨acc,Q,e1,hl,rfl,rfl⟩:=wR hC hit (fun i acc Q=>acc=((xs.take i).filter p).map g∧Q=S1) ⟨by simp,rfl⟩ (by
  rintro i z acc Q hz ⟨rfl,rfl⟩ _
  rw [List.getElem?_map] at hz
  cases q:xs[i]? with
  | none=>rw [q] at hz;cases hz
  | some x=>
   rw [q] at hz
   cases hz
   have hx:=List.mem_of_getElem? q
   refine ⟨p x,Q,ht x hx _,rfl,fun hb=>⟨g x,Q,he x hx hb _,rfl,?_,rfl⟩,fun hb=>⟨?_,rfl⟩⟩
   ·rw [take_snoc q,List.filter_append,List.map_append]
    simp [hb]
   ·rw [take_snoc q,List.filter_append]
    simp [hb])
 rw [e1,List.length_map,List.take_length]
theorem qQ {ws:List Int}:(ws.map D.int).map Vl.d=ws.map fun x=>Vl.d (.int x):=by rw [List.map_map];rfl
theorem lcG {it:XI} {k:Nat} {g:XG} {t:XT} {e:XE} {τ:Nv} {S S1:Sto} {items:List Vl} (hit:it τ S=.ok ⟨items,none⟩ S1) (own:Vl→Nv) (f:Vl→D) (p:Vl→Bool) (hown:∀ z∈items,(own z).length=k) (hg:∀ z∈items,∀ ρ:Nv,ρ.length=k→∀ S:Sto,g z (ρ++τ) S=.ok (own z++τ) S)
  (ht:∀ z∈items,∀ S:Sto,t (own z++τ) S=.ok (p z) S) (he:∀ z∈items,p z=true→∀ S:Sto,e (own z++τ) S=.ok (.d (f z)) S):xLC it k g t e τ S=.ok (.d (.lst ((items.filter p).map f))) S1:=by
 have key:∀ (zs:List Vl) (acc:List D) (ρ:Nv),(∀ z∈zs,z∈items)→ρ.length=k→eZ g t e S1.length none zs acc (ρ++τ) (S1++[.lst acc])=.ok (acc++(zs.filter p).map f) (S1++[.lst (acc++(zs.filter p).map f)]):=by
  intro zs
  induction zs with
  | nil=>
   intro acc ρ _ _
   rw [eZ,if_pos (by simp)]
   simp
  | cons z zs ih=>
   intro acc ρ hz hl
   have hm:=hz z (List.mem_cons_self ..)
   rw [eZ,hg z hm ρ hl,bf,ht z hm,bf]
   by_cases hp:p z=true
   ·rw [if_pos hp,he z hm hp,bf]
    dsimp only
    rw [if_pos ⟨by simp,True.intro⟩]
    rw [show (S1++[Ob.lst acc]).set S1.length (.lst (acc++[f z]))=S1++[.lst (acc++[f z])] by simp]
    rw [ih (acc++[f z]) (own z) (fun y hy=>hz y (List.mem_cons_of_mem _ hy)) (hown z hm),List.filter_cons_of_pos hp,List.map_cons,List.append_assoc]
    rfl
   ·rw [if_neg hp,if_pos (show gok none (S1++[Ob.lst acc]) from True.intro),ih acc (own z) (fun y hy=>hz y (List.mem_cons_of_mem _ hy)) (hown z hm),List.filter_cons_of_neg hp]
 show (it τ S).bind _=_
 rw [hit,bf]
 dsimp only
 rw [key items [] (List.replicate k none) (fun _ h=>h) (by simp),bf]
 unfold kF
 rw [if_pos (by simp),List.take_left]
 simp
theorem fY {ns:List Int} {S:Sto}:bF [.d (aj ns)] S=.ok (.d (.int ns.length)) S:=by unfold aj;rw [n_,List.length_map]
theorem lP {ns:List Int} {v:Int} {S:Sto}:oIn (.d (.int v)) (.d (aj ns)) S=.ok (.d (.bl (decide (v∈ns)))) S:=wt
theorem jO {ns:List Int} {v:Int} {S:Sto}:eK (.d (.int v)) (.d (aj ns)) S=.ok (.d (.bl (!decide (v∈ns)))) S:=ua
theorem qF {α β:Type} {f:α→β}:∀ {l:List α},l.Nodup→(∀ x∈l,∀ y∈l,f x=f y→x=y)→(l.map f).Nodup
 | [],_,_=>List.nodup_nil
 | a :: l,h,k=>by
  rw [List.nodup_cons] at h
  rw [List.map_cons,List.nodup_cons]
  refine ⟨fun hm=>?_,qF h.2 fun x hx y hy=>k x (List.mem_cons_of_mem _ hx) y (List.mem_cons_of_mem _ hy)⟩
  obtain ⟨y,hy,e⟩:=List.mem_map.mp hm
  have:=k a (List.mem_cons_self ..) y (List.mem_cons_of_mem _ hy) e.symm
  exact h.1 (this ▸ hy)
theorem Ek {kvs:List (Key×D)} {yd z:D} {k:Key} {S:Sto} (hk:gA yd=some k) (hv:eD kvs k=some z):oDx (.fd kvs) (.d yd) S=.ok (.d z) S:=by
 unfold oDx
 dsimp only
 rw [hk]
 simp only [hV,hv]
theorem Bd {S:Sto} {x:Ob}:(S++[x])[S.length]?=some x:=by simp
theorem yc {S:Sto} {x y:Ob}:(S++[x]).set S.length y=S++[y]:=by simp
theorem rC {S R:Sto} {kvs:List (Key×D)}:frz (.r S.length) (S++[.dct kvs])=.ok (.fd kvs) (S++[.dead]):=by
 unfold frz
 simp
theorem tH {S R:Sto} {kvs:List (Key×D)} {τ:Nv}:leave S (.ok (.rt (.fd kvs),τ) (S++R))=.ok (.fd kvs) S:=by
 unfold leave out
 simp
theorem oH {kvs:List (Key×D)} {k:Key} {v:D} (h:k∉kvs.map (·.1)):putD kvs k v=kvs++[(k,v)]:=by
 unfold putD
 rw [if_neg]
 intro z
 obtain ⟨x,hx,hk⟩:=List.any_eq_true.mp z
 exact h (List.mem_map.mpr ⟨x,hx,by simpa using hk⟩)
theorem mh:∀ {l kvs:List (Key×D)},(l.map (·.1)).Nodup→(∀ k∈l.map (·.1),k∉kvs.map (·.1))→dz kvs l=kvs++l
 | [],kvs,_,_=>by simp [dz]
 | p :: l,kvs,hn,hd=>by
  rw [List.map_cons] at hn hd
  obtain ⟨h1,h2⟩:=List.nodup_cons.mp hn
  show dz (putD kvs p.1 p.2) l=_
  rw [oH (hd p.1 (by simp)),mh h2,List.append_assoc]
  ·rfl
  ·intro k hk z
   rw [List.map_append] at z
   rcases List.mem_append.mp z with z | z
   ·exact hd k (by simp [hk]) z
   ·rw [List.map_cons,List.map_nil,List.mem_singleton] at z
    exact h1 (z ▸ hk)
theorem qD {s:List Int} {k:Nat} {S:Sto}:oSl (.d (aj s)) none (some (k:Int)) S=.ok (.d (aj (s.take k))) S:=by
 unfold aj
 rw [kz,oq,List.map_take]
theorem qT {ns:List Int} {i:Nat} {S:Sto} (h:i < ns.length):oIx (.d (aj ns)) (.d (.int (i:Int))) S=.ok (.d (.int (ns.getD i 0))) S:=cn (lM h)
theorem jT:∀ {ns f:List Int},((ns.zip f).map (·.1)).Sublist ns
 | [],_=>by simp
 | _ :: _,[]=>by simp
 | n :: ns,a :: f=>by simpa using (jT (ns:=ns) (f:=f)).cons₂ n
theorem rE {ns:List Int}:jt (ns.map D.int)=some (ns.map Sum.inl):=by
 induction ns with
 | nil=>rfl
 | cons n ns ih=>simp only [List.map_cons,jt,ih,gA]
theorem jq {s:List Int} {k:Nat} {S:Sto}:oSl (.d (aj s)) (some (k:Int)) none S=.ok (.d (aj (s.drop k))) S:=by
 unfold aj
 rw [kz,nD,List.map_drop]
theorem tT {s t:List Int} {S:Sto} (h:s.length+t.length≤100000):bh (.d (aj s)) (.d (aj t)) S=.ok (.d (aj (s++t))) S:=by
 unfold aj
 rw [kK (by simpa using h),List.map_append]
abbrev Se:=List (Int×Int)
def aF (wss:List (List Int)) (n:Int):List Int:=wss.getD n.toNat []
def seD (p:Int×Int):Key×D:=(.inl p.1,.int p.2)
theorem Bk {M:Se} (h:(M.map (·.1)).Nodup) {p:Int×Int} (hp:p∈M):eD (M.map seD) (.inl p.1)=some (.int p.2):=by
 induction M with
 | nil=>cases hp
 | cons q M ih=>
  rw [List.map_cons,List.nodup_cons] at h
  rw [List.map_cons]
  rcases List.mem_cons.mp hp with e | hp'
  ·subst e;exact j9 rfl
  ·rw [gS,ih h.2 hp']
   intro z
   exact h.1 (by rw [Sum.inl.inj (show (Sum.inl q.1:Key)=.inl p.1 from z)];exact List.mem_map.mpr ⟨p,hp',rfl⟩)
theorem dput {o i e:XE} {τ:Nv} {S:Sto} {n:Nat} {k:Int} {zd:D} {kvs:List (Key×D)} (he:e τ S=.ok (.d zd) S) (ho:o τ S=.ok (.r n) S) (hi:i τ S=.ok (.d (.int k)) S) (hk:S[n]?=some (.dct kvs)) (hl:kvs.length < 100000):mO o i e τ S=.ok (.nx,τ) (S.set n (.dct (putD kvs (.inl k) zd))):=by
 unfold mO
 rw [he,bf,ho,bf,hi,bf]
 dsimp only [gA]
 rw [hk]
 dsimp only
 rw [if_pos hl]
def lkM (M:Se) (k:Int):Option Int:=(M.find? fun x=>decide (x.1=k)).map (·.2)
def mQ (wss:List (List Int)) (M:Se):List Int:=(List.range wss.length).map fun k=>(lkM M (k:Nat)).getD ((wss.getD k []).getD 0 0)
theorem kT {M:Se} {k:Int}:eD (M.map seD) (.inl k)=(lkM M k).map D.int:=by
 unfold lkM
 induction M with
 | nil=>rfl
 | cons x l ih=>
  rw [List.map_cons]
  by_cases h:x.1=k
  ·rw [j9 (show (seD x).1=.inl k by rw [← h];rfl)]
   simp [List.find?_cons,h,seD]
  ·rw [gS (show ¬(seD x).1=.inl k from fun z=>h (Sum.inl.inj z)),ih]
   simp [List.find?_cons,h]
theorem uf {d k e:XE} {τ:Nv} {S S1 S2 S3:Sto} {kvs:List (Key×D)} {yd zd:D} {key:Key} (h1:d τ S=.ok (.fd kvs) S1) (h2:k τ S1=.ok (.d yd) S2) (h3:e τ S2=.ok (.d zd) S3) (hk:gA yd=some key):kD d k e τ S=.ok (.d ((eD kvs key).getD zd)) S3:=by
 unfold kD
 rw [h1,bf]
 rw [if_pos (show (hV (.fd kvs) S1).isSome=true from rfl),h2,bf,h3,bf]
 dsimp only
 rw [hk]
 rfl
theorem w_ {wss:List (List Int)} {M:Se} {n m:Int} {S:Sto} (gs:bK n m wss):c7 [.d (aw wss),.fd (M.map seD)] S=.ok (.d (aj (mQ wss M))) S:=by
 unfold c7
 rw [dC]
 unfold f_
 have e:ee [some (.d (aw wss)),some (.fd (M.map seD))] S=.ok (.d (.lst ((mQ wss M).map D.int))) S:=by
  unfold ee
  rw [lcG (items:=b6 0 (wss.map aj)) (S1:=S) (by unfold oD;rfl) (fun z=>match z with | .d (.tup [a,b])=>[some (.d a),some (.d b)] | _=>[none,none]) (fun z=>match z with | .d (.tup [.int k,_])=>.int ((lkM M k).getD ((wss.getD k.toNat []).getD 0 0)) | _=>.non) (fun _=>true) ?_ ?_ ?_ ?_]
  ·rw [List.filter_eq_self.mpr (fun _ _=>rfl)]
   congr 3
   refine List.ext_getElem? fun i=>?_
   rw [List.getElem?_map,cR,List.getElem?_map]
   unfold mQ
   rw [List.getElem?_map,List.getElem?_map]
   by_cases hi:i < wss.length
   ·rw [List.getElem?_eq_getElem hi,List.getElem?_range hi]
    simp
   ·rw [List.getElem?_eq_none (by omega),List.getElem?_eq_none (by simp;omega)]
    rfl
  ·intro z hz
   obtain ⟨i,hi,rfl⟩:=List.mem_iff_getElem.mp hz
   obtain ⟨x,_,e⟩:=fQ (List.getElem?_eq_getElem hi)
   rw [e]
   rfl
  ·intro z hz ρ hρ S
   obtain ⟨i,hi,rfl⟩:=List.mem_iff_getElem.mp hz
   obtain ⟨x,_,e⟩:=fQ (List.getElem?_eq_getElem hi)
   rw [e]
   match ρ,hρ with
   | [_,_],_=>walk_at "mx"
  ·intro z hz S
   rfl
  ·intro z hz _ S
   obtain ⟨i,hi,rfl⟩:=List.mem_iff_getElem.mp hz
   obtain ⟨x,hx,e⟩:=fQ (List.getElem?_eq_getElem hi)
   rw [e]
   rw [List.getElem?_map] at hx
   cases q:wss[i]? with
   | none=>rw [q] at hx;cases hx
   | some ws=>
    rw [q] at hx
    cases hx
    have hws:=gs.all ws (List.mem_of_getElem? q)
    have hpos:0 < ws.length:=hws.pos
    dsimp only
    rw [uf (S1:=S) (S2:=S) (S3:=S) (kvs:=M.map seD) (yd:=.int (i:Nat)) (key:=.inl (i:Nat)) (zd:=.int (ws.getD 0 0)) (by walk_at "mx") (by walk_at "mx") (by
     walk_at "mx"
     exact cn (lM (i:=0) hpos)) rfl,kT]
    rw [Int.toNat_natCast,show wss.getD i []=ws by rw [List.getD_eq_getElem?_getD,q];rfl]
    cases lkM M (i:Nat)<;>rfl
 walk_at "mx"
 rw [e]
 walk_at "mx"
 rw [aH]
 rfl
theorem kW {M:Se} (h:(M.map (·.1)).Nodup) {p:Int×Int} (hp:p∈M):lkM M p.1=some p.2:=by
 have:=Bk h hp
 rw [kT] at this
 cases q:lkM M p.1 with
 | none=>rw [q] at this;cases this
 | some v=>rw [q] at this;cases this;rfl
theorem xn {M:Se} {k v:Int} (h:lkM M k=some v):(k,v)∈M:=by
 unfold lkM at h
 cases q:M.find? fun x=>decide (x.1=k) with
 | none=>rw [q] at h;cases h
 | some p=>
  rw [q] at h
  cases h
  have h1:=List.mem_of_find?_eq_some q
  have h2:p.1=k:=by simpa using List.find?_some q
  rw [← h2]
  exact h1
theorem d9 {x y:D} {S:Sto}:oIx (.d (.tup [x,y])) (.d (.int 0)) S=.ok (.d x) S:=cn rfl
theorem rD {x y:D} {S:Sto}:oIx (.d (.tup [x,y])) (.d (.int 1)) S=.ok (.d y) S:=cn rfl
theorem AK:decide ((Str.ofString "hand":Str)=Str.ofString "unlike")=false:=by decide +kernel
theorem Bh:decide ((Str.ofString "hand":Str)=Str.ofString "many")=false:=by decide +kernel
theorem zP:decide ((Str.ofString "hand":Str)=Str.ofString "sum")=false:=by decide +kernel
theorem Ag:decide ((Str.ofString "hand":Str)=Str.ofString "row")=false:=by decide +kernel
theorem AY {s:List Int} {c:Int} {S:Sto} (h:s.length≤1000):bh (.d (aj s)) (.d (.tup [.int c])) S=.ok (.d (aj (s++[c]))) S:=tT (t:=[c]) (by rw [List.length_singleton];omega)
def bg (W:Int→List Int) (L:Int→Int):Int→List Int→Option Se
 | _,[]=>some []
 | fr,n :: r=>match (W n).filter fun w=>decide (fr≤w) with
  | []=>none
  | b :: _=>(bg W L (b+L n) r).map ((n,b) :: ·)
theorem xM {W:Int→List Int} {L:Int→Int} {fr n:Int} {r:List Int}:bg W L fr (n :: r)=match (W n).filter fun w=>decide (fr≤w) with
  | []=>none
  | b :: _=>(bg W L (b+L n) r).map ((n,b) :: ·):=rfl
theorem qm {W:Int→List Int} {L:Int→Int}:∀ {order:List Int} {fr:Int} {B:Se},(∀ n∈order,0≤L n)→bg W L fr order=some B→B.map (·.1)=order∧(∀ p∈B,p.2∈W p.1∧fr≤p.2)∧B.Pairwise fun p q=>p.2+L p.1≤q.2
 | [],fr,B,_,h=>by
  cases h
  exact ⟨rfl,by simp,.nil⟩
 | n :: r,fr,B,hL,h=>by
  unfold bg at h
  cases q:(W n).filter fun w=>decide (fr≤w) with
  | nil=>rw [q] at h;cases h
  | cons b l=>
   rw [q] at h
   dsimp only at h
   obtain ⟨B1,h1,rfl⟩:=Option.map_eq_some_iff.mp h
   obtain ⟨a1,a2,a3⟩:=qm (fun m hm=>hL m (by simp [hm])) h1
   obtain ⟨b1,b2⟩:=List.mem_filter.mp (show b∈(W n).filter fun w=>decide (fr≤w) by rw [q];simp)
   have b2:fr≤b:=of_decide_eq_true b2
   have hn:=hL n (by simp)
   refine ⟨by rw [List.map_cons,a1],fun p hp=>?_,List.pairwise_cons.mpr ⟨fun p hp=>(a2 p hp).2,a3⟩⟩
   rcases List.mem_cons.mp hp with rfl | hp
   ·exact ⟨b1,b2⟩
   ·have:=a2 p hp
    exact ⟨this.1,by omega⟩
theorem kQ {W:Int→List Int} {L:Int→Int} {f:Int→Int}:∀ {order:List Int} {fr:Int},(∀ n∈order,f n∈W n∧(W n).Pairwise (· < ·))→(∀ p∈order.zip order.tail,f p.1+L p.1≤f p.2)→(∀ n r,order=n :: r→fr≤f n)→bg W L fr order≠none
 | [],_,_,_,_=>by simp [bg]
 | n :: r,fr,hf,hc,h0=>by
  obtain ⟨h1,h2⟩:=hf n (by simp)
  have h3:=h0 n r rfl
  unfold bg
  have hm:f n∈(W n).filter fun w=>decide (fr≤w):=List.mem_filter.mpr ⟨h1,decide_eq_true h3⟩
  cases q:(W n).filter fun w=>decide (fr≤w) with
  | nil=>rw [q] at hm;cases hm
  | cons b l=>
   dsimp only
   have hb:b≤f n:=by
    have hp:(b :: l).Pairwise (· < ·):=by rw [← q];exact h2.filter _
    rw [q] at hm
    rcases List.mem_cons.mp hm with e | e
    ·omega
    ·have:=(List.pairwise_cons.mp hp).1 _ e
     omega
   have:=kQ (W:=W) (L:=L) (f:=f) (order:=r) (fr:=b+L n) (fun m hm=>hf m (by simp [hm])) (fun p hp=>by
    cases r with
    | nil=>simp at hp
    | cons m r=>exact hc p (by rw [List.tail_cons,List.zip_cons_cons];exact List.mem_cons_of_mem _ hp)) (fun m r' e=>by
    subst e
    have:=hc (n,m) (by simp)
    dsimp only at this
    omega)
   cases q2:bg W L (b+L n) r with
   | none=>exact absurd q2 this
   | some B=>simp
theorem uF {W:Int→List Int} {L:Int→Int} {n w:Int} {r ws:List Int} (e:W n=w :: ws) (h:(W n).Pairwise (· < ·)) (h9:∀ x∈W n,-9≤x):bg W L w (n :: r)=bg W L (-10) (n :: r):=by
 have e1:(W n).filter (fun x=>decide (w≤x))=W n:=List.filter_eq_self.mpr fun x hx=>decide_eq_true (by
  rw [e] at h hx
  rcases List.mem_cons.mp hx with z | z
  ·omega
  ·have:=(List.pairwise_cons.mp h).1 x z
   omega)
 have e2:(W n).filter (fun x=>decide (-10≤x))=W n:=List.filter_eq_self.mpr fun x hx=>decide_eq_true (by have:=h9 x hx;omega)
 unfold bg
 rw [e1,e2]
inductive Tr where
 | late (o:List Int)
 | first (a b:Int) (l r:Tr)
def trD:Tr→D
 | .late o=>.tup [.str "late",aj o]
 | .first a b l r=>.tup [.str "first",.int a,.int b,trD l,trD r]
def dpT:Tr→Nat
 | .late _=>1
 | .first _ _ l r=>1+max (dpT l) (dpT r)
def trR (W:Int→List Int) (L:Int→Int) (ns:List Int):Se→Tr→Prop
 | told,.late o=>2≤o.length∧o.Nodup∧(∀ n∈o,n∈ns)∧(∀ p∈o.zip o.tail,p∈told)∧bg W L (-10) o=none
 | told,.first a b l r=>a≠b∧a∈ns∧b∈ns∧trR W L ns (told++[(a,b)]) l∧trR W L ns (told++[(b,a)]) r
theorem j6 {W:Int→List Int} {L:Int→Int} {ns:List Int} {f:Int→Int} (hf:∀ n∈ns,f n∈W n∧(W n).Pairwise (· < ·)∧-9≤f n) (hL:∀ n∈ns,1≤L n) (ha:∀ a∈ns,∀ b∈ns,a≠b→f a+L a≤f b∨f b+L b≤f a):∀ {t:Tr} {told:Se},(∀ p∈told,f p.1+L p.1≤f p.2)→¬trR W L ns told t
 | .late o,told,ht,h=>by
  obtain ⟨_,_,h3,h4,h5⟩:=h
  exact kQ (f:=f) (fun n hn=>⟨(hf n (h3 n hn)).1,(hf n (h3 n hn)).2.1⟩) (fun p hp=>ht p (h4 p hp)) (fun n r e=>by
   subst e
   have:=(hf n (h3 n (by simp))).2.2
   omega) h5
 | .first a b l r,told,ht,h=>by
  obtain ⟨h1,h2,h3,h4,h5⟩:=h
  rcases ha a h2 b h3 h1 with z | z
  ·exact j6 hf hL ha (fun p hp=>by
    rcases List.mem_append.mp hp with q | q
    ·exact ht p q
    ·rw [List.mem_singleton.mp q];exact z) h4
  ·exact j6 hf hL ha (fun p hp=>by
    rcases List.mem_append.mp hp with q | q
    ·exact ht p q
    ·rw [List.mem_singleton.mp q];exact z) h5
def aW (ns ls:List Int):D:=.tup [.str "hand",aj ns,aj ls]
def lnH (ns ls:List Int) (n:Int):Int:=(lkM (ns.zip ls) n).getD 0
structure bB (ns ls:List Int):Prop where
 len:ls.length=ns.length
 lim:∀ l∈ls,1≤l∧l≤4
theorem sC {ns ls:List Int} (h:ns.Nodup):((ns.zip ls).map (·.1)).Nodup:=h.sublist jT
theorem qJ {ns ls:List Int} (h:ns.Nodup) {k:Nat} {n l:Int} (e1:ns[k]?=some n) (e2:ls[k]?=some l):lkM (ns.zip ls) n=some l:=by
 have:(n,l)∈ns.zip ls:=List.mem_of_getElem? (i:=k) (by rw [List.getElem?_zip_eq_some];exact ⟨e1,e2⟩)
 exact kW (sC h) this
theorem fE {ns ls:List Int} (h:ns.Nodup) (g:bB ns ls) {n:Int} (hn:n∈ns):∃ l,lkM (ns.zip ls) n=some l∧lnH ns ls n=l∧1≤l∧l≤4:=by
 obtain ⟨k,hk,rfl⟩:=List.mem_iff_getElem.mp hn
 have hk2:k < ls.length:=by have:=g.len;omega
 have e:=qJ (ls:=ls) h (List.getElem?_eq_getElem hk) (List.getElem?_eq_getElem hk2)
 exact ⟨_,e,by unfold lnH;rw [e];rfl,g.lim _ (List.getElem_mem hk2)⟩
structure OkH (wss:List (List Int)) (ns ls:List Int) (B:Se):Prop where
 kn:(B.map (·.1)).Nodup
 mem:∀ p∈B,p.1∈ns∧p.2∈aF wss p.1
 all:∀ n∈ns,n∈B.map (·.1)
 pw:B.Pairwise fun p q=>p.2+lnH ns ls p.1≤q.2
theorem yJ {α:Type} {R:α→α→Prop} {l:List α} (h:l.Pairwise R) {x y:α} (hx:x∈l) (hy:y∈l) (hne:x≠y):R x y∨R y x:=by
 induction l with
 | nil=>cases hx
 | cons a l ih=>
  obtain ⟨h1,h2⟩:=List.pairwise_cons.mp h
  rcases List.mem_cons.mp hx with ex | hx'
  ·rcases List.mem_cons.mp hy with ey | hy'
   ·exact absurd (ex.trans ey.symm) hne
   ·exact .inl (ex ▸ h1 y hy')
  ·rcases List.mem_cons.mp hy with ey | hy'
   ·exact .inr (ey ▸ h1 x hx')
   ·exact ih h2 hx' hy'
local macro_rules | `(tactic| walk_at "my") => `(tactic| repeat (first | walk_at "mx" | simp only [fY, lP, jO, List.length_map]))
theorem wo {ns ls:List Int} {S:Sto}:oIx (.d (aW ns ls)) (.d (.int 0)) S=.ok (.d (.str "hand")) S:=cn rfl
theorem cz {ns ls:List Int} {S:Sto}:oIx (.d (aW ns ls)) (.d (.int 1)) S=.ok (.d (aj ns)) S:=cn rfl
theorem gU {ns ls:List Int} {S:Sto}:oIx (.d (aW ns ls)) (.d (.int 2)) S=.ok (.d (aj ls)) S:=cn rfl
theorem pW {ns ls:List Int} {S:Sto}:bF [.d (aW ns ls)] S=.ok (.d (.int 3)) S:=n_
theorem rj {o:Ob} {R:Sto} {wss:List (List Int)} (hp:Pen o) (h0:1≤wss.length) (h1:wss.length≤50):∃ (ns ls:List Int) (o':Ob),bR wss.length ns∧bB ns ls∧Pen o'∧eP [.r 0,.d (aw wss),.d (.int 4)] (o :: R)=.ok (.d (aW ns ls)) (o' :: R):=by
 unfold eP
 rw [cS]
 unfold iZ
 walk_at "mx"
 obtain ⟨ns,o1,gn,hp1,e1⟩:=mw (R:=R) hp h0 h1
 rw [e1]
 walk_at "mx"
 rw [show decide ((4:Int)=0)=false from rfl]
 walk_at "mx"
 rw [show decide ((4:Int)=1)=false from rfl]
 walk_at "mx"
 rw [show decide ((4:Int)=2)=false from rfl]
 walk_at "mx"
 rw [show decide ((4:Int)=3)=false from rfl]
 walk_at "mx"
 obtain ⟨acc,Q,e4,hl,o3,ls,hp3,rfl,rfl,hw,hlim⟩:=k7 (show _=i8 [some (.r 0),some (.d (aw wss)),some (.d (.int 4)),some (.d (aj ns)),none,none,none,none,none,none,none] (o1 :: R) from rfl) (S1:=o1 :: R) (items:=(ns.map D.int).map Vl.d) (by unfold aj;walk_at "mx")
  (fun i acc Q=>∃ (o':Ob) (ls:List Int),Pen o'∧acc=ls.map D.int∧Q=o' :: R∧ls.length=i∧∀ l∈ls,1≤l∧l≤4) ⟨o1,[],hp1,rfl,rfl,rfl,fun _ h=>by cases h⟩ (by
   rintro i z acc Q hz ⟨o',ls,hp',rfl,rfl,hw,hlim⟩ _
   obtain ⟨b,o2,b0,b1,hp2,e2⟩:=bX (R:=R++[.lst (ls.map D.int)]) (m:=2) hp' (by decide) (by decide)
   obtain ⟨u,eu,mu⟩:=gI (ns:=[4,2]) (i:=b) b0 (by simpa using b1)
   have hu:2≤u∧u≤4:=by
    simp only [List.mem_cons,List.not_mem_nil,or_false] at mu
    omega
   obtain ⟨c,o3,c0,c1,hp3,e3⟩:=bX (R:=R++[.lst (ls.map D.int)]) (m:=u) hp2 (by omega) (by omega)
   refine ⟨.int (1+c),o3 :: R,?_,rfl,o3,ls++[1+c],hp3,h_.symm,rfl,by simp [hw],fun l hl=>?_⟩
   ·walk_at "mx"
    rw [e2]
    walk_at "mx"
    rw [kf (show atI [D.int 4,D.int 2] b=some (.int u) from eu)]
    walk_at "mx"
    rw [e3]
    walk_at "mx"
   ·rcases List.mem_append.mp hl with q | q
    ·exact hlim l q
    ·rw [List.mem_singleton.mp q];omega)
 have hw':ls.length=ns.length:=by simpa using hw
 rw [e4]
 walk_at "mx"
 exact ⟨ns,ls,o3,gn,⟨hw',hlim⟩,hp3,by rw [cY,ie];rfl⟩
theorem rq {ns ls:List Int} {S:Sto} (g:bB ns ls):gk [.d (aW ns ls)] S=.ok (.d (.bl true)) S:=by
 unfold gk
 rw [cg]
 unfold kh
 walk_at "mx"
 rw [pW]
 walk_at "mx"
 rw [gU]
 walk_at "mx"
 rw [eY g.lim]
 walk_at "mx"
 rw [gU]
 walk_at "my"
 rw [cz]
 walk_at "my"
 rw [g.len]
 walk_at "mx"
 rw [aH]
theorem xJ {ns ls:List Int} {S:Sto} (g:bB ns ls):cJ [.d (aW ns ls)] S=.ok (.d (.bl true)) S:=by
 unfold cJ
 rw [cg]
 unfold fj
 walk_at "mx"
 rw [wo]
 walk_at "mx"
 rw [AK]
 walk_at "mx"
 rw [Bh]
 walk_at "mx"
 rw [zP]
 walk_at "mx"
 rw [Ag]
 walk_at "mx"
 rw [rq g]
 walk_at "mx"
 rw [aH]
theorem qg {ns ls:List Int} {k:Nat} {S:Sto} (g:bR k ns) (gl:bB ns ls) (hk:k≤4):gf [.d (aW ns ls)] S=.ok (.d (.bl true)) S:=by
 unfold gf
 rw [cg]
 unfold kZ
 walk_at "mx"
 rw [show isT "tuple" (aW ns ls)=true from rfl]
 walk_at "mx"
 rw [pW]
 walk_at "mx"
 rw [show decide ((3:Int) < 2)=false from rfl]
 walk_at "mx"
 rw [cz]
 walk_at "mx"
 rw [ni g hk]
 walk_at "mx"
 rw [xJ gl]
 walk_at "mx"
 rw [aH]
theorem mD {wss:List (List Int)} {ns ls:List Int} {S:Sto} (g:bR wss.length ns) (gl:bB ns ls) (hk:wss.length≤4):dW [.d (aw wss),.d (aW ns ls)] S=.ok (.d (.bl true)) S:=by
 unfold dW
 rw [dC]
 unfold iH
 walk_at "mx"
 rw [qg g gl hk]
 walk_at "mx"
 rw [cN (show _=iq [some (.d (aw wss)),some (.d (aW ns ls))] S from rfl) (xs:=ns.map D.int) (S1:=S) (by walk_at "mx";rw [cz];rfl) (fun _=>.bl true) (by
  intro x hx S
  obtain ⟨v,hv,rfl⟩:=List.mem_map.mp hx
  have:=g.dom v hv
  unfold aw
  walk_at "mx"
  rw [List.length_map,decide_eq_true this.2])]
 walk_at "mx"
 rw [all_true]
 walk_at "mx"
 rw [aH]
theorem nX {wss:List (List Int)} {ns ls:List Int} {x:Vl} {S:Sto} (g:bR wss.length ns) (gl:bB ns ls) (hk:wss.length≤4):eQ [.d (aw wss),.d (aW ns ls),x] S=.ok (.d .non) S:=by
 unfold eQ
 rw [cS]
 unfold i6
 walk_at "mx"
 rw [mD g gl hk]
 walk_at "mx"
 rw [gO,fI,List.take_length]
theorem xH {wss:List (List Int)} {n m:Int} {ns ls:List Int} {S:Sto} (gs:bK n m wss) (hn:n≤4) (hm:m≤4) (g:bR wss.length ns) (gl:bB ns ls):kc [.d (aw wss),.d (aW ns ls)] S=.ok (.d .non) S:=by
 have:=gs.le
 unfold kc
 rw [dC]
 unfold pT
 walk_at "mx"
 rw [mK gs hn hm]
 walk_at "mx"
 rw [nX g gl (by omega)]
 walk_at "mx"
 rw [gO,fI,List.take_length]
theorem je {wss:List (List Int)} {n m:Int} {ns ls:List Int} {S:Sto} (gs:bK n m wss) (hn:n≤4) (hm:m≤4) (g:bR wss.length ns) (gl:bB ns ls):dv [.d (aw wss),.d (aW ns ls),.d (.str "hand")] S=.ok (.d .non) S:=by
 unfold dv
 rw [cS]
 unfold iQ
 walk_at "mx"
 rw [xH gs hn hm g gl]
 walk_at "mx"
 rw [wo]
 walk_at "mx"
 rw [gO,fI,List.take_length]
theorem wD {ns f:List Int} {S:Sto} (hn:ns.Nodup) (hl:ns.length≤60):fDZ [.d (aj ns),.d (aj f)] S=.ok (.r S.length) (S++[.dct ((ns.zip f).map seD)]):=by
 unfold fDZ aj
 dsimp only
 rw [rE]
 dsimp only
 have e:(ns.map Sum.inl).zip (f.map D.int)=(ns.zip f).map seD:=by
  rw [List.zip_map]
  rfl
 rw [e,if_pos (by rw [List.length_map,List.length_zip];omega),mh]
 ·rfl
 ·rw [List.map_map]
  have:((ns.zip f).map ((fun x=>x.1) ∘ seD))=((ns.zip f).map (·.1)).map Sum.inl:=by rw [List.map_map];rfl
  rw [this]
  exact qF (hn.sublist jT) fun x _ y _ z=>Sum.inl.inj z
 ·simp
theorem iu {ns ls:List Int} {S:Sto} (hn:ns.Nodup) (hl:ns.length≤60):cU [.d (aW ns ls)] S=.ok (.fd ((ns.zip ls).map seD)) S:=by
 unfold cU
 rw [cg]
 unfold iE
 walk_at "mx"
 rw [cz]
 walk_at "mx"
 rw [gU]
 walk_at "mx"
 rw [wD hn hl]
 walk_at "mx"
 rw [rC (R:=[])]
 walk_at "mx"
 rw [tH]
theorem C1 {ns ls:List Int} {n:Int} {S:Sto} (h:ns.Nodup) (g:bB ns ls) (hn:n∈ns):oDx (.fd ((ns.zip ls).map seD)) (.d (.int n)) S=.ok (.d (.int (lnH ns ls n))) S:=by
 obtain ⟨l,e1,e2,_⟩:=fE h g hn
 exact Ek (k:=.inl n) rfl (by rw [kT,e1,e2];rfl)
theorem oj {wss:List (List Int)} {n:Int} {S:Sto} (h0:0≤n) (h1:n < (wss.length:Int)):oIx (.d (aw wss)) (.d (.int n)) S=.ok (.d (aj (aF wss n))) S:=cn (oF h0 h1)
theorem hZ {w:Int} {ws:List Int} {S:Sto}:oIx (.d (aj (w :: ws))) (.d (.int 0)) S=.ok (.d (.int w)) S:=cn (show atI ((w :: ws).map D.int) 0=some (.int w) from lM (ns:=w :: ws) (i:=0) (by simp))
theorem pK {w:Int} {ws:List Int} {S:Sto}:oIx (.d (.lst ((w :: ws).map D.int))) (.d (.int 0)) S=.ok (.d (.int w)) S:=kf (show atI ((w :: ws).map D.int) 0=some (.int w) from lM (ns:=w :: ws) (i:=0) (by simp))
theorem vJ {S:Sto} {x:Ob} {τ:Nv} {z:D}:leave S (.ok (.rt (.d z),τ) (S++[x]))=.ok (.d z) S:=uO
theorem lR {wss:List (List Int)} {n m:Int} {ns ls order:List Int} {S:Sto} (gs:bK n m wss) (h4:wss.length≤4) (gn:bR wss.length ns) (gl:bB ns ls) (ho:order≠[]) (hnd:order.Nodup) (hsub:∀ x∈order,x∈ns) :
  dB [.d (aw wss),.fd ((ns.zip ls).map seD),.d (aj order)] S=.ok (match bg (aF wss) (lnH ns ls) (-10) order with | none=>.d .non | some B=>.fd (B.map seD)) S:=by
 have dom:∀ x∈order,0≤x∧x < (wss.length:Int):=fun x hx=>gn.dom x (hsub x hx)
 obtain ⟨n0,r0,rfl⟩:∃ a l,order=a :: l:=by cases order with | nil=>exact absurd rfl ho | cons a l=>exact ⟨a,l,rfl⟩
 obtain ⟨d0,d1⟩:=dom n0 (by simp)
 have gw:=gs.all _ (eW d0 d1)
 obtain ⟨w0,ws0,ew⟩:∃ a l,aF wss n0=a :: l:=by
  have:=gw.pos
  cases q:aF wss n0 with
  | nil=>unfold aF at q;rw [q] at this;simp at this
  | cons a l=>exact ⟨a,l,rfl⟩
 rw [← uF (W:=aF wss) (L:=lnH ns ls) (r:=r0) ew (by unfold aF;exact gw.rise) (fun x hx=>(gw.lim x hx).1)]
 have hlen:(n0 :: r0).length≤60:=by
  have h1:=gn.le
  have h3:=hnd.length_le_of_subset (l₂:=ns) (fun x hx=>hsub x hx)
  omega
 unfold dB
 rw [cS]
 unfold jb
 walk_at "mx"
 rw [show qj [some (.d (aw wss)),some (.fd ((ns.zip ls).map seD)),some (.d (aj (n0 :: r0))),none,none,none,none] S=.ok (.r S.length) (S++[.dct []]) from rfl]
 walk_at "mx"
 rw [hZ]
 walk_at "mx"
 rw [oj d0 d1,ew]
 walk_at "mx"
 rw [hZ]
 walk_at "mx"
 have q:=yp (show _=jl [some (.d (aw wss)),some (.fd ((ns.zip ls).map seD)),some (.d (aj (n0 :: r0))),some (.r S.length),some (.d (.int w0)),none,none] (S++[.dct []]) from rfl)
  (fun v S2=>v=.d .non∧bg (aF wss) (lnH ns ls) w0 (n0 :: r0)=none∧∃ x,S2=S++[x])
  (S1:=S++[.dct []]) (items:=((n0 :: r0).map D.int).map Vl.d) (gd:=none) (by unfold aj;walk_at "mx")
  (fun i τ S'=>∃ (fr:Int) (B:Se) (x5 x6:Option Vl),τ=[some (.d (aw wss)),some (.fd ((ns.zip ls).map seD)),some (.d (aj (n0 :: r0))),some (.r S.length),some (.d (.int fr)),x5,x6]∧S'=S++[.dct (B.map seD)]∧B.map (·.1)=(n0 :: r0).take i∧bg (aF wss) (lnH ns ls) w0 (n0 :: r0)=(bg (aF wss) (lnH ns ls) fr ((n0 :: r0).drop i)).map (B++·))
  ⟨w0,[],none,none,rfl,rfl,rfl,by rw [List.drop_zero];cases bg (aF wss) (lnH ns ls) w0 (n0 :: r0)<;>rfl⟩ (by
   rintro i z τ S' hz ⟨fr,B,x5,x6,rfl,rfl,hk,hb⟩
   obtain ⟨a,ea,rfl⟩:=ints_get hz
   have ham:=List.mem_of_getElem? ea
   obtain ⟨a0,a1⟩:=dom a ham
   have hd:(n0 :: r0).drop i=a :: (n0 :: r0).drop (i+1):=by
    obtain ⟨hi,e⟩:=List.getElem?_eq_some_iff.mp ea
    rw [← e,List.drop_eq_getElem_cons hi]
   rw [hd,xM (fr:=fr) (n:=a)] at hb
   have eC:∀ T:Sto,fN [some (.d (aw wss)),some (.fd ((ns.zip ls).map seD)),some (.d (aj (n0 :: r0))),some (.r S.length),some (.d (.int fr)),some (.d (.int a)),x6] T=.ok (.d (.lst (((aF wss a).filter fun w=>decide (fr≤w)).map D.int))) T:=fun T=>by
    rw [pP (show _=fN [some (.d (aw wss)),some (.fd ((ns.zip ls).map seD)),some (.d (aj (n0 :: r0))),some (.r S.length),some (.d (.int fr)),some (.d (.int a)),x6] T from rfl) (d:=D.int) (g:=D.int) (xs:=aF wss a) (S1:=T) (by
     walk_at "mx"
     rw [oj a0 a1]
     unfold aj
     walk_at "mx"
     rw [qQ]) (fun w=>decide (fr≤w)) (fun w _ S=>by walk_at "mx") (fun w _ _ S=>by walk_at "mx")]
   cases qf:(aF wss a).filter fun w=>decide (fr≤w) with
   | nil=>
    rw [qf] at hb eC
    refine ⟨_,_,.rt (.d .non),_,_,by walk_at "mx";rfl,by
     walk_at "mx"
     rw [eC]
     walk_at "mx"
     simp only [List.map_nil,List.isEmpty_nil,Bool.not_true]
     walk_at "mx"
     rfl,.inr ⟨_,rfl,rfl,hb,_,rfl⟩⟩
   | cons b l=>
    rw [qf] at hb eC
    dsimp only at hb
    have hnew:a∉B.map (·.1):=fun z=>by
     rw [hk] at z
     obtain ⟨hi,e⟩:=List.getElem?_eq_some_iff.mp ea
     obtain ⟨j,hj,e2⟩:=List.mem_iff_getElem.mp z
     rw [List.getElem_take] at e2
     rw [List.length_take] at hj
     have:=(List.getElem_inj hnd).mp (e2.trans e.symm)
     omega
    have hBl:B.length≤60:=by
     have:=congrArg List.length hk
     rw [List.length_map,List.length_take] at this
     omega
    refine ⟨_,_,.nx,_,_,by walk_at "mx";rfl,by
     walk_at "mx"
     rw [eC]
     walk_at "mx"
     simp only [List.map_cons,List.isEmpty_cons,Bool.not_false]
     walk_at "mx"
     rw [dput (n:=S.length) (k:=a) (zd:=.int b) (kvs:=B.map seD) (by walk_at "mx";exact pK (ws:=l)) (by walk_at "mx") (by walk_at "mx") Bd (by rw [List.length_map];omega),oH (k:=.inl a) (by
      intro z
      rw [List.map_map] at z
      obtain ⟨p,hp,e⟩:=List.mem_map.mp z
      exact hnew (List.mem_map.mpr ⟨p,hp,Sum.inl.inj e⟩)),yc]
     walk_at "mx"
     rw [show D.int b :: l.map D.int=(b :: l).map D.int from rfl,pK]
     walk_at "mx"
     rw [C1 gn.nd gl (hsub a ham)]
     walk_at "mx"
     rfl,.inl ⟨.inl rfl,True.intro,b+lnH ns ls a,B++[(a,b)],_,_,rfl,by rw [List.map_append];rfl,?_,?_⟩⟩
    ·rw [List.map_append,hk,take_snoc ea];rfl
    ·rw [hb,Option.map_map]
     congr 1
     funext x
     simp)
 rcases q with ⟨τ',S',e,fr,B,x5,x6,rfl,rfl,hk,hb⟩ | ⟨v,τ',S',e,rfl,hb,x,rfl⟩
 ·rw [show (((n0 :: r0).map D.int).map Vl.d).length=(n0 :: r0).length by simp,List.drop_length] at hb
  rw [hb,e]
  walk_at "mx"
  rw [rC (R:=[])]
  walk_at "mx"
  rw [tH]
  simp [bg]
 ·rw [hb,e]
  walk_at "mx"
  rw [vJ]
theorem ki:decide ((Str.ofString "no":Str)=Str.ofString "can")=false:=by decide +kernel
theorem lB {a:Int} {l:List Int} {S:Sto}:oSl (.d (aj (a :: l))) (some 1) none S=.ok (.d (aj l)) S:=jq (s:=a :: l) (k:=1)
theorem jy {T:Se} {a:Int} {l:List Int}:(∀ p∈(a :: l).zip (a :: l).tail,p∈T)↔(∀ b,l.head?=some b→(a,b)∈T)∧∀ p∈l.zip l.tail,p∈T:=by
 cases l with
 | nil=>simp
 | cons b l=>simp
theorem nF {T:Se} {a nm:Int} {C:List Int} (h2:(a,nm)∈T) (h3:∀ c,C.head?=some c→(nm,c)∈T):∀ {A:List Int},(∀ p∈(A++a :: C).zip (A++a :: C).tail,p∈T)→∀ p∈(A++a :: nm :: C).zip (A++a :: nm :: C).tail,p∈T
 | [],h=>by
  rw [List.nil_append] at h ⊢
  rw [jy] at h ⊢
  refine ⟨fun b e=>by cases e;exact h2,?_⟩
  rw [jy]
  exact ⟨h3,h.2⟩
 | x :: A,h=>by
  rw [List.cons_append] at h ⊢
  rw [jy] at h ⊢
  refine ⟨fun b e=>h.1 b ?_,nF h2 h3 h.2⟩
  cases A<;>exact e
def Res (wss:List (List Int)) (ns ls:List Int) (told:Se) (d:Nat) (x:D):Prop:=(∃ B,OkH wss ns ls B∧x=.tup [.str "can",aj (mQ wss B)])∨∃ t,trR (aF wss) (lnH ns ls) ns told t∧dpT t≤d∧x=.tup [.str "no",trD t]
def Tells (wss:List (List Int)) (ns ls:List Int) (l:Nat):Prop:=∀ (f:Nat) (order left:List Int) (told:Se) (S:Sto),left.length=l→5 * l+1≤f→order≠[]→(order++left).Perm ns→(∀ p∈order.zip order.tail,p∈told) →
 ∃ x,Res wss ns ls told (3 * l+1) x∧bx f [.d (aw wss),.fd ((ns.zip ls).map seD),.d (aj order),.d (aj left)] S=.ok (.d x) S
theorem t5 {wss:List (List Int)} {ns ls order left:List Int} {l:Nat} {nm:Int} (hns:ns.length≤4) (hl:left.length=l) (ho:order≠[]) (hp:(order++nm :: left).Perm ns) (hnd:ns.Nodup) (ih:Tells wss ns ls l) :
    ∀ (place:Nat) (f:Nat) (told:Se) (S:Sto),place≤order.length→place+5 * l+2≤f→(∀ p∈order.zip order.tail,p∈told)→(∀ a,order[place]?=some a→(nm,a)∈told) →
    ∃ x,Res wss ns ls told (place+(3 * l+1)) x∧bo f [.d (aw wss),.fd ((ns.zip ls).map seD),.d (aj order),.d (.int (place:Int)),.d (aj (nm :: left))] S=.ok (.d x) S:=by
  have hol:order.length≤4:=by
    have:=hp.length_eq
    rw [List.length_append] at this
    omega
  have hmem:∀ x,x∈order∨x=nm→x∈ns:=fun x hx=>hp.mem_iff.mp (by
    rcases hx with h | h
    · exact List.mem_append_left _ h
    · rw [h];exact List.mem_append_right _ (by simp))
  have hne:∀ x∈order,x≠nm:=fun x hx e=>by
    have:=(List.nodup_append.mp (hp.nodup_iff.mpr hnd)).2.2 x hx nm (by simp)
    exact this e
  have hperm:∀ place,(order.take place++[nm]++order.drop place++left).Perm ns:=fun place=>by
    refine List.Perm.trans ?_ hp
    have h1:(order.take place++[nm]++order.drop place).Perm (nm :: order):=by
      rw [List.append_assoc,List.singleton_append]
      refine List.perm_middle.trans ?_
      rw [List.take_append_drop]
    refine (h1.append_right left).trans ?_
    rw [List.cons_append]
    exact List.perm_middle.symm
  have ecut:∀ (place:Nat) (S:Sto),bh (.d (aj (order.take place))) (.d (.tup [.int nm])) S=.ok (.d (aj (order.take place++[nm]))) S:=fun place S=>AY (by rw [List.length_take];omega)
  have ecut2:∀ (place:Nat) (S:Sto),bh (.d (aj (order.take place++[nm]))) (.d (aj (order.drop place))) S=.ok (.d (aj (order.take place++[nm]++order.drop place))) S:=fun place S=>tT (by
    rw [List.length_append,List.length_take,List.length_drop,List.length_singleton];omega)
  intro place
  induction place with
  | zero=>
    intro f told S _ hf hc hn
    obtain ⟨f,rfl⟩:∃ g,f=g+1:=⟨f - 1,by omega⟩
    obtain ⟨x,hx,e⟩:=ih f (order.take 0++[nm]++order.drop 0) left told S hl (by omega) (by simp) (hperm 0) (by
      rw [List.take_zero,List.drop_zero,List.nil_append,List.singleton_append,jy]
      refine ⟨fun b hb=>hn b ?_,hc⟩
      rw [← hb,List.head?_eq_getElem?])
    refine ⟨x,by rw [Nat.zero_add];exact hx,?_⟩
    rw [bo,ub]
    unfold dq
    walk_at "mx"
    rw [hZ]
    walk_at "mx"
    rw [qD]
    walk_at "mx"
    rw [ecut]
    walk_at "mx"
    rw [jq]
    walk_at "mx"
    rw [ecut2]
    walk_at "mx"
    rw [lB]
    walk_at "mx"
    rw [e]
    rcases hx with ⟨B,hB,rfl⟩ | ⟨t,ht,hd,rfl⟩
    · walk_at "mx"
      rw [d9]
      walk_at "mx"
      rw [aH]
    · walk_at "mx"
      rw [d9]
      walk_at "mx"
      rw [ki]
      walk_at "mx"
      rw [show decide (((0:Nat):Int)=0)=true from rfl]
      walk_at "mx"
      rw [aH]
  | succ place ihp=>
    intro f told S hpl hf hc hn
    obtain ⟨f,rfl⟩:∃ g,f=g+1:=⟨f - 1,by omega⟩
    obtain ⟨a,ea⟩:∃ a,order[place]?=some a:=⟨_,List.getElem?_eq_getElem (by omega)⟩
    have ham:=List.mem_of_getElem? ea
    obtain ⟨x,hx,e⟩:=ih f (order.take (place+1)++[nm]++order.drop (place+1)) left (told++[(a,nm)]) S hl (by omega) (by simp) (hperm (place+1)) (by
      rw [take_snoc ea,show order.take place++[a]++[nm]++order.drop (place+1)=order.take place++a :: nm :: order.drop (place+1) by simp]
      refine nF (by simp) (fun c hc=>List.mem_append_left _ (hn c ?_)) fun p hp=>List.mem_append_left _ (hc p ?_)
      · rw [← hc,List.head?_drop]
      · have:order.take place++a :: order.drop (place+1)=order:=by
          obtain ⟨hi,e⟩:=List.getElem?_eq_some_iff.mp ea
          rw [← e,← List.drop_eq_getElem_cons hi,List.take_append_drop]
        rw [this] at hp
        exact hp)
    have hsub:((place+1:Nat):Int) - 1=(place:Int):=by omega
    obtain ⟨y,hy,ey⟩:=ihp f (told++[(nm,a)]) S (by omega) (by omega) (fun p hp=>List.mem_append_left _ (hc p hp)) (fun c hc=>by rw [ea] at hc;cases hc;simp)
    have start:∀ z,(leave S (sq1 (.ok (.nx,[some (.d (aw wss)),some (.fd ((ns.zip ls).map seD)),some (.d (aj order)),some (.d (.int ((place+1:Nat):Int))),some (.d (aj (nm :: left))),some (.d (.int nm)),some (.d x),none]) S)
 (az (xIf (xOr (aR (xOp oEq (xOp oIx (aa 6) (xC (.int 0))) (xC (.str "can")))) (aR (xOp oEq (aa 3) (xC (.int 0))))) (aE (aa 6)) aS)
 (az (aK (ay (bo f) (ab (aa 0) (ab (aa 1) (ab (aa 2) (ab (xOp fb (aa 3) (xC (.int 1))) (ab (aa 4) ak)))))) (gNm 7))
 (az (xIf (aR (xOp oEq (xOp oIx (aa 7) (xC (.int 0))) (xC (.str "can")))) (aE (aa 7)) aS)
 (aE (xN mkT (ab (xC (.str "no")) (ab (xN mkT (ab (xC (.str "first")) (ab (xOp oIx (aa 2) (xOp fb (aa 3) (xC (.int 1)))) (ab (aa 5) (ab (xOp oIx (aa 6) (xC (.int 1))) (ab (xOp oIx (aa 7) (xC (.int 1))) ak)))))) ak))))))))=z)→bo (f+1) [.d (aw wss),.fd ((ns.zip ls).map seD),.d (aj order),.d (.int ((place+1:Nat):Int)),.d (aj (nm :: left))] S=z:=fun z hz=>by
      rw [← hz,bo,ub]
      unfold dq
      walk_at "mx"
      rw [hZ]
      walk_at "mx"
      rw [qD]
      walk_at "mx"
      rw [ecut]
      walk_at "mx"
      rw [jq]
      walk_at "mx"
      rw [ecut2]
      walk_at "mx"
      rw [lB]
      walk_at "mx"
      rw [e]
      walk_at "mx"
    rcases hx with ⟨B,hB,rfl⟩ | ⟨t,ht,hd,rfl⟩
    · refine ⟨_,.inl ⟨B,hB,rfl⟩,start _ ?_⟩
      walk_at "mx"
      rw [d9]
      walk_at "mx"
      rw [aH]
    rcases hy with ⟨B,hB,rfl⟩ | ⟨u,hu,hd2,rfl⟩
    · refine ⟨_,.inl ⟨B,hB,rfl⟩,start _ ?_⟩
      walk_at "mx"
      rw [d9]
      walk_at "mx"
      rw [ki]
      walk_at "mx"
      rw [decide_eq_false (show ¬((place+1:Nat):Int)=0 by omega)]
      walk_at "mx"
      rw [hsub,ey]
      walk_at "mx"
      rw [d9]
      walk_at "mx"
      rw [aH]
    · refine ⟨_,.inr ⟨.first a nm t u,⟨hne a ham,hmem a (.inl ham),hmem nm (.inr rfl),ht,hu⟩,?_,rfl⟩,start _ ?_⟩
      · unfold dpT
        omega
      walk_at "mx"
      rw [d9]
      walk_at "mx"
      rw [ki]
      walk_at "mx"
      rw [decide_eq_false (show ¬((place+1:Nat):Int)=0 by omega)]
      walk_at "mx"
      rw [hsub,ey]
      walk_at "mx"
      rw [d9]
      walk_at "mx"
      rw [ki]
      walk_at "mx"
      rw [hsub,qT (by omega),show order.getD place 0=a by rw [List.getD_eq_getElem?_getD,ea];rfl]
      walk_at "mx"
      rw [rD]
      walk_at "mx"
      rw [rD]
      walk_at "mx"
      rw [aH]
      rfl
theorem xr {wss:List (List Int)} {n m:Int} {ns ls:List Int} (gs:bK n m wss) (h4:wss.length≤4) (gn:bR wss.length ns) (gl:bB ns ls):∀ l,Tells wss ns ls l:=by
 have hns:ns.length≤4:=by have:=gn.le;omega
 intro l
 induction l using Nat.strongRecOn with
 | _ l ih=>
  intro f order left told S hl hf ho hp hc
  obtain ⟨f,rfl⟩:∃ g,f=g+1:=⟨f - 1,by omega⟩
  have hnd:order.Nodup:=(List.nodup_append.mp (hp.nodup_iff.mpr gn.nd)).1
  have hsub:∀ x∈order,x∈ns:=fun x hx=>hp.mem_iff.mp (List.mem_append_left _ hx)
  have eb:=lR (S:=S) gs h4 gn gl ho hnd hsub
  cases q:bg (aF wss) (lnH ns ls) (-10) order with
  | none=>
   rw [q] at eb
   dsimp only at eb
   refine ⟨_,.inr ⟨.late order,⟨?_,hnd,hsub,hc,q⟩,by unfold dpT;omega,rfl⟩,?_⟩
   ·cases order with
    | nil=>exact absurd rfl ho
    | cons a r=>
     cases r with
     | cons b r=>simp
     | nil=>
      obtain ⟨d0,d1⟩:=gn.dom a (hsub a (by simp))
      have gw:=gs.all _ (eW d0 d1)
      have hm:(aF wss a).getD 0 0∈aF wss a:=by
       have:=gw.pos
       unfold aF
       cases e:wss.getD a.toNat [] with
       | nil=>rw [e] at this;simp at this
       | cons x y=>simp
      exact absurd q (kQ (f:=fun a=>(aF wss a).getD 0 0) (fun x hx=>by rw [List.mem_singleton.mp hx];exact ⟨hm,gw.rise⟩) (by simp) (fun x r e=>by
       cases e
       have:=(gw.lim _ hm).1
       omega))
   ·rw [bx,fX]
    unfold cI
    walk_at "mx"
    rw [eb]
    walk_at "mx"
    rw [aH]
    rfl
  | some B=>
   rw [q] at eb
   dsimp only at eb
   cases left with
   | nil=>
    rw [List.append_nil] at hp
    obtain ⟨b1,b2,b3⟩:=qm (fun x hx=>by
     obtain ⟨l,_,e,l1,_⟩:=fE gn.nd gl (hsub x hx)
     omega) q
    refine ⟨_,.inl ⟨B,⟨by rw [b1];exact hnd,fun p hp'=>⟨hsub _ (by rw [← b1];exact List.mem_map.mpr ⟨p,hp',rfl⟩),(b2 p hp').1⟩,fun x hx=>by rw [b1];exact hp.mem_iff.mpr hx,b3⟩,rfl⟩,?_⟩
    rw [bx,fX]
    unfold cI
    walk_at "mx"
    rw [eb]
    walk_at "mx"
    rw [show oIs (.fd (B.map seD)) (.d .non) S=.ok (.d (.bl false)) S from rfl]
    walk_at "mx"
    rw [show aj []=.tup [] from rfl]
    walk_at "mx"
    simp only [List.isEmpty_nil,Bool.not_true]
    walk_at "mx"
    rw [w_ gs]
    walk_at "mx"
    rw [aH]
   | cons nm left=>
    have hl':left.length+1=l:=hl
    have hlen:=hp.length_eq
    rw [List.length_append,List.length_cons] at hlen
    obtain ⟨x,hx,e⟩:=t5 (S:=S) hns rfl ho hp gn.nd (ih left.length (by omega)) order.length f told (Nat.le_refl _) (by omega) hc (fun a ha=>by rw [List.getElem?_eq_none (Nat.le_refl _)] at ha;cases ha)
    refine ⟨x,?_,?_⟩
    ·rcases hx with h | ⟨t,h1,h2,h3⟩
     ·exact .inl h
     ·exact .inr ⟨t,h1,by omega,h3⟩
    rw [bx,fX]
    unfold cI
    walk_at "mx"
    rw [eb]
    walk_at "mx"
    rw [show oIs (.fd (B.map seD)) (.d .non) S=.ok (.d (.bl false)) S from rfl]
    walk_at "mx"
    rw [show aj (nm :: left)=.tup ((nm :: left).map D.int) from rfl]
    walk_at "mx"
    simp only [List.map_cons,List.isEmpty_cons,Bool.not_false]
    walk_at "mx"
    rw [fY,show D.tup (D.int nm :: left.map D.int)=aj (nm :: left) from rfl]
    walk_at "mx"
    rw [e]
    walk_at "mx"
    rw [aH]
theorem oQ {wss:List (List Int)} {n m:Int} {ns ls:List Int} {S:Sto} (gs:bK n m wss) (hn:n≤4) (hm:m≤4) (gn:bR wss.length ns) (gl:bB ns ls):∃ x,Res wss ns ls [] 10 x∧cw [.d (aw wss),.d (aW ns ls)] S=.ok (.d x) S:=by
 have h4:=gs.le
 have hns:=gn.le
 have hpos:=gn.pos
 obtain ⟨a,r,rfl⟩:∃ a l,ns=a :: l:=by cases ns with | nil=>simp at hpos | cons a l=>exact ⟨a,l,rfl⟩
 have hr:(a :: r).length=r.length+1:=List.length_cons
 obtain ⟨x,hx,e⟩:=xr gs (by omega) gn gl r.length 40 [a] r [] S rfl (by omega) (by simp) (List.Perm.refl _) (by simp)
 refine ⟨x,?_,?_⟩
 ·rcases hx with h | ⟨t,h1,h2,h3⟩
  ·exact .inl h
  ·exact .inr ⟨t,h1,by omega,h3⟩
 unfold cw
 rw [dC]
 unfold jK
 walk_at "mx"
 rw [je gs hn hm gn gl]
 walk_at "mx"
 rw [iu gn.nd (by omega)]
 walk_at "mx"
 rw [cz]
 walk_at "mx"
 rw [show oSl (.d (aj (a :: r))) none (some 1) S=.ok (.d (aj [a])) S from qD (s:=a :: r) (k:=1)]
 walk_at "mx"
 rw [cz]
 walk_at "mx"
 rw [lB]
 walk_at "mx"
 rw [e]
 walk_at "mx"
 rw [aH]
def c8 (W:Int→List Int) (L:Int→Int) (ns:List Int):Prop:=∃ f:Int→Int,(∀ n∈ns,f n∈W n)∧∀ a∈ns,∀ b∈ns,a≠b→f a+L a≤f b∨f b+L b≤f a
theorem c6 {W W':Int→List Int} {L L':Int→Int} {ns ns':List Int} (g:Int→Int→Int) (hn:∀ n∈ns',n∈ns) (hg:∀ n∈ns',∀ w∈W n,g n w∈W' n) (hl:∀ a∈ns',∀ b∈ns',a≠b→∀ x y,x+L a≤y→g a x+L' a≤g b y∨g b y+L' b≤g a x):c8 W L ns→c8 W' L' ns':=fun ⟨f,h1,h2⟩=>
 ⟨fun n=>g n (f n),fun n h=>hg n h _ (h1 n (hn n h)),fun a ha b hb hab=>by
  rcases h2 a (hn a ha) b (hn b hb) hab with z | z
  ·exact hl a ha b hb hab _ _ z
  ·exact (hl b hb a ha (fun e=>hab e.symm) _ _ z).symm⟩
theorem uY {wss:List (List Int)} {ns ls:List Int} {B:Se} (h:OkH wss ns ls B):c8 (aF wss) (lnH ns ls) ns:=by
 have get:∀ a∈ns,∃ p∈B,p.1=a∧(lkM B a).getD 0=p.2:=fun a ha=>by
  obtain ⟨p,hp,rfl⟩:=List.mem_map.mp (h.all a ha)
  exact ⟨p,hp,rfl,by rw [kW h.kn hp];rfl⟩
 refine ⟨fun n=>(lkM B n).getD 0,fun n hn=>?_,fun a ha b hb hab=>?_⟩
 ·obtain ⟨p,hp,rfl,e⟩:=get n hn
  dsimp only
  rw [e]
  exact (h.mem p hp).2
 ·obtain ⟨p,hp,rfl,e⟩:=get a ha
  obtain ⟨q,hq,rfl,e2⟩:=get b hb
  dsimp only
  rw [e,e2]
  exact yJ h.pw hp hq (fun z=>hab (by rw [z]))
theorem xm {wss:List (List Int)} {n m:Int} {ns ls:List Int} {t:Tr} (gs:bK n m wss) (gn:bR wss.length ns) (g:bB ns ls) (ht:trR (aF wss) (lnH ns ls) ns [] t):¬c8 (aF wss) (lnH ns ls) ns:=fun ⟨f,h1,h2⟩=>by
 refine j6 (f:=f) (fun a ha=>?_) (fun a ha=>?_) h2 (fun p hp=>by cases hp) ht
 ·obtain ⟨x0,x1⟩:=gn.dom a ha
  have gw:=gs.all _ (eW x0 x1)
  exact ⟨h1 a ha,gw.rise,(gw.lim _ (h1 a ha)).1⟩
 ·obtain ⟨l,_,e,l1,_⟩:=fE gn.nd g ha
  omega
theorem si {α:Type} {R:α→α→Prop}:∀ {l:List α},l.Pairwise R→∀ p∈l.zip l.tail,R p.1 p.2
 | [],_,p,hp=>by simp at hp
 | [a],_,p,hp=>by simp at hp
 | a :: b :: l,h,p,hp=>by
  obtain ⟨h1,h2⟩:=List.pairwise_cons.mp h
  rw [List.tail_cons,List.zip_cons_cons] at hp
  rcases List.mem_cons.mp hp with rfl | hp
  ·exact h1 b (by simp)
  ·exact si h2 p hp
theorem jf {W W':Int→List Int} {L:Int→Int} {ns:List Int} (hL:∀ n∈ns,0≤L n) (h:∀ n∈ns,(∀ w∈W' n,w∈W n)∧(W n).Pairwise (· < ·)):∀ {t:Tr} {told:Se},trR W L ns told t→trR W' L ns told t
 | .late o,told,⟨h1,h2,h3,h4,h5⟩=>by
  refine ⟨h1,h2,h3,h4,?_⟩
  cases q:bg W' L (-10) o with
  | none=>rfl
  | some B=>
   obtain ⟨b1,b2,b3⟩:=qm (fun n hn=>hL n (h3 n hn)) q
   have hk:(B.map (·.1)).Nodup:=by rw [b1];exact h2
   have get:∀ p∈B,(lkM B p.1).getD 0=p.2:=fun p hp=>by rw [kW hk hp];rfl
   refine absurd h5 (kQ (f:=fun n=>(lkM B n).getD 0) (fun n hn=>?_) (fun p hp=>?_) (fun n r e=>?_))
   ·rw [← b1] at hn
    obtain ⟨p,hp,rfl⟩:=List.mem_map.mp hn
    have hpn:=h3 p.1 (by rw [← b1];exact List.mem_map.mpr ⟨p,hp,rfl⟩)
    exact ⟨by rw [get p hp];exact (h _ hpn).1 _ (b2 p hp).1,(h _ hpn).2⟩
   ·rw [← b1,← List.map_tail,List.zip_map] at hp
    obtain ⟨q,hq,rfl⟩:=List.mem_map.mp hp
    obtain ⟨x,y⟩:=q
    have hx:=List.of_mem_zip hq
    have:=si b3 _ hq
    dsimp only [Prod.map] at this ⊢
    rw [get x hx.1,get y (List.mem_of_mem_tail hx.2)]
    exact this
   ·subst e
    cases B with
    | nil=>cases b1
    | cons p B=>
     rw [List.map_cons] at b1
     obtain ⟨rfl,_⟩:=List.cons.inj b1
     rw [get p (by simp)]
     exact (b2 p (by simp)).2
 | .first a b l r,told,⟨h1,h2,h3,h4,h5⟩=>⟨h1,h2,h3,jf hL h h4,jf hL h h5⟩
open Classical in
noncomputable def dH (wss:List (List Int)) (ns ls:List Int):Bool:=decide (c8 (aF wss) (lnH ns ls) ns)
theorem lq {wss vss:List (List Int)} {ns ls ns' ls':List Int} (h:c8 (aF wss) (lnH ns ls) ns↔c8 (aF vss) (lnH ns' ls') ns'):dH vss ns' ls'=dH wss ns ls:=by
 unfold dH
 rw [propext h]
def wd (b:Bool):Str:=if b then "can" else "no"
theorem gq {wss:List (List Int)} {n m:Int} {ns ls:List Int} {S:Sto} (gs:bK n m wss) (hn:n≤4) (hm:m≤4) (gn:bR wss.length ns) (gl:bB ns ls):∃ y,(dH wss ns ls=false→∃ t,trR (aF wss) (lnH ns ls) ns [] t∧dpT t≤10∧y=trD t)∧cw [.d (aw wss),.d (aW ns ls)] S=.ok (.d (.tup [.str (wd (dH wss ns ls)),y])) S:=by
 obtain ⟨x,hx,e⟩:=oQ (S:=S) gs hn hm gn gl
 rcases hx with ⟨B,hB,rfl⟩ | ⟨t,ht,hd,rfl⟩
 ·have hc:dH wss ns ls=true:=@decide_eq_true _ (Classical.propDecidable _) (uY hB)
  exact ⟨_,fun z=>absurd z (by rw [hc];decide),by rw [e,hc];rfl⟩
 ·have hc:dH wss ns ls=false:=@decide_eq_false _ (Classical.propDecidable _) (xm gs gn gl ht)
  exact ⟨_,fun _=>⟨t,ht,hd,rfl⟩,by rw [e,hc];rfl⟩
def prD (p:Int×Int):D:=.tup [.int p.1,.int p.2]
theorem lX:∀ l:Se,D.ck (l.map prD)≤3
 | []=>by decide
 | p :: l=>by
  have:=lX l
  rw [List.map_cons,D.ck]
  have:D.depth (prD p)≤3:=by
   show D.depth (aj [p.1,p.2])≤3
   unfold aj
   rw [D.depth,qo]
   decide
  omega
theorem p7:∀ {a b:List Int},d8 (a.map D.int) (b.map D.int)=(a.zip b).map fun p=>Vl.d (prD p)
 | [],_=>rfl
 | _ :: _,[]=>rfl
 | x :: a,y :: b=>by
  show Vl.d (prD (x,y)) :: d8 (a.map D.int) (b.map D.int)=_
  rw [p7]
  rfl
theorem BE {p:Int×Int} {T:Se} {S:Sto} (h:p∈T):oIn (.d (prD p)) (.d (.lst (T.map prD))) S=.ok (.d (.bl true)) S:=by
 have hd:=lX T
 unfold oIn inX
 dsimp only
 rw [show bJ (.d (.lst (T.map prD))) S=some (T.map prD) from rfl]
 dsimp only
 rw [show D.flat (prD p)=false from rfl,if_neg (by simp),show cB (.d (.lst (T.map prD))) S=some (T.map prD) from rfl]
 dsimp only
 rw [if_pos (by omega)]
 have:inD (prD p) (T.map prD)=true:=by
  unfold inD
  rw [List.any_map,List.any_eq_true]
  exact ⟨p,h,by show D.eqv (prD p) (prD p)=true;exact D.eqv_refl _⟩
 rw [this]
theorem yN {wss:List (List Int)} {n m:Int} {ns ls order:List Int} {told:Se} {S:Sto} (gs:bK n m wss) (h4:wss.length≤4) (gn:bR wss.length ns) (gl:bB ns ls) (hr:trR (aF wss) (lnH ns ls) ns told (.late order)):cP [.d (aw wss),.d (aW ns ls),.d (aj order),.d (.lst (told.map prD))] S=.ok (.d (.bl true)) S:=by
 obtain ⟨h1,h2,h3,h5,h6⟩:=hr
 have hns:=gn.le
 have hol:order.length≤4:=by
  have:=h2.length_le_of_subset (l₂:=ns) (fun x hx=>h3 x hx)
  omega
 unfold cP
 rw [fX]
 unfold fM
 walk_at "mx"
 rw [show isT "tuple" (aj order)=true from rfl]
 walk_at "my"
 rw [decide_eq_false (show ¬(order.length:Int) < 2 by omega)]
 walk_at "mx"
 rw [iz h2 (by omega)]
 walk_at "mx"
 rw [cN (show _=fH [some (.d (aw wss)),some (.d (aW ns ls)),some (.d (aj order)),some (.d (.lst (told.map prD)))] S from rfl) (xs:=order.map D.int) (S1:=S) (by unfold aj;walk_at "mx") (fun _=>.bl true) (by
  intro x hx S
  obtain ⟨v,hv,rfl⟩:=List.mem_map.mp hx
  walk_at "mx"
  rw [cz]
  walk_at "my"
  rw [decide_eq_true (h3 v hv)])]
 walk_at "mx"
 rw [all_true]
 walk_at "mx"
 have eC2:dM [some (.d (aw wss)),some (.d (aW ns ls)),some (.d (aj order)),some (.d (.lst (told.map prD)))] S=.ok (.d (.lst ((order.zip order.tail).map fun _=>D.bl true))) S:=by
  rw [pP (show _=dM [some (.d (aw wss)),some (.d (aW ns ls)),some (.d (aj order)),some (.d (.lst (told.map prD)))] S from rfl) (d:=prD) (g:=fun _=>D.bl true) (xs:=order.zip order.tail) (S1:=S) (by
   unfold iZt
   walk_at "mx"
   rw [show (some (1:Int))=some ((1:Nat):Int) from rfl,jq]
   walk_at "mx"
   rw [bf,← List.drop_one,← p7]
   rfl) (fun _=>true) (fun p _ S=>rfl) (fun p hp _ S=>by
   walk_at "mx"
   rw [BE (h5 p hp)])]
  rw [List.filter_eq_self.mpr (fun _ _=>rfl)]
 rw [eC2]
 walk_at "mx"
 rw [all_true]
 walk_at "mx"
 rw [iu gn.nd (by omega)]
 walk_at "mx"
 rw [lR gs h4 gn gl (by intro z;rw [z] at h1;simp at h1) h2 h3,h6]
 walk_at "mx"
 rw [aH]
theorem judge_ok {wss:List (List Int)} {n m:Int} {ns ls:List Int} (gs:bK n m wss) (h4:wss.length≤4) (gn:bR wss.length ns) (gl:bB ns ls):∀ {t:Tr} {f:Nat} {told:Se} {S:Sto},2 * dpT t≤f→told.length+dpT t≤1000→trR (aF wss) (lnH ns ls) ns told t→bH f [.d (aw wss),.d (aW ns ls),.d (trD t),.d (.lst (told.map prD))] S=.ok (.d (.bl true)) S
 | .late o,f,told,S,hf,hl,h=>by
  obtain ⟨f,rfl⟩:∃ g,f=g+1:=⟨f - 1,by unfold dpT at hf;omega⟩
  rw [bH,fX]
  unfold dI trD
  walk_at "mx"
  rw [jx]
  walk_at "mx"
  rw [show decide (((2:Nat):Int)=2)=true from rfl]
  walk_at "mx"
  rw [d9]
  walk_at "mx"
  rw [rD]
  walk_at "mx"
  rw [yN gs h4 gn gl h]
  walk_at "mx"
  rw [aH]
 | .first a b l r,f,told,S,hf,hl,h=>by
  obtain ⟨h1,h2,h3,h5,h6⟩:=h
  unfold dpT at hf hl
  obtain ⟨f,rfl⟩:∃ g,f=g+2:=⟨f - 2,by omega⟩
  have el:=judge_ok gs h4 gn gl (t:=l) (f:=f) (S:=S) (by omega) (by rw [List.length_append,List.length_singleton];omega) h5
  have er:=judge_ok gs h4 gn gl (t:=r) (f:=f) (S:=S) (by omega) (by rw [List.length_append,List.length_singleton];omega) h6
  have ea:∀ (x y:Int),bh (.d (.lst (told.map prD))) (.d (.lst [.tup [.int x,.int y]])) S=.ok (.d (.lst ((told++[(x,y)]).map prD))) S:=fun x y=>by
   rw [tK (by rw [List.length_map,List.length_singleton];omega),List.map_append]
   rfl
  have es:bU (f+1) [.d (aw wss),.d (aW ns ls),.d (.tup [.str "first",.int a,.int b,trD l,trD r]),.d (.lst (told.map prD))] S=.ok (.d (.bl true)) S:=by
   rw [bU,fX]
   unfold fm
   walk_at "mx"
   rw [show oIx (.d (.tup [.str "first",.int a,.int b,trD l,trD r])) (.d (.int 1)) S=.ok (.d (.int a)) S from cn rfl]
   walk_at "mx"
   rw [show oIx (.d (.tup [.str "first",.int a,.int b,trD l,trD r])) (.d (.int 2)) S=.ok (.d (.int b)) S from cn rfl]
   walk_at "mx"
   rw [decide_eq_false h1]
   walk_at "mx"
   rw [cz]
   walk_at "my"
   rw [decide_eq_true h2]
   walk_at "mx"
   rw [cz]
   walk_at "my"
   rw [decide_eq_true h3]
   walk_at "mx"
   rw [show oIx (.d (.tup [.str "first",.int a,.int b,trD l,trD r])) (.d (.int 3)) S=.ok (.d (trD l)) S from cn rfl]
   walk_at "mx"
   rw [ea]
   walk_at "mx"
   rw [el]
   walk_at "mx"
   rw [show oIx (.d (.tup [.str "first",.int a,.int b,trD l,trD r])) (.d (.int 4)) S=.ok (.d (trD r)) S from cn rfl]
   walk_at "mx"
   rw [ea]
   walk_at "mx"
   rw [er]
   walk_at "mx"
   rw [aH]
  rw [bH,fX]
  unfold dI trD
  walk_at "mx"
  rw [jx]
  walk_at "mx"
  rw [show decide (((5:Nat):Int)=2)=false from rfl]
  walk_at "mx"
  rw [show decide (((5:Nat):Int)=5)=true from rfl]
  walk_at "mx"
  rw [show oIx (.d (.tup [.str "first",.int a,.int b,trD l,trD r])) (.d (.int 0)) S=.ok (.d (.str "first")) S from cn rfl]
  walk_at "mx"
  rw [es]
  walk_at "mx"
  rw [aH]
theorem mJ {wss:List (List Int)} {n m:Int} {ns ls:List Int} {t:Tr} {S:Sto} (gs:bK n m wss) (hn:n≤4) (hm:m≤4) (gn:bR wss.length ns) (gl:bB ns ls) (hd:dpT t≤10) (h:trR (aF wss) (lnH ns ls) ns [] t):ef [.d (aw wss),.d (aW ns ls),.d (trD t)] S=.ok (.d (.bl true)) S:=by
 have h4:=gs.le
 unfold ef
 rw [cS]
 unfold iF
 walk_at "mx"
 rw [je gs hn hm gn gl]
 walk_at "mx"
 rw [show (D.lst [])=.lst (([]:Se).map prD) from rfl,judge_ok gs (by omega) gn gl (by omega) (by rw [List.length_nil];omega) h]
 walk_at "mx"
 rw [aH]
theorem AR {wss:List (List Int)} {x:List Int} {k:Nat} {p:Int} (hk:k < wss.length):aF (wss.set k x) p=if p.toNat=k then x else aF wss p:=by
 unfold aF
 rw [List.getD_eq_getElem?_getD,List.getD_eq_getElem?_getD,List.getElem?_set]
 by_cases h:k=p.toNat
 ·rw [if_pos h,if_pos h.symm,if_pos (by omega)];rfl
 ·rw [if_neg h,if_neg (fun z=>h z.symm)]
theorem wa {wss:List (List Int)} {x:List Int} {k:Nat} (gs:bK 4 4 wss) (hx:GoodW 4 x):bK 4 4 (wss.set k x):=⟨by rw [List.length_set];exact gs.pos,by rw [List.length_set];exact gs.le,fun ws h=>by
 rcases List.mem_or_eq_of_mem_set h with h | h
 ·exact gs.all ws h
 ·rw [h];exact hx⟩
theorem sti {wss:List (List Int)} {k:Nat} {S:Sto} (hk:k < wss.length):oIx (.d (aw wss)) (.d (.int (k:Int))) S=.ok (.d (aj (aF wss (k:Int)))) S:=cn (oF (by omega) (by omega))
theorem Ai {wss:List (List Int)} {k:Nat} (hk:k < wss.length):aF wss (k:Int)∈wss:=eW (by omega) (by omega)
theorem BS {wss:List (List Int)} {k:Nat} {S:Sto}:oSl (.d (aw wss)) none (some (k:Int)) S=.ok (.d (.tup ((wss.take k).map aj))) S:=by
 unfold aw
 rw [kz,oq,List.map_take]
theorem uB {wss:List (List Int)} {k:Nat} {S:Sto}:oSl (.d (aw wss)) (some ((k:Int)+1)) none S=.ok (.d (.tup ((wss.drop (k+1)).map aj))) S:=by
 unfold aw
 rw [kz,show ((k:Int)+1)=((k+1:Nat):Int) by omega,nD,List.map_drop]
theorem ya {wss:List (List Int)} {x:List Int} {k:Nat} {S:Sto} (hk:k < wss.length) (h4:wss.length≤1000):bh (.d (.tup ((wss.take k).map aj++[aj x]))) (.d (.tup ((wss.drop (k+1)).map aj))) S=.ok (.d (aw (wss.set k x))) S:=by
 rw [kK (by simp;omega)]
 unfold aw
 rw [List.set_eq_take_append_cons_drop,if_pos hk]
 simp
theorem D_ {a:XE} {τ:Nv} {xs:List D} {n:Nat} {S S1:Sto} (ha:a τ S=.ok (.r n) S1) (hn:S1[n]?=some (.lst xs)):b8 a τ S=.ok ⟨xs.map Vl.d,some (n,.lst xs)⟩ S1:=by unfold b8;rw [ha,bf];simp [hn]
theorem xA {n m:Int} {wss:List (List Int)} (gs:bK n m wss) (hn:n≤4) (hm:m≤4):bK 4 4 wss:=⟨gs.pos,by have:=gs.le;omega,fun ws h=>⟨(gs.all ws h).rise,(gs.all ws h).lim,(gs.all ws h).pos,by have:=(gs.all ws h).le;omega⟩⟩
theorem zE {ns ls ns' ls':List Int} (hn:ns.Nodup) (hn':ns'.Nodup) (g:bB ns ls) (h:∀ p∈ns.zip ls,p∈ns'.zip ls') {n:Int} (hm:n∈ns):lnH ns' ls' n=lnH ns ls n:=by
 obtain ⟨l,e,e2,_⟩:=fE hn g hm
 rw [e2]
 unfold lnH
 rw [kW (sC hn') (h _ (xn e))]
 rfl
theorem vj {o:Ob} {R:Sto} {k:Nat} {ns ls:List Int} (hp:Pen o) (gn:bR k ns) (hk:k≤50) (gl:bB ns ls):∃ (ns' ls':List Int) (o':Ob),bR k ns'∧bB ns' ls'∧(∀ n,n∈ns'↔n∈ns)∧(∀ n∈ns,lnH ns' ls' n=lnH ns ls n)∧Pen o'∧ez [.r 0,.d (aW ns ls)] (o :: R)=.ok (.d (aW ns' ls')) (o' :: R):=by
 have hgl:=gn.le
 unfold ez
 rw [dC]
 unfold iK
 walk_at "mx"
 rw [cz]
 walk_at "mx"
 rw [fY]
 walk_at "mx"
 rw [rY (by omega)]
 walk_at "mx"
 have hr:(List.range ((ns.length:Nat):Int).toNat).map (fun i=>D.int ((i:Nat):Int))=((List.range ns.length).map fun i=>((i:Nat):Int)).map D.int:=by rw [Int.toNat_natCast,List.map_map];rfl
 rw [hr]
 generalize hL:((List.range ns.length).map fun i=>((i:Nat):Int))=L0
 have lL:L0.length=ns.length:=by rw [← hL];simp
 have mL:∀ n,n∈L0↔∃ i:Nat,i < ns.length∧n=(i:Int):=fun n=>by
  rw [← hL,List.mem_map]
  exact ⟨fun ⟨i,hi,e⟩=>⟨i,List.mem_range.mp hi,e.symm⟩,fun ⟨i,hi,e⟩=>⟨i,List.mem_range.mpr hi,e.symm⟩⟩
 have nL:L0.Nodup:=by
  rw [← hL]
  exact List.Pairwise.map _ (fun a b (h:a≠b)=>by omega) List.nodup_range
 obtain ⟨acc,Q,e4,hl,o3,σ,left,hp3,rfl,rfl,hw,hlen,hperm⟩:=k7 (show _=ip [some (.r 0),some (.d (aW ns ls)),some (.r (R.length+1)),none] (o :: (R++[.lst (L0.map D.int)])) from rfl) (S1:=o :: (R++[.lst (L0.map D.int)])) (items:=(ns.map D.int).map Vl.d) (by
   walk_at "mx"
   rw [cz]
   unfold aj
   walk_at "mx")
  (fun i acc Q=>∃ (o':Ob) (σ left:List Int),Pen o'∧acc=σ.map D.int∧Q=o' :: (R++[.lst (left.map D.int)])∧σ.length=i∧left.length+i=ns.length∧(σ++left).Perm L0) ⟨o,[],L0,hp,rfl,rfl,rfl,by omega,List.Perm.refl _⟩ (by
   rintro i z acc Q hz ⟨o',σ,left,hp',rfl,rfl,hw,hlen,hperm⟩ _
   obtain ⟨p,ep,rfl⟩:=ints_get hz
   have hi:=(List.getElem?_eq_some_iff.mp ep).1
   obtain ⟨c,o3,c0,c1,hp3,e3⟩:=bX (R:=R++[.lst (left.map D.int),.lst (σ.map D.int)]) (m:=(left.length:Int)) hp' (by omega) (by omega)
   have hc:c.toNat < left.length:=by omega
   have hge:(left.map D.int)[c.toNat]?=some (.int left[c.toNat]):=by rw [List.getElem?_map,List.getElem?_eq_getElem hc];rfl
   have pe:(left[c.toNat] :: left.eraseIdx c.toNat).Perm left:=hG left c.toNat hc
   have pa:((σ++[left[c.toNat]])++left.eraseIdx c.toNat).Perm (σ++left):=by
    rw [List.append_assoc]
    exact List.Perm.append_left σ pe
   refine ⟨.int left[c.toNat],o3 :: (R++[.lst ((left.eraseIdx c.toNat).map D.int)]),?_,by simp,o3,σ++[left[c.toNat]],left.eraseIdx c.toNat,hp3,h_.symm,rfl,by simp [hw],?_,pa.trans hperm⟩
   ·walk_at "mx"
    rw [show (R++[Ob.lst (left.map D.int)]++[Ob.lst (σ.map D.int)])=R++[.lst (left.map D.int),.lst (σ.map D.int)] by simp]
    walk_at "mx"
    rw [kX (xs:=left.map D.int) (by walk_at "mx"),List.length_map]
    walk_at "mx"
    rw [e3]
    walk_at "mx"
    rw [wM (by omega) hge]
    walk_at "mx"
    rw [iN]
    simp
   ·rw [List.length_eraseIdx_of_lt hc];omega)
 rw [show ((ns.map D.int).map Vl.d).length=ns.length by simp] at hw hlen
 have hleft:left=[]:=List.length_eq_zero_iff.mp (by omega)
 subst hleft
 rw [List.append_nil] at hperm
 rw [e4]
 walk_at "mx"
 have pickd:∀ (xs:List Int),xs.length=ns.length→∀ at'∈σ,∀ S:Sto,oIx (.d (aj xs)) (.d (.int at')) S=.ok (.d (.int (xs.getD at'.toNat 0))) S:=fun xs hx at' ha S=>by
  obtain ⟨i,hi,e⟩:=(mL at').mp (hperm.mem_iff.mp ha)
  subst e
  rw [qT (by omega),Int.toNat_natCast]
 rw [pI (show _=iJ [some (.r 0),some (.d (aW ns ls)),some (.r (R.length+1)),some (.d (.lst (σ.map D.int)))] (o3 :: (R++[.lst []])) from rfl) (xs:=σ.map D.int) (S1:=o3 :: (R++[.lst []])) (by walk_at "mx") (fun x=>match x with | .int a=>.int (ns.getD a.toNat 0) | _=>.non) (by
  intro x hx S
  obtain ⟨a,ha,rfl⟩:=List.mem_map.mp hx
  walk_at "mx"
  rw [cz]
  walk_at "mx"
  rw [pickd ns rfl a ha])]
 walk_at "mx"
 rw [pI (show _=iG [some (.r 0),some (.d (aW ns ls)),some (.r (R.length+1)),some (.d (.lst (σ.map D.int)))] (o3 :: (R++[.lst []])) from rfl) (xs:=σ.map D.int) (S1:=o3 :: (R++[.lst []])) (by walk_at "mx") (fun x=>match x with | .int a=>.int (ls.getD a.toNat 0) | _=>.non) (by
  intro x hx S
  obtain ⟨a,ha,rfl⟩:=List.mem_map.mp hx
  walk_at "mx"
  rw [gU]
  walk_at "mx"
  rw [pickd ls gl.len a ha])]
 walk_at "mx"
 have getN:∀ (xs:List Int) {i:Nat},i < xs.length→xs[i]?=some (xs.getD i 0):=fun xs i hi=>by rw [List.getD_eq_getElem?_getD,List.getElem?_eq_getElem hi];rfl
 have hglen:=gl.len
 have zz:(σ.map fun a:Int=>ns.getD a.toNat 0).zip (σ.map fun a:Int=>ls.getD a.toNat 0)=σ.map fun a:Int=>(ns.getD a.toNat 0,ls.getD a.toNat 0):=by
  rw [List.zip_map']
 have hmem:∀ n,n∈(σ.map fun a:Int=>ns.getD a.toNat 0)↔n∈ns:=fun n=>by
  rw [List.mem_map]
  constructor
  ·rintro ⟨a,ha,rfl⟩
   obtain ⟨i,hi,rfl⟩:=(mL a).mp (hperm.mem_iff.mp ha)
   exact List.mem_of_getElem? (getN ns (by omega))
  ·intro hn
   obtain ⟨i,hi,rfl⟩:=List.mem_iff_getElem.mp hn
   refine ⟨(i:Int),hperm.mem_iff.mpr ((mL _).mpr ⟨i,hi,rfl⟩),?_⟩
   rw [Int.toNat_natCast,List.getD_eq_getElem?_getD,List.getElem?_eq_getElem hi]
   rfl
 have hnd:(σ.map fun a:Int=>ns.getD a.toNat 0).Nodup:=qF (hperm.nodup_iff.mpr nL) fun x hx y hy e=>by
  obtain ⟨i,hi,rfl⟩:=(mL x).mp (hperm.mem_iff.mp hx)
  obtain ⟨j,hj,rfl⟩:=(mL y).mp (hperm.mem_iff.mp hy)
  rw [Int.toNat_natCast,Int.toNat_natCast,List.getD_eq_getElem?_getD,List.getD_eq_getElem?_getD,List.getElem?_eq_getElem hi,List.getElem?_eq_getElem hj] at e
  have:i=j:=(List.getElem_inj gn.nd).mp e
  omega
 refine ⟨σ.map fun a:Int=>ns.getD a.toNat 0,σ.map fun a:Int=>ls.getD a.toNat 0,o3,⟨fun n hn=>gn.dom n ((hmem n).mp hn),by rw [List.length_map,hw];exact gn.pos,by rw [List.length_map,hw];exact gn.le,hnd⟩,⟨by simp,fun l hl=>?_⟩,hmem,fun n hn=>zE gn.nd hnd gl (fun p hp=>?_) hn,hp3,?_⟩
 ·obtain ⟨a,ha,rfl⟩:=List.mem_map.mp hl
  obtain ⟨i,hi,rfl⟩:=(mL a).mp (hperm.mem_iff.mp ha)
  exact gl.lim _ (List.mem_of_getElem? (getN ls (by omega)))
 ·rw [zz]
  obtain ⟨i,hi,e⟩:=List.mem_iff_getElem.mp hp
  rw [List.length_zip] at hi
  refine List.mem_map.mpr ⟨(i:Int),hperm.mem_iff.mpr ((mL _).mpr ⟨i,by omega,rfl⟩),?_⟩
  rw [← e,Int.toNat_natCast,List.getElem_zip,List.getD_eq_getElem?_getD,List.getD_eq_getElem?_getD,List.getElem?_eq_getElem (by omega),List.getElem?_eq_getElem (by omega)]
  rfl
 ·rw [cY]
  simp [aW,aj,Function.comp_def]
theorem vL {wss:List (List Int)} {d:Int} {S:Sto}:gh [.d (aw wss),.d (.int d)] S=.ok (.d (aw (wss.map fun ws=>ws.map (·+d)))) S:=by
 unfold gh
 rw [dC]
 unfold kA
 walk_at "mx"
 rw [cN (show _=k8 [some (.d (aw wss)),some (.d (.int d))] S from rfl) (xs:=wss.map aj) (S1:=S) (by walk_at "mx";rfl) (fun x=>match x with | .tup xs=>.tup (xs.map fun y=>match y with | .int w=>.int (w+d) | _=>.non) | _=>.non) (by
  intro x hx S
  obtain ⟨ws,_,rfl⟩:=List.mem_map.mp hx
  walk_at "mx"
  rw [cN (show _=kE [some (.d (aj ws)),some (.d (aw wss)),some (.d (.int d))] S from rfl) (xs:=ws.map D.int) (S1:=S) (by unfold aj;walk_at "mx") (fun y=>match y with | .int w=>.int (w+d) | _=>.non) (by
   intro y hy S
   obtain ⟨w,_,rfl⟩:=List.mem_map.mp hy
   walk_at "mx")]
  walk_at "mx"
  rfl)]
 walk_at "mx"
 rw [aH]
 simp [aw,aj,Function.comp_def]
def abW (ns ls:List Int) (k:Nat) (ws:List Int):List Int:=sortI (ws.map fun w=>0 - w - (lkM (ns.zip ls) (k:Int)).getD 0)
def abS (ns ls:List Int) (wss:List (List Int)):List (List Int):=(List.range wss.length).map fun k=>abW ns ls k (wss.getD k [])
theorem vZ {wss:List (List Int)} {n m:Int} {ns ls:List Int} {S:Sto} (gs:bK n m wss) (hm:m≤4) (hn:ns.Nodup) (hl:ns.length≤60) (h4:wss.length≤4):f9 [.d (aw wss),.d (aW ns ls)] S=.ok (.d (aw (abS ns ls wss))) S:=by
 unfold f9
 rw [dC]
 unfold kL
 walk_at "mx"
 rw [cz]
 walk_at "mx"
 rw [gU]
 walk_at "mx"
 rw [wD hn hl]
 walk_at "mx"
 rw [rC (R:=[])]
 walk_at "mx"
 obtain ⟨τ',S',e,acc,x4,x5,rfl,rfl,hacc⟩:=iV (show _=ky [some (.d (aw wss)),some (.d (aW ns ls)),some (.fd ((ns.zip ls).map seD)),some (.r (S++[Ob.dead]).length),none,none] (S++[.dead]++[.lst []]) from rfl) (S1:=S++[.dead]++[.lst []]) (items:=b6 0 (wss.map aj)) (gd:=none) (by unfold oD aw;walk_at "mx";rfl)
  (fun i τ S'=>∃ (acc:List (List Int)) (x4 x5:Option Vl),τ=[some (.d (aw wss)),some (.d (aW ns ls)),some (.fd ((ns.zip ls).map seD)),some (.r (S++[Ob.dead]).length),x4,x5]∧S'=S++[.dead]++[.lst (acc.map aj)]∧acc=(List.range i).map fun k=>abW ns ls k (wss.getD k [])) ⟨[],none,none,rfl,rfl,rfl⟩ (by
   rintro i z τ S' hz ⟨acc,x4,x5,rfl,rfl,hacc⟩
   obtain ⟨x,hx,rfl⟩:=fQ hz
   rw [List.getElem?_map] at hx
   cases q:wss[i]? with
   | none=>rw [q] at hx;cases hx
   | some ws=>
    rw [q] at hx
    cases hx
    have hi:=(List.getElem?_eq_some_iff.mp q).1
    have gw:=gs.all ws (List.mem_of_getElem? q)
    have hwl:=gw.le
    refine ⟨_,_,.nx,_,_,by walk_at "mx";rfl,by
     walk_at "mx"
     rw [cN (show _=kR [some (.d (aw wss)),some (.d (aW ns ls)),some (.fd ((ns.zip ls).map seD)),some (.r (S++[Ob.dead]).length),some (.d (.int (i:Nat))),some (.d (aj ws))] (S++[.dead]++[.lst (acc.map aj)]) from rfl) (xs:=ws.map D.int) (S1:=S++[.dead]++[.lst (acc.map aj)]) (by unfold aj;walk_at "mx") (fun y=>match y with | .int w=>.int (0 - w - (lkM (ns.zip ls) (i:Nat)).getD 0) | _=>.non) (by
      intro y hy S2
      obtain ⟨w,_,rfl⟩:=List.mem_map.mp hy
      walk_at "mx"
      rw [uf (S1:=S2) (S2:=S2) (S3:=S2) (kvs:=(ns.zip ls).map seD) (yd:=.int (i:Nat)) (key:=.inl (i:Nat)) (zd:=.int 0) (by walk_at "mx") (by walk_at "mx") (by walk_at "mx") rfl,kT]
      cases lkM (ns.zip ls) (i:Nat)<;>walk_at "mx"<;>rfl)]
     rw [show (ws.map D.int).map (fun y=>match y with | .int w=>D.int (0 - w - (lkM (ns.zip ls) (i:Nat)).getD 0) | _=>.non)=(ws.map fun w=>0 - w - (lkM (ns.zip ls) (i:Nat)).getD 0).map D.int by rw [List.map_map,List.map_map];rfl]
     walk_at "mx"
     rw [xP (by rw [List.length_map];omega)]
     walk_at "mx"
     rw [rP (by
      rw [List.length_map,hacc,List.length_map,List.length_range]
      omega)]
     walk_at "mx"
     rfl,.inl rfl,True.intro,acc++[abW ns ls i ws],_,_,rfl,?_,?_⟩
    ·rw [List.map_append]
     rfl
    ·rw [hacc,List.range_succ,List.map_append,List.map_singleton,show wss.getD i []=ws by rw [List.getD_eq_getElem?_getD,q];rfl])
 rw [e]
 walk_at "mx"
 rw [show bP [.r (S++[Ob.dead]).length] (S++[.dead]++[.lst (acc.map aj)])=.ok (.d (.tup (acc.map aj))) (S++[.dead]++[.lst (acc.map aj)]) from by unfold bP bJ cB;simp]
 walk_at "mx"
 rw [cY,List.append_assoc,List.take_left,hacc]
 rw [show (b6 0 (wss.map aj)).length=wss.length from by rw [dQ,List.length_map]]
 rfl
def fmn:List Int→Int
 | []=>0
 | w :: r=>least r w
def fmx:List Int→Int
 | []=>0
 | w :: r=>best r w
theorem uq {ws:List Int} {w:Int} (h:w∈ws):fmn ws≤w:=by
 cases ws with
 | nil=>cases h
 | cons a r=>
  obtain ⟨_,h2,h3⟩:=j7 r a
  rcases List.mem_cons.mp h with e | e
  ·rw [e];exact h2
  ·exact h3 w e
theorem ur {ws:List Int} {w:Int} (h:w∈ws):w≤fmx ws:=by
 cases ws with
 | nil=>cases h
 | cons a r=>
  obtain ⟨_,h2,h3⟩:=lr r a
  rcases List.mem_cons.mp h with e | e
  ·rw [e];exact h2
  ·exact h3 w e
theorem Ea {l:List Int} {S:Sto} (h:l≠[]):df least [.d (.lst (l.map D.int))] S=.ok (.d (.int (fmn l))) S:=by
 cases l with
 | nil=>exact absurd rfl h
 | cons a r=>exact w4
theorem D8 {l:List Int} {S:Sto} (h:l≠[]):df best [.d (.lst (l.map D.int))] S=.ok (.d (.int (fmx l))) S:=by
 cases l with
 | nil=>exact absurd rfl h
 | cons a r=>exact w4
theorem D4 {l:List Int} {S:Sto} (h:l≠[]):df least [.d (aj l)] S=.ok (.d (.int (fmn l))) S:=by
 cases l with
 | nil=>exact absurd rfl h
 | cons a r=>exact wQ
theorem Ej {l:List Int} {S:Sto} (h:l≠[]):df best [.d (aj l)] S=.ok (.d (.int (fmx l))) S:=by
 cases l with
 | nil=>exact absurd rfl h
 | cons a r=>exact wQ
theorem A1 {vss:List (List Int)} {S:Sto} (h0:vss≠[]) (h1:∀ ws∈vss,ws≠[]):∃ b,jv [.d (aw vss)] S=.ok (.d (.bl b)) S∧(b=false→∀ ws∈vss,∀ w∈ws,-9≤w∧w≤9):=by
 have eC:∀ T:Sto,jX [some (.d (aw vss))] T=.ok (.d (.lst ((vss.map fmn).map D.int))) T:=fun T=>by
  rw [cN (show _=jX [some (.d (aw vss))] T from rfl) (xs:=vss.map aj) (S1:=T) (by walk_at "mx";rfl) (fun x=>match x with | .tup xs=>.int (match intsOf xs with | some l=>fmn l | none=>0) | _=>.non) (by
   intro x hx S
   obtain ⟨ws,hw,rfl⟩:=List.mem_map.mp hx
   walk_at "mx"
   rw [D4 (h1 ws hw)]
   unfold aj
   dsimp only
   rw [cV (fun x=>x) ws]
   simp)]
  rw [List.map_map,List.map_map]
  congr 3
  refine List.map_congr_left fun ws _=>?_
  unfold aj
  dsimp only [Function.comp]
  rw [cV (fun x=>x) ws]
  simp
 have eC2:∀ T:Sto,jU [some (.d (aw vss))] T=.ok (.d (.lst ((vss.map fmx).map D.int))) T:=fun T=>by
  rw [cN (show _=jU [some (.d (aw vss))] T from rfl) (xs:=vss.map aj) (S1:=T) (by walk_at "mx";rfl) (fun x=>match x with | .tup xs=>.int (match intsOf xs with | some l=>fmx l | none=>0) | _=>.non) (by
   intro x hx S
   obtain ⟨ws,hw,rfl⟩:=List.mem_map.mp hx
   walk_at "mx"
   rw [Ej (h1 ws hw)]
   unfold aj
   dsimp only
   rw [cV (fun x=>x) ws]
   simp)]
  rw [List.map_map,List.map_map]
  congr 3
  refine List.map_congr_left fun ws _=>?_
  unfold aj
  dsimp only [Function.comp]
  rw [cV (fun x=>x) ws]
  simp
 have ne1:vss.map fmn≠[]:=fun z=>h0 (List.map_eq_nil_iff.mp z)
 have ne2:vss.map fmx≠[]:=fun z=>h0 (List.map_eq_nil_iff.mp z)
 unfold jv
 rw [cg]
 unfold m9
 walk_at "mx"
 rw [eC]
 walk_at "mx"
 rw [Ea ne1]
 walk_at "mx"
 by_cases q:fmn (vss.map fmn) < -9
 ·rw [decide_eq_true q]
  walk_at "mx"
  exact ⟨true,by rw [aH],fun z=>by cases z⟩
 ·rw [decide_eq_false q]
  walk_at "mx"
  rw [eC2]
  walk_at "mx"
  rw [D8 ne2]
  walk_at "mx"
  refine ⟨_,by rw [aH],fun z ws hws w hw=>?_⟩
  have z:¬9 < fmx (vss.map fmx):=of_decide_eq_false z
  have a1:=uq (List.mem_map.mpr ⟨ws,hws,rfl⟩:fmn ws∈vss.map fmn)
  have a2:=uq hw
  have a3:=ur (List.mem_map.mpr ⟨ws,hws,rfl⟩:fmx ws∈vss.map fmx)
  have a4:=ur hw
  omega
theorem yx {wss:List (List Int)} {k:Nat} {w:Int} {S:Sto} (hk:k < wss.length) (h4:wss.length≤1000):hW [.d (aw wss),.d (.int (k:Int)),.d (.int w)] S=.ok (.d (aw (wss.set k [w]))) S:=by
 unfold hW
 rw [cS]
 unfold mn
 walk_at "mx"
 rw [BS]
 walk_at "mx"
 rw [kK (by simp;omega)]
 walk_at "mx"
 rw [uB]
 walk_at "mx"
 rw [show D.tup [.int w]=aj [w] from rfl,ya hk h4]
 walk_at "mx"
 rw [aH]
theorem BL {b:Bool}:decide (wd b=Str.ofString "can")=b:=by cases b<;>decide +kernel
theorem Eg {b:Bool}:decide (wd b=Str.ofString "no")=!b:=by cases b<;>decide +kernel
theorem zr {wss:List (List Int)} {g:List Int→List Int} (hg:g []=[]) {n:Int}:aF (wss.map g) n=g (aF wss n):=by
 unfold aF
 rw [List.getD_eq_getElem?_getD,List.getD_eq_getElem?_getD,List.getElem?_map]
 cases wss[n.toNat]? with
 | none=>exact hg.symm
 | some x=>rfl
theorem rG {wss:List (List Int)} {ns ls:List Int} {d:Int}:c8 (aF wss) (lnH ns ls) ns↔c8 (aF (wss.map fun ws=>ws.map (·+d))) (lnH ns ls) ns:=by
 have e:∀ n,aF (wss.map fun ws=>ws.map (·+d)) n=(aF wss n).map (·+d):=fun n=>zr rfl
 constructor
 ·exact c6 (fun _ w=>w+d) (fun _ h=>h) (fun n _ w hw=>by rw [e];exact List.mem_map.mpr ⟨w,hw,rfl⟩) (fun a _ b _ _ x y h=>.inl (by omega))
 ·exact c6 (fun _ w=>w - d) (fun _ h=>h) (fun n _ w hw=>by
   rw [e] at hw
   obtain ⟨v,hv,rfl⟩:=List.mem_map.mp hw
   rw [Int.add_sub_cancel]
   exact hv) (fun a _ b _ _ x y h=>.inl (by omega))
theorem wb {wss:List (List Int)} {ns ls:List Int} {n:Int} (h0:0≤n) (h1:n < (wss.length:Int)) (hn:ns.Nodup) (gl:bB ns ls) (hm:n∈ns):∀ x,x∈aF (abS ns ls wss) n↔∃ w∈aF wss n,x=0 - w - lnH ns ls n:=fun x=>by
 unfold aF abS
 rw [List.getD_eq_getElem?_getD,List.getElem?_map,List.getElem?_range (by omega)]
 unfold abW
 simp only [Option.map_some,Option.getD_some]
 rw [i5,List.mem_map,show ((n.toNat:Nat):Int)=n by omega]
 exact ⟨fun ⟨w,hw,e⟩=>⟨w,hw,e.symm⟩,fun ⟨w,hw,e⟩=>⟨w,hw,e.symm⟩⟩
theorem rp {wss:List (List Int)} {ns ls:List Int} (gn:bR wss.length ns) (gl:bB ns ls):c8 (aF wss) (lnH ns ls) ns↔c8 (aF (abS ns ls wss)) (lnH ns ls) ns:=by
 have e:=fun n (hn:n∈ns)=>wb (wss:=wss) (gn.dom n hn).1 (gn.dom n hn).2 gn.nd gl hn
 constructor
 ·exact c6 (fun n w=>0 - w - lnH ns ls n) (fun _ h=>h) (fun n hn w hw=>(e n hn _).mpr ⟨w,hw,rfl⟩) (fun a _ b _ _ x y h=>.inr (by omega))
 ·exact c6 (fun n w=>0 - w - lnH ns ls n) (fun _ h=>h) (fun n hn w hw=>by
   obtain ⟨v,hv,rfl⟩:=(e n hn _).mp hw
   rw [show 0 - (0 - v - lnH ns ls n) - lnH ns ls n=v by omega]
   exact hv) (fun a _ b _ _ x y h=>.inr (by omega))
theorem qU {wss:List (List Int)} {d:Int} (gs:bK 4 4 wss) (h:∀ ws∈wss.map fun ws=>ws.map (·+d),∀ w∈ws,-9≤w∧w≤9):bK 4 4 (wss.map fun ws=>ws.map (·+d)):=⟨by rw [List.length_map];exact gs.pos,by rw [List.length_map];exact gs.le,fun vs hv=>by
 obtain ⟨ws,hw,rfl⟩:=List.mem_map.mp hv
 have g:=gs.all ws hw
 exact ⟨List.Pairwise.map _ (fun a b z=>by omega) g.rise,h _ hv,by rw [List.length_map];exact g.pos,by rw [List.length_map];exact g.le⟩⟩
theorem rA {wss:List (List Int)} {ns ls:List Int} (gs:bK 4 4 wss) (h:∀ ws∈abS ns ls wss,∀ w∈ws,-9≤w∧w≤9):bK 4 4 (abS ns ls wss):=⟨by unfold abS;rw [List.length_map,List.length_range];exact gs.pos,by unfold abS;rw [List.length_map,List.length_range];exact gs.le,fun vs hv=>by
 have hv':=hv
 unfold abS at hv
 obtain ⟨k,hk,rfl⟩:=List.mem_map.mp hv
 have hk:=List.mem_range.mp hk
 have g:=gs.all (wss.getD k []) (by rw [List.getD_eq_getElem?_getD,List.getElem?_eq_getElem hk];exact List.getElem_mem hk)
 refine ⟨j4 (List.Pairwise.map _ (fun a b z=>by omega) (g.rise.imp fun z=>(by omega:_≠_))),h _ hv',?_,?_⟩
 ·unfold abW;rw [dS,List.length_map];exact g.pos
 ·unfold abW;rw [dS,List.length_map];exact g.le⟩
abbrev Cs:=List (List Int)×List Int×List Int
def csD (c:Cs):D:=.tup [aw c.1,aW c.2.1 c.2.2]
structure AsW (b:Bool) (c:Cs):Prop where
 ne:c.1≠[]∧∀ ws∈c.1,ws≠[]
 ok:(∀ ws∈c.1,∀ w∈ws,-9≤w∧w≤9)→bK 4 4 c.1∧bR c.1.length c.2.1∧bB c.2.1 c.2.2∧dH c.1 c.2.1 c.2.2=b
theorem C5 {b:Bool} {S:Sto} {cs:List Cs} {k:Nat} {x0 x1 x2 x4 x6 x7 x8 x9 x10 x11:Option Vl} (hk:S[k]?=some (.lst (cs.map csD))) (hc:∀ c∈cs,AsW b c) :
  ∃ y6 y7,gY [x0,x1,x2,some (.d (.str (wd b))),x4,some (.r k),x6,x7,x8,x9,x10,x11] S=.ok (.nx,[x0,x1,x2,some (.d (.str (wd b))),x4,some (.r k),y6,y7,x8,x9,x10,x11]) S:=by
 obtain ⟨τ',S',e,y6,y7,rfl,rfl⟩:=iV (show _=gY [x0,x1,x2,some (.d (.str (wd b))),x4,some (.r k),x6,x7,x8,x9,x10,x11] S from rfl) (S1:=S) (items:=(cs.map csD).map Vl.d) (gd:=some (k,.lst (cs.map csD))) (D_ (by walk_at "mx") hk)
  (fun i τ S'=>∃ y6 y7,τ=[x0,x1,x2,some (.d (.str (wd b))),x4,some (.r k),y6,y7,x8,x9,x10,x11]∧S'=S) ⟨x6,x7,rfl,rfl⟩ (by
   rintro i z τ S' hz ⟨y6,y7,rfl,rfl⟩
   rw [List.getElem?_map,List.getElem?_map] at hz
   cases q:cs[i]? with
   | none=>rw [q] at hz;cases hz
   | some c=>
    rw [q] at hz
    cases hz
    have h:=hc c (List.mem_of_getElem? q)
    obtain ⟨f,e1,hf⟩:=A1 (S:=S') h.ne.1 h.ne.2
    cases f with
    | true=>
     exact ⟨_,_,.nx,_,_,by unfold csD;walk_at "mx";rfl,by
      walk_at "mx"
      rw [e1]
      walk_at "mx"
      rfl,.inl rfl,hk,_,_,rfl,rfl⟩
    | false=>
     obtain ⟨gs,gn,gl,hb⟩:=h.ok (hf rfl)
     obtain ⟨y,_,e2⟩:=gq (S:=S') gs (by decide) (by decide) gn gl
     exact ⟨_,_,.nx,_,_,by unfold csD;walk_at "mx";rfl,by
      walk_at "mx"
      rw [e1]
      walk_at "mx"
      rw [e2,hb]
      walk_at "mx"
      rw [d9]
      walk_at "mx"
      rfl,.inl rfl,hk,_,_,rfl,rfl⟩)
 exact ⟨y6,y7,e⟩
theorem pj {ns ls:List Int} {g:Int→Int} (hn:ns.Nodup) (gl:bB ns ls) {n:Int} (hm:n∈ns):lnH ns (ls.map g) n=g (lnH ns ls n):=by
 obtain ⟨k,hk,rfl⟩:=List.mem_iff_getElem.mp hm
 have hk2:k < ls.length:=by have:=gl.len;omega
 unfold lnH
 rw [qJ (ls:=ls) hn (List.getElem?_eq_getElem hk) (List.getElem?_eq_getElem hk2),qJ (ls:=ls.map g) (l:=g ls[k]) hn (List.getElem?_eq_getElem hk) (by rw [List.getElem?_map,List.getElem?_eq_getElem hk2];rfl)]
 rfl
theorem sg {ls:List Int} {g:Int→Int} {r:R Vl} {S:Sto} {e:XE} {a:XE} {τ:Nv} (hC:xLC (b8 a) 1 (gNm 0) (fun _ S=>.ok true S) e τ S=r) (ha:a τ S=.ok (.d (aj ls)) S) (he:∀ l∈ls,∀ S:Sto,e (some (.d (.int l)) :: τ) S=.ok (.d (.int (g l))) S):r=.ok (.d (.lst ((ls.map g).map D.int))) S:=by
 rw [cN hC (xs:=ls.map D.int) (S1:=S) ha (fun x=>match x with | .int l=>.int (g l) | _=>.non) (by
  intro x hx S
  obtain ⟨l,hl,rfl⟩:=List.mem_map.mp hx
  exact he l hl S)]
 rw [List.map_map,List.map_map]
 rfl
theorem vM {o:Ob} {wss:List (List Int)} {ns ls:List Int} (hp:Pen o) (gs:bK 4 4 wss) (gn:bR wss.length ns) (gl:bB ns ls):∃ o',Pen o'∧f6 [.r 0,.d (aw wss),.d (aW ns ls)] [o]=.ok (.d (.bl true)) [o']:=by
 have h4:=gs.le
 have hns:=gn.le
 have hpos:=gn.pos
 obtain ⟨y,hy,e1⟩:=gq (S:=[o]) gs (by decide) (by decide) gn gl
 obtain ⟨ns',ls',o1,gn',gl',hmem,hln,hp1,e2⟩:=vj (R:=[]) hp gn (by omega) gl
 obtain ⟨t,o2,t0,t1,hp2,e3⟩:=bX (R:=[]) (m:=5) hp1 (by decide) (by decide)
 have hnes:wss≠[]:=fun z=>by have:=gs.pos;rw [z] at this;simp at this
 have hnew:∀ ws∈wss,ws≠[]:=fun ws h z=>by have:=(gs.all ws h).pos;rw [z] at this;simp at this
 have habl:(abS ns ls wss).length=wss.length:=by unfold abS;rw [List.length_map,List.length_range]
 have hcs:∀ c∈[(wss,ns',ls'),(wss.map fun ws=>ws.map (·+(t - 2)),ns,ls),(abS ns ls wss,ns,ls)],AsW (dH wss ns ls) c:=by
  intro c hc
  simp only [List.mem_cons,List.not_mem_nil,or_false] at hc
  rcases hc with rfl | rfl | rfl
  ·refine ⟨⟨hnes,hnew⟩,fun _=>⟨gs,gn',gl',lq ⟨?_,?_⟩⟩⟩
   ·exact c6 (fun _ w=>w) (fun n h=>(hmem n).mp h) (fun _ _ _ h=>h) (fun a ha b hb _ x y z=>.inl (by rw [hln a ((hmem a).mp ha)];exact z))
   ·exact c6 (fun _ w=>w) (fun n h=>(hmem n).mpr h) (fun _ _ _ h=>h) (fun a ha b hb _ x y z=>.inl (by rw [hln a ha] at z;exact z))
  ·refine ⟨⟨fun z=>hnes (List.map_eq_nil_iff.mp z),fun vs h z=>?_⟩,fun h=>⟨qU gs h,by rw [List.length_map];exact gn,gl,lq rG⟩⟩
   obtain ⟨ws,hw,rfl⟩:=List.mem_map.mp h
   exact hnew ws hw (List.map_eq_nil_iff.mp z)
  ·refine ⟨⟨fun z=>?_,fun vs h z=>?_⟩,fun h=>⟨rA gs h,by rw [habl];exact gn,gl,lq (rp gn gl)⟩⟩
   ·have:=congrArg List.length z
    rw [habl] at this
    exact hnes (List.length_eq_zero_iff.mp this)
   ·unfold abS at h
    obtain ⟨k,hk,rfl⟩:=List.mem_map.mp h
    have hk:=List.mem_range.mp hk
    have z:=congrArg List.length z
    unfold abW at z
    rw [dS,List.length_map] at z
    have hm:wss.getD k []∈wss:=by rw [List.getD_eq_getElem?_getD,List.getElem?_eq_getElem hk];exact List.getElem_mem hk
    exact hnew _ hm (List.length_eq_zero_iff.mp z)
 obtain ⟨OB,hOB⟩:∃ x,x=Ob.lst ([(wss,ns',ls'),(wss.map fun ws=>ws.map (·+(t - 2)),ns,ls),(abS ns ls wss,ns,ls)].map csD):=⟨_,rfl⟩
 obtain ⟨c,o3,c0,c1,hp3,e4⟩:=bX (R:=[OB]) (m:=(ns.length:Int)) hp2 (by omega) (by omega)
 obtain ⟨ci,rfl⟩:=Int.eq_ofNat_of_zero_le c0
 have hci:ci < ns.length:=by omega
 have hnm:ns.getD ci 0∈ns:=by rw [List.getD_eq_getElem?_getD,List.getElem?_eq_getElem hci];exact List.getElem_mem hci
 obtain ⟨d0,d1⟩:=gn.dom _ hnm
 obtain ⟨k,hk⟩:=Int.eq_ofNat_of_zero_le d0
 have hkl:k < wss.length:=by omega
 have gw:=gs.all _ (Ai hkl)
 have hwl:=gw.le
 have hwp:=gw.pos
 obtain ⟨d,o4,f0,f1,hp4,e5⟩:=bX (R:=[OB]) (m:=((aF wss (k:Int)).length:Int)) hp3 (by omega) (by omega)
 obtain ⟨di,rfl⟩:=Int.eq_ofNat_of_zero_le f0
 have hdi:di < (aF wss (k:Int)).length:=by omega
 have hwm:(aF wss (k:Int)).getD di 0∈aF wss (k:Int):=by rw [List.getD_eq_getElem?_getD,List.getElem?_eq_getElem hdi];exact List.getElem_mem hdi
 obtain ⟨y6,y7,e6⟩:=C5 (b:=dH wss ns ls) (S:=[o2,OB]) (k:=1) (cs:=[(wss,ns',ls'),(wss.map fun ws=>ws.map (·+(t - 2)),ns,ls),(abS ns ls wss,ns,ls)]) (x0:=some (.r 0)) (x1:=some (.d (aw wss))) (x2:=some (.d (aW ns ls))) (x4:=some (.d y)) (x6:=none) (x7:=none) (x8:=none) (x9:=none) (x10:=none) (x11:=none) (by rw [hOB];rfl) hcs
 have gsh:bB ns (ls.map fun l=>if l - 1 > 1 then l - 1 else 1):=⟨by rw [List.length_map];exact gl.len,fun l hl=>by
  obtain ⟨m,hm,rfl⟩:=List.mem_map.mp hl
  have:=gl.lim m hm
  split<;>omega⟩
 have glo:bB ns (ls.map fun l=>if l+1 < 4 then l+1 else 4):=⟨by rw [List.length_map];exact gl.len,fun l hl=>by
  obtain ⟨m,hm,rfl⟩:=List.mem_map.mp hl
  have:=gl.lim m hm
  split<;>omega⟩
 refine ⟨o4,hp4,?_⟩
 unfold f6
 rw [cS]
 unfold kI
 walk_at "mx"
 rw [e1]
 walk_at "mx"
 rw [e2]
 walk_at "mx"
 rw [e3]
 walk_at "mx"
 rw [vL]
 walk_at "mx"
 rw [vZ gs (by decide) gn.nd (by omega) (by omega)]
 walk_at "mx"
 rw [rP (by simp),show ([o2,Ob.lst [D.tup [aw wss,aW ns' ls'],D.tup [aw (wss.map fun ws=>ws.map (·+(t - 2))),aW ns ls]]]:Sto).set 1 (.lst ([D.tup [aw wss,aW ns' ls'],D.tup [aw (wss.map fun ws=>ws.map (·+(t - 2))),aW ns ls]]++[D.tup [aw (abS ns ls wss),aW ns ls]]))=[o2,OB] from by rw [hOB];rfl]
 walk_at "mx"
 rw [e6]
 walk_at "mx"
 rw [cz]
 walk_at "mx"
 rw [cz]
 walk_at "my"
 rw [e4]
 walk_at "mx"
 rw [qT hci,hk]
 walk_at "mx"
 rw [sti hkl]
 walk_at "mx"
 rw [sti hkl]
 walk_at "my"
 rw [e5]
 walk_at "mx"
 rw [qT hdi]
 walk_at "mx"
 rw [yx hkl (by omega)]
 walk_at "mx"
 rw [cz]
 walk_at "mx"
 rw [sg (show _=kr [some (.r 0),some (.d (aw wss)),some (.d (aW ns ls)),some (.d (.str (wd (dH wss ns ls)))),some (.d y),some (.r 1),y6,y7,some (.d (.int (k:Int))),some (.d (aw (wss.set k [(aF wss (k:Int)).getD di 0]))),none,none] [o4,OB] from rfl) (ls:=ls) (g:=fun l=>if l - 1 > 1 then l - 1 else 1) (by walk_at "mx";rw [gU]) (fun l hl S=>by
  walk_at "mx")]
 walk_at "mx"
 rw [show D.tup [.str "hand",aj ns,.tup ((ls.map fun l=>if l - 1 > 1 then l - 1 else 1).map D.int)]=aW ns (ls.map fun l=>if l - 1 > 1 then l - 1 else 1) from rfl,cz]
 walk_at "mx"
 rw [sg (show _=kd [some (.r 0),some (.d (aw wss)),some (.d (aW ns ls)),some (.d (.str (wd (dH wss ns ls)))),some (.d y),some (.r 1),y6,y7,some (.d (.int (k:Int))),some (.d (aw (wss.set k [(aF wss (k:Int)).getD di 0]))),some (.d (aW ns (ls.map fun l=>if l - 1 > 1 then l - 1 else 1))),none] [o4,OB] from rfl) (ls:=ls) (g:=fun l=>if l+1 < 4 then l+1 else 4) (by walk_at "mx";rw [gU]) (fun l hl S=>by
  walk_at "mx")]
 walk_at "mx"
 rw [show D.tup [.str "hand",aj ns,.tup ((ls.map fun l=>if l+1 < 4 then l+1 else 4).map D.int)]=aW ns (ls.map fun l=>if l+1 < 4 then l+1 else 4) from rfl,BL]
 cases hc:dH wss ns ls with
 | true=>
  walk_at "mx"
  obtain ⟨z,_,e7⟩:=gq (S:=[o4,OB]) gs (by decide) (by decide) gn gsh
  have hcan:dH wss ns (ls.map fun l=>if l - 1 > 1 then l - 1 else 1)=true:=by
   have hf:c8 (aF wss) (lnH ns ls) ns:=@of_decide_eq_true _ (Classical.propDecidable _) hc
   refine @decide_eq_true _ (Classical.propDecidable _) (c6 (fun _ w=>w) (fun _ h=>h) (fun _ _ _ h=>h) (fun a ha b hb _ x y h=>.inl ?_) hf)
   rw [pj gn.nd gl ha]
   obtain ⟨l,_,e,l1,_⟩:=fE gn.nd gl ha
   split<;>omega
  rw [e7,hcan]
  walk_at "mx"
  rw [d9]
  walk_at "mx"
  rw [BL,cY]
  rfl
 | false=>
  walk_at "mx"
  obtain ⟨tr,ht,hd,rfl⟩:=hy hc
  have gs2:bK 4 4 (wss.set k [(aF wss (k:Int)).getD di 0]):=wa gs ⟨List.pairwise_singleton _ _,fun w hw=>by rw [List.mem_singleton.mp hw];exact gw.lim _ hwm,by simp,by simp⟩
  have hsub:∀ n∈ns,(∀ w∈aF (wss.set k [(aF wss (k:Int)).getD di 0]) n,w∈aF wss n)∧(aF wss n).Pairwise (· < ·):=fun n hn=>by
   obtain ⟨n0,n1⟩:=gn.dom n hn
   refine ⟨fun w hw=>?_,(gs.all _ (eW n0 n1)).rise⟩
   rw [AR hkl] at hw
   by_cases q:n.toNat=k
   ·rw [if_pos q] at hw
    rw [List.mem_singleton.mp hw,show n=(k:Int) by omega]
    exact hwm
   ·rw [if_neg q] at hw
    exact hw
  rw [mJ gs2 (by decide) (by decide) (by rw [List.length_set];exact gn) gl hd (jf (fun n hn=>by
   obtain ⟨l,_,e,l1,_⟩:=fE gn.nd gl hn
   omega) hsub ht)]
  walk_at "mx"
  obtain ⟨z,_,e7⟩:=gq (S:=[o4,OB]) gs (by decide) (by decide) gn glo
  have hcan:dH wss ns (ls.map fun l=>if l+1 < 4 then l+1 else 4)=false:=by
   have hf:¬c8 (aF wss) (lnH ns ls) ns:=@of_decide_eq_false _ (Classical.propDecidable _) hc
   refine @decide_eq_false _ (Classical.propDecidable _) fun q=>hf (c6 (fun _ w=>w) (fun _ h=>h) (fun _ _ _ h=>h) (fun a ha b hb _ x y h=>.inl ?_) q)
   rw [pj gn.nd gl ha] at h
   obtain ⟨l,_,e,l1,l2⟩:=fE gn.nd gl ha
   split at h<;>omega
  rw [e7,hcan]
  walk_at "mx"
  rw [d9]
  walk_at "mx"
  rw [Eg,cY]
  rfl
theorem vp (ns:List Int):qr [.sc ns] []=.ok (.d (.bl true)) []:=by
 unfold qr
 rw [cg]
 unfold rS
 obtain ⟨o,hp,e0⟩:=yr ns
 walk_at "mx"
 rw [e0]
 walk_at "mx"
 obtain ⟨τ',S',e,o',x2,x3,hp',rfl,rfl⟩:=iV (show _=tj [some (.sc ns),some (.r 0),none,none] [o] from rfl) (S1:=[o]) (items:=(List.range 4).map fun i=>Vl.d (.int (i:Nat))) (gd:=none) (by walk_at "mm";rfl)
  (fun i τ S'=>∃ (o':Ob) (x2 x3:Option Vl),Pen o'∧τ=[some (.sc ns),some (.r 0),x2,x3]∧S'=[o']) ⟨o,none,none,hp,rfl,rfl⟩ (by
   rintro i z τ S' hz ⟨o',x2,x3,hp',rfl,rfl⟩
   obtain ⟨hi,rfl⟩:=lC hz
   obtain ⟨o1,hp1,e1⟩:=yB (R:=[]) hp'
   obtain ⟨c,ec,hcm⟩:=gI (ns:=[2,3,4,2]) (i:=(i:Int)) (by omega) (by simp;omega)
   have hc:0 < c∧c≤4:=by
    simp only [List.mem_cons,List.not_mem_nil,or_false] at hcm
    rcases hcm with rfl | rfl | rfl | rfl<;>decide
   obtain ⟨wss,o2,gs,hp2,e2⟩:=v5 (R:=[]) (names:=4) (most:=c) hp1 (by decide) (by decide) hc.1 (by omega)
   have gs4:=xA gs (by decide) hc.2
   have hl4:=gs4.le
   obtain ⟨k1,l1,o3,g1,f1,hp3,e3⟩:=rj (R:=[]) (wss:=wss) hp2 gs.pos (by omega)
   obtain ⟨o4,hp4,e4⟩:=vM hp3 gs4 g1 f1
   rw [show List.map D.int [2,3,4,2]=[D.int 2,D.int 3,D.int 4,D.int 2] from rfl] at ec
   exact ⟨_,_,.nx,_,_,by walk_at "mx";rfl,by
    walk_at "mx"
    rw [e1]
    walk_at "mx"
    rw [kf ec]
    walk_at "mx"
    rw [e2]
    walk_at "mx"
    rw [e3]
    walk_at "mx"
    rw [e4]
    walk_at "mx"
    rfl,.inl rfl,True.intro,o4,_,_,hp4,rfl,rfl⟩)
 rw [e]
 walk_at "mx"
 rw [cY]
 rfl
def top (i:Nat):Stmt:=PySem.Challenge.pw_wishstrike_k32_whole_works_turned.main.body.getD i (.Pass ⟨0,0,0,0⟩)
structure Txt (K:PySem.W.Frag) (mg:Str→Option Value):Prop where
 is_whole:Df K mg "is_whole" (top 1)
 is_within:Df K mg "is_within" (top 2)
 are_within:Df K mg "are_within" (top 3)
 are_rising:Df K mg "are_rising" (top 4)
 are_unlike:Df K mg "are_unlike" (top 5)
 are_names:Df K mg "are_names" (top 7)
 is_hand:Df K mg "is_hand" (top 15)
 is_of_its_kind:Df K mg "is_of_its_kind" (top 16)
 are_worths:Df K mg "are_worths" (top 22)
 is_stand:Df K mg "is_stand" (top 23)
 is_wish:Df K mg "is_wish" (top 24)
 filling_with:Df K mg "filling_with" (top 25)
 is_wish_of:Df K mg "is_wish_of" (top 26)
 need_stand:Df K mg "need_stand" (top 27)
 need_wish:Df K mg "need_wish" (top 28)
 need:Df K mg "need" (top 29)
 need_kind:Df K mg "need_kind" (top 30)
 lengths_of:Df K mg "lengths_of" (top 32)
 begins_in:Df K mg "begins_in" (top 33)
 told_of_order:Df K mg "told_of_order" (top 34)
 told_of_places:Df K mg "told_of_places" (top 35)
 hand_can:Df K mg "hand_can" (top 36)
 is_right_leaf:Df K mg "is_right_leaf" (top 37)
 is_right_split:Df K mg "is_right_split" (top 38)
 is_right_tree:Df K mg "is_right_tree" (top 39)
 hand_paper:Df K mg "hand_paper" (top 40)
 l_spread:Df K mg "_law_spread" (top 42)
 l_open:Df K mg "_law_open" (top 43)
 l_anew:Df K mg "_law_anew" (top 44)
 l_take:Df K mg "_law_take" (top 45)
 l_worths:Df K mg "_law_worths" (top 46)
 l_stand:Df K mg "_law_stand" (top 47)
 l_some_names:Df K mg "_law_some_names" (top 48)
 l_wish_of:Df K mg "_law_wish_of" (top 52)
 l_with:Df K mg "_law_with" (top 53)
 l_order_of:Df K mg "_law_order_of" (top 54)
 l_later:Df K mg "_law_later" (top 55)
 l_about:Df K mg "_law_about" (top 56)
 l_far:Df K mg "_law_far" (top 57)
 l_right:Df K mg "_law_right" (top 58)
 law:Df K mg "law" (top 59)
 z_all:mg "all"=none
 z_bool:mg "bool"=none
 z_dict:mg "dict"=none
 z_enumerate:mg "enumerate"=none
 z_int:mg "int"=none
 z_isinstance:mg "isinstance"=none
 z_len:mg "len"=none
 z_list:mg "list"=none
 z_max:mg "max"=none
 z_min:mg "min"=none
 z_range:mg "range"=none
 z_set:mg "set"=none
 z_sorted:mg "sorted"=none
 z_tuple:mg "tuple"=none
 z_zip:mg "zip"=none
theorem gD:bootBuiltins "all"=some (.builtin "all"):=by decide +kernel
theorem xX:bootBuiltins "bool"=some (.type "bool"):=by decide +kernel
theorem pA:bootBuiltins "dict"=some (.type "dict"):=by decide +kernel
theorem Ar:bootBuiltins "int"=some (.type "int"):=by decide +kernel
theorem bj:bootBuiltins "len"=some (.builtin "len"):=by decide +kernel
theorem lO:bootBuiltins "list"=some (.type "list"):=by decide +kernel
theorem oM:bootBuiltins "max"=some (.builtin "max"):=by decide +kernel
theorem m8:bootBuiltins "min"=some (.builtin "min"):=by decide +kernel
theorem zN:bootBuiltins "set"=some (.type "set"):=by decide +kernel
theorem ml:bootBuiltins "sorted"=some (.builtin "sorted"):=by decide +kernel
theorem br:bootBuiltins "tuple"=some (.type "tuple"):=by decide +kernel
theorem t6:bootBuiltins "zip"=some (.type "zip"):=by decide +kernel
section
variable {P:Program} {w:World} {K:PySem.W.Frag} {mg:Str→Option Value}
theorem t7 (T:Txt K mg):OkE P w K mg 1 "_law_open" ["script"] il:=by
 refine a_ ["script","cells","k","cell"] T.l_open fun _ _ _ _ _ _ _ _ hr q=>?_
 exact (ao (aL q (bG qY q_ T.z_list lO (ae (tq (rv 0) c9 (cG ai)) ah)))
 (ao (gL (uy rfl T.z_enumerate (tq (rv 0) (cG ai) (cG ai))) (jk (cA (aG q) (cA (aG q) gF))) (au (gK (aC aT aU (ax (rv 1) (aC dw (bQ _) (rv 2) ai)) (rv 3)) (i7 (rv 1) (aC dw (bQ _) (rv 2) ai) ka gB))))
 (au (aA (ju (ae (mS (rv 1)) (ae ai (ae ai ah))))))))
theorem oZ (T:Txt K mg):OkE P w K mg 1 "_law_spread" ["cell","at"] eg:=by
 refine a_ ["cell","at","one","two","three"] T.l_spread fun _ _ _ _ _ _ _ _ hr q=>?_
 exact (ao (bc (aZ wy (bN _) (rv 0) (aC sJ (bQ _) ai ai)) (au (aA (rv 0))) aP)
 (ao (aL q (aC dw (bQ _) (aC aT aU (aC aT aU (aC eA (bQ _) (aC dw (bQ _) (rv 0) ai) ai) (aC eA (bQ _) (rv 1) ai)) ai) ai))
 (ao (aL q (aC dw (bQ _) (aC aT aU (aC aT aU (aC eA (bQ _) (rv 2) (rv 2)) (aC eA (bQ _) (rv 1) ai)) (aC dw (bQ _) (rv 0) ai)) ai))
 (ao (aL q (aC dw (bQ _) (aC aT aU (aC aT aU (aC eA (bQ _) (rv 3) (rv 3)) (aC eA (bQ _) (rv 2) ai)) ai) ai))
 (au (aA (aC aT aU (aC eA (bQ _) (aC aT aU (aC eA (bQ _) (rv 2) ai) (rv 3)) ai) (rv 4))))))))
theorem bD (T:Txt K mg):OkE P w K mg 2 "_law_take" ["pen","many"] bq:=by
 refine a_ ["pen","many","at","cell","found"] T.l_take fun _ _ _ _ _ _ _ _ hr q=>?_
 exact (ao (bc (aZ gT (bN _) (ax (rv 0) ai) (rv 1)) (ao (aL q (ax (rv 0) ai))
 (ao (aL q ai)
 (ao (bc (aZ gT (bN _) (rv 2) (aB aI aQ T.z_len bj (ae (ax (rv 0) ai) ah))) (au (aL q (ax (ax (rv 0) ai) (rv 2)))) (au (bc (aZ q0 (bN _) (aB aI aQ T.z_len bj (ae (ax (rv 0) ai) ah)) ai) (au (aL q (aC dw (bQ _) (ax (ax (rv 0) ai) (aC dw (bQ _) (aC aT aU (aC eA (bQ _) (rv 2) ai) ai) (aB aI aQ T.z_len bj (ae (ax (rv 0) ai) ah)))) (aC aT aU (aC sJ (bQ _) ai ai) (rv 2))))) aP)))
 (ao (gK (aC aT aU (rv 2) ai) (i7 (rv 0) ai ka gB))
 (au (gK (aq (oZ T) hr (ae (rv 3) (ae (rv 2) ah))) (i7 (rv 0) ai ka gB))))))) aP)
 (ao (aL q (aC dw (bQ _) (ax (rv 0) ai) (rv 1)))
 (ao (gK (aC yz (bQ _) (ax (rv 0) ai) (rv 1)) (i7 (rv 0) ai ka gB))
 (au (aA (rv 4))))))
theorem oS (T:Txt K mg):OkE P w K mg 3 "_law_worths" ["pen","most","near"] fo:=by
 refine a_ ["pen","most","near","found","k","worth"] T.l_worths fun _ _ _ _ _ _ _ _ hr q=>?_
 have hu:=hr.units
 exact (ao (aL q (ju ah))
 (ao (gL (gg rfl T.z_range (ae (aC aT aU ai (aq (bD T) hr (ae (rv 0) (ae (rv 1) ah)))) ah)) (aG q) (ao (aL q (aC aT aU (rv 2) (aq (bD T) hr (ae (rv 0) (ae ai ah)))))
 (ao (bc (aZ (bw hu) bt (aq (bD T) hr (ae (rv 0) (ae ai ah))) ai) (au (aL q (aC eh (eo _) (aq (bD T) hr (ae (rv 0) (ae ai ah))) ai))) aP)
 (au (bc (aZ (lh hu) lH (rv 5) (rv 3)) (au (dP (nS (rv 3) (rv 5)))) aP)))))
 (au (aA (bG bp bE T.z_tuple br (ae (aB kJ lS T.z_sorted ml (ae (rv 3) ah)) ah))))))
theorem qH (T:Txt K mg):OkE P w K mg 4 "_law_stand" ["pen","names","most"] fZ:=by
 refine a_ ["pen","names","most","near"] T.l_stand fun _ _ _ _ _ _ _ _ hr q=>?_
 refine' (ao (aL q (aC eh (eo _) (aq (bD T) hr (ae (rv 0) (ae ai ah))) ai))
 (au (aA (bG bp bE T.z_tuple br (ae (b_ bL ["name","pen","names","most","near"] q (gg rfl T.z_range (ae (aC aT aU ai (aq (bD T) hr (ae (rv 0) (ae (rv 1) ah)))) ah)) ?g0 rt0 ?e0) ah)))))
 (case g0=>intro _ _ _ _ q;exact (aG q))
 (case e0=>intro _ _ _ _;exact (aq (oS T) hr (ae (rv 1) (ae (rv 3) (ae (rv 4) ah)))))
theorem ui (T:Txt K mg):OkE P w K mg 1 "_law_anew" ["pen"] ia:=by
 refine a_ ["pen"] T.l_anew fun _ _ _ _ _ _ _ _ hr q=>?_
 exact (ao (gK ai (i7 (rv 0) ai ka gB))
 (au (aA (rv 0))))
theorem oU (T:Txt K mg):OkE P w K mg 1 "is_whole" ["thing"] fA:=by
 refine a_ ["thing"] T.is_whole fun _ _ _ _ _ _ _ _ hr q=>?_
 exact (au (aA (cc (cT T.z_isinstance T.z_int Ar (rv 0)) (cM (AZ (cT T.z_isinstance T.z_bool xX (rv 0)))))))
theorem nG (T:Txt K mg):OkE P w K mg 2 "is_within" ["thing","low","high"] eO:=by
 refine a_ ["thing","low","high"] T.is_within fun _ _ _ _ _ _ _ _ hr q=>?_
 exact (au (aA (cc (aq (oU T) hr (ae (rv 0) ah)) (cM (jQ gj (bN _) gj (bN _) (rv 1) (rv 0) (rv 2))))))
theorem e9 (T:Txt K mg):OkE P w K mg 3 "are_within" ["thing","low","high"] cH:=by
 refine a_ ["thing","low","high"] T.are_within fun _ _ _ _ _ _ _ _ hr q=>?_
 refine' (au (aA (cc (cT T.z_isinstance T.z_tuple br (rv 0)) (cM (aB (dN rfl) eE T.z_all gD (ae (b_ bL ["part","thing","low","high"] q (bS (rv 0)) ?g0 rt0 ?e0) ah))))))
 (case g0=>intro _ _ _ _ q;exact (aG q))
 (case e0=>intro _ _ _ _;exact (aq (nG T) hr (ae (rv 0) (ae (rv 2) (ae (rv 3) ah)))))
theorem mz (T:Txt K mg):OkE P w K mg 1 "are_rising" ["things"] dU:=by
 refine a_ ["things"] T.are_rising fun _ _ _ _ _ _ _ _ hr q=>?_
 refine' (au (aA (aB (dN rfl) eE T.z_all gD (ae (b_ bL ["at","things"] q (su rfl T.z_range (ae ai (ae (aB aI aQ T.z_len bj (ae (rv 0) ah)) ah))) ?g0 rt0 ?e0) ah))))
 (case g0=>intro _ _ _ _ q;exact (aG q))
 (case e0=>intro _ _ _ _;exact (b9 gT (bN _) (ax (rv 1) (aC eh (eo _) (rv 0) ai)) (ax (rv 1) (rv 0))))
theorem mG (T:Txt K mg):OkE P w K mg 4 "are_worths" ["thing"] dZ:=by
 refine a_ ["thing"] T.are_worths fun _ _ _ _ _ _ _ _ hr q=>?_
 exact (au (aA (cc (aq (e9 T) hr (ae (rv 0) (ae (wA t_ pZ ai) (ae ai ah)))) (cc (jQ gj (bN _) gj (bN _) ai (aB aI aQ T.z_len bj (ae (rv 0) ah)) ai) (cM (aq (mz T) hr (ae (rv 0) ah)))))))
theorem o9 (T:Txt K mg):OkE P w K mg 5 "is_stand" ["thing"] fq:=by
 refine a_ ["thing"] T.is_stand fun _ _ _ _ _ _ _ _ hr q=>?_
 refine' (ao (bc (RW.rt (gQ (cj (cx (cT T.z_isinstance T.z_tuple br (rv 0)))) (iY (cj (v3 gj (bN _) gj (bN _) ai (aB aI aQ T.z_len bj (ae (rv 0) ah)) ai))))) (au (aA dF)) aP)
 (au (aA (aB (dN rfl) eE T.z_all gD (ae (b_ bL ["part","thing"] q (bS (rv 0)) ?g0 rt0 ?e0) ah)))))
 (case g0=>intro _ _ _ _ q;exact (aG q))
 (case e0=>intro _ _ _ _;exact (aq (mG T) hr (ae (rv 0) ah)))
theorem mI (T:Txt K mg):OkE P w K mg 6 "need_stand" ["stand"] d_:=by
 refine a_ ["stand"] T.need_stand fun _ _ _ _ _ _ _ _ hr q=>?_
 exact (au (bc (cj (cx (aq (o9 T) hr (ae (rv 0) ah)))) (au jR) aP))
theorem iB (T:Txt K mg):OkE P w K mg 1 "are_unlike" ["things"] cX:=by
 refine a_ ["things"] T.are_unlike fun _ _ _ _ _ _ _ _ hr q=>?_
 have hu:=hr.units
 exact (au (aA (b9 (bw hu) bt (Ce rfl rfl T.z_len rfl T.z_set bj zN (rv 0)) (aB aI aQ T.z_len bj (ae (rv 0) ah)))))
theorem nR (T:Txt K mg):OkE P w K mg 4 "are_names" ["thing"] eN:=by
 refine a_ ["thing"] T.are_names fun _ _ _ _ _ _ _ _ hr q=>?_
 exact (au (aA (cc (aq (e9 T) hr (ae (rv 0) (ae ai (ae ai ah)))) (cc (jQ gj (bN _) gj (bN _) ai (aB aI aQ T.z_len bj (ae (rv 0) ah)) ai) (cM (aq (iB T) hr (ae (rv 0) ah)))))))
theorem ql (T:Txt K mg):OkE P w K mg 4 "is_hand" ["wish"] gk:=by
 refine a_ ["wish"] T.is_hand fun _ _ _ _ _ _ _ _ hr q=>?_
 have hu:=hr.units
 exact (au (aA (cc (b9 (bw hu) bt (aB aI aQ T.z_len bj (ae (rv 0) ah)) ai) (cc (aq (e9 T) hr (ae (ax (rv 0) ai) (ae ai (ae ai ah)))) (cM (b9 (bw hu) bt (aB aI aQ T.z_len bj (ae (ax (rv 0) ai) ah)) (aB aI aQ T.z_len bj (ae (ax (rv 0) ai) ah))))))))
theorem jC (T:Txt K mg):OkE P w K mg 5 "is_of_its_kind" ["wish"] cJ:=by
 refine a_ ["wish","word"] T.is_of_its_kind fun _ _ _ _ _ _ _ _ hr q=>?_
 have hu:=hr.units
 exact (ao (aL q (ax (rv 0) ai))
 (ao (bc (aZ (bw hu) bt (rv 1) bC) b7 aP)
 (ao (bc (aZ (bw hu) bt (rv 1) bC) b7 aP)
 (ao (bc (aZ (bw hu) bt (rv 1) bC) b7 aP)
 (ao (bc (aZ (bw hu) bt (rv 1) bC) b7 aP)
 (au (aA (cc (b9 (bw hu) bt (rv 1) bC) (cM (aq (ql T) hr (ae (rv 0) ah)))))))))))
theorem rF (T:Txt K mg):OkE P w K mg 6 "is_wish" ["thing"] gf:=by
 refine a_ ["thing"] T.is_wish fun _ _ _ _ _ _ _ _ hr q=>?_
 exact (ao (bc (RW.rt (gQ (cj (cx (cT T.z_isinstance T.z_tuple br (rv 0)))) (iY (aZ gT (bN _) (aB aI aQ T.z_len bj (ae (rv 0) ah)) ai)))) (au (aA dF)) aP)
 (au (aA (cc (aq (nR T) hr (ae (ax (rv 0) ai) ah)) (cM (aq (jC T) hr (ae (rv 0) ah)))))))
theorem mH (T:Txt K mg):OkE P w K mg 7 "is_wish_of" ["stand","thing"] dW:=by
 refine a_ ["stand","thing"] T.is_wish_of fun _ _ _ _ _ _ _ _ hr q=>?_
 refine' (au (aA (cc (aq (rF T) hr (ae (rv 1) ah)) (cM (aB (dN rfl) eE T.z_all gD (ae (b_ bL ["name","stand","thing"] q (bS (ax (rv 1) ai)) ?g0 rt0 ?e0) ah))))))
 (case g0=>intro _ _ _ _ q;exact (aG q))
 (case e0=>intro _ _ _ _;exact (b9 gT (bN _) (rv 0) (aB aI aQ T.z_len bj (ae (rv 1) ah))))
theorem n4 (T:Txt K mg):OkE P w K mg 8 "need_wish" ["stand","wish","number"] eQ:=by
 refine a_ ["stand","wish","number"] T.need_wish fun _ _ _ _ _ _ _ _ hr q=>?_
 exact (au (bc (cj (cx (aq (mH T) hr (ae (rv 0) (ae (rv 1) ah))))) (au jR) aP))
theorem xF (T:Txt K mg):OkE P w K mg 9 "need" ["stand","wish"] kc:=by
 refine a_ ["stand","wish"] T.need fun _ _ _ _ _ _ _ _ hr q=>?_
 exact (ao (dP (aq (mI T) hr (ae (rv 0) ah)))
 (au (dP (aq (n4 T) hr (ae (rv 0) (ae (rv 1) (ae ai ah)))))))
theorem iT (T:Txt K mg):OkE P w K mg 10 "need_kind" ["stand","wish","word"] dv:=by
 refine a_ ["stand","wish","word"] T.need_kind fun _ _ _ _ _ _ _ _ hr q=>?_
 have hu:=hr.units
 exact (ao (dP (aq (xF T) hr (ae (rv 0) (ae (rv 1) ah))))
 (au (bc (aZ (tG hu) sI (ax (rv 1) ai) (rv 2)) (au jR) aP)))
theorem iW (T:Txt K mg):OkE P w K mg 1 "begins_in" ["stand","lengths","order"] dB:=by
 refine a_ ["stand","lengths","order","begins","free_from","name","in_time"] T.begins_in fun _ _ _ _ _ _ _ _ hr q=>?_
 have hu:=hr.units
 refine' (ao (aL q yk)
 (ao (aL q (ax (ax (rv 0) (ax (rv 2) ai)) ai))
 (ao (gL (bS (rv 2)) (aG q) (ao (wN bL ["worth","stand","lengths","order","begins","free_from","name","in_time"] q (bS (ax (rv 0) (rv 5))) ?g0 ?t0 ?e0)
 (ao (bc (cj (cx (rv 6))) (au (aA mZ)) aP)
 (ao (yF hu (rv 3) (rv 5) (ax (rv 6) ai))
 (au (aL q (aC aT aU (ax (rv 6) ai) (DK hu (rv 1) (rv 5)))))))))
 (au (aA (mS (rv 3)))))))
 (case g0=>intro _ _ _ _ q;exact (aG q))
 (case t0=>intro _ _ _ _;exact (ym (aZ wy (bN _) (rv 0) (rv 5))))
 (case e0=>intro _ _ _ _;exact (rv 0))
theorem kj (T:Txt K mg):OkE P w K mg 1 "filling_with" ["stand","chosen"] c7:=by
 refine a_ ["stand","chosen"] T.filling_with fun _ _ _ _ _ _ _ _ hr q=>?_
 have hu:=hr.units
 refine' (au (aA (bG bp bE T.z_tuple br (ae (b_ bL ["name","worths","stand","chosen"] q (m_ rfl T.z_enumerate (rv 0)) ?g0 rt0 ?e0) ah))))
 (case g0=>intro _ _ _ _ q;exact (jk (cA (aG q) (cA (aG q) gF))))
 (case e0=>intro _ _ _ _;exact (pR hu (rv 3) (rv 0) (ax (rv 1) ai)))
theorem dk (T:Txt K mg):∀ n:Nat,OkE P w K mg (1+n+1) "told_of_order" ["stand","lengths","order","left"] (bx n)∧OkE P w K mg (1+n+1) "told_of_places" ["stand","lengths","order","place","left"] (bo n)
 | 0=>⟨a_ ["stand","lengths","order","left","begins"] T.told_of_order fun _ _ _ _ _ _ _ _ hr q=>b7,a_ ["stand","lengths","order","place","left","name","here","sooner"] T.told_of_places fun _ _ _ _ _ _ _ _ hr q=>b7⟩
 | n+1=>by
  have ih:=dk T n
  have dJ:=fun (_:Txt K mg)=>ih.1
  have dg:=fun (_:Txt K mg)=>ih.2
  refine ⟨?_,?_⟩
  · refine a_ ["stand","lengths","order","left","begins"] T.told_of_order fun _ _ _ _ _ _ _ _ hr q=>?_
    exact (ao (aL q (aq (iW T) hr (ae (rv 0) (ae (rv 1) (ae (rv 2) ah))) (by omega)))
 (ao (bc (aZ nE oy (rv 4) mZ) (au (aA (b4 (ae bC (ae (b4 (ae bC (ae (rv 2) ah))) ah))))) aP)
 (ao (bc (cj (cx (rv 3))) (au (aA (b4 (ae bC (ae (aq (kj T) hr (ae (rv 0) (ae (rv 4) ah)) (by omega)) ah))))) aP)
 (au (aA (aq (dg T) hr (ae (rv 0) (ae (rv 1) (ae (rv 2) (ae (aB aI aQ T.z_len bj (ae (rv 2) ah)) (ae (rv 3) ah))))) (by omega)))))))
  · refine a_ ["stand","lengths","order","place","left","name","here","sooner"] T.told_of_places fun _ _ _ _ _ _ _ _ hr q=>?_
    have hu:=hr.units
    exact (ao (aL q (ax (rv 4) ai))
 (ao (aL q (aq (dJ T) hr (ae (rv 0) (ae (rv 1) (ae (aC aT aU (aC aT aU (eT (rv 2) c9 (cG (rv 3))) (b4 (ae (rv 5) ah))) (eT (rv 2) (cG (rv 3)) c9)) (ae (eT (rv 4) (cG ai) c9) ah)))) (by omega)))
 (ao (bc (RW.rt (gQ (aZ (bw hu) bt (ax (rv 6) ai) bC) (iY (aZ (bw hu) bt (rv 3) ai)))) (au (aA (rv 6))) aP)
 (ao (aL q (aq (dg T) hr (ae (rv 0) (ae (rv 1) (ae (rv 2) (ae (aC eh (eo _) (rv 3) ai) (ae (rv 4) ah))))) (by omega)))
 (ao (bc (aZ (bw hu) bt (ax (rv 7) ai) bC) (au (aA (rv 7))) aP)
 (au (aA (b4 (ae bC (ae (b4 (ae bC (ae (ax (rv 2) (aC eh (eo _) (rv 3) ai)) (ae (rv 5) (ae (ax (rv 6) ai) (ae (ax (rv 7) ai) ah)))))) ah))))))))))
theorem dJ (T:Txt K mg):OkE P w K mg 42 "told_of_order" ["stand","lengths","order","left"] (bx 40):=(dk T 40).1
theorem dg (T:Txt K mg):OkE P w K mg 42 "told_of_places" ["stand","lengths","order","place","left"] (bo 40):=(dk T 40).2
theorem iL (T:Txt K mg):OkE P w K mg 1 "lengths_of" ["wish"] cU:=by
 refine a_ ["wish"] T.lengths_of fun _ _ _ _ _ _ _ _ hr q=>?_
 exact (au (aA (mS (kU rfl rfl T.z_dict rfl T.z_zip pA t6 (ae (ax (rv 0) ai) (ae (ax (rv 0) ai) ah))))))
theorem eM (T:Txt K mg):OkE P w K mg 43 "hand_can" ["stand","wish"] cw:=by
 refine a_ ["stand","wish"] T.hand_can fun _ _ _ _ _ _ _ _ hr q=>?_
 exact (ao (dP (aq (iT T) hr (ae (rv 0) (ae (rv 1) (ae bC ah)))))
 (au (aA (aq (dJ T) hr (ae (rv 0) (ae (aq (iL T) hr (ae (rv 1) ah)) (ae (eT (ax (rv 1) ai) c9 (cG ai)) (ae (eT (ax (rv 1) ai) (cG ai) c9) ah))))))))
theorem mF (T:Txt K mg):OkE P w K mg 3 "_law_order_of" ["pen","wish"] ez:=by
 refine a_ ["pen","wish","left","order"] T.l_order_of fun _ _ _ _ _ _ _ _ hr q=>?_
 refine' (ao (aL q (iA rfl rfl T.z_list rfl T.z_range lO (ae (aB aI aQ T.z_len bj (ae (ax (rv 1) ai) ah)) ah)))
 (ao (wN bL ["name","pen","wish","left","order"] q (bS (ax (rv 1) ai)) ?g0 rt0 ?e0)
 (au (aA (b4 (ae bC (ae (bG bp bE T.z_tuple br (ae (b_ bL ["at","pen","wish","left","order"] q (bS (rv 3)) ?g2 rt0 ?e2) ah)) (ae (bG bp bE T.z_tuple br (ae (b_ bL ["at","pen","wish","left","order"] q (bS (rv 3)) ?g1 rt0 ?e1) ah)) ah))))))))
 (case g0=>intro _ _ _ _ q;exact (aG q))
 (case e0=>intro _ _ _ _;exact (we PySem.F.slot_list_pop PySem.F.type_list_pop nq n6 (rv 3) (aq (bD T) hr (ae (rv 1) (ae (aB aI aQ T.z_len bj (ae (rv 3) ah)) ah)))))
 (case g2=>intro _ _ _ _ q;exact (aG q))
 (case e2=>intro _ _ _ _;exact (ax (ax (rv 2) ai) (rv 0)))
 (case g1=>intro _ _ _ _ q;exact (aG q))
 (case e1=>intro _ _ _ _;exact (ax (ax (rv 2) ai) (rv 0)))
theorem rK (T:Txt K mg):OkE P w K mg 1 "_law_later" ["stand","more"] gh:=by
 refine a_ ["stand","more"] T.l_later fun _ _ _ _ _ _ _ _ hr q=>?_
 refine' (au (aA (bG bp bE T.z_tuple br (ae (b_ bL ["worths","stand","more"] q (bS (rv 0)) ?g1 rt0 ?e1) ah))))
 (case g1=>intro _ _ _ _ q;exact (aG q))
 (case e1=>intro _ _ _ _;refine' (bG bp bE T.z_tuple br (ae (Aj bL ["worth","worths","stand","more"] (bS (rv 0)) ?g0 rt0 ?e0) ah));(case g0=>intro _ _ _ _ q;exact (aG q));(case e0=>intro _ _ _ _;exact (aC aT aU (rv 0) (rv 3))))
theorem qL (T:Txt K mg):OkE P w K mg 1 "_law_about" ["stand","wish"] f9:=by
 refine a_ ["stand","wish","lengths","found","name","worths"] T.l_about fun _ _ _ _ _ _ _ _ hr q=>?_
 have hu:=hr.units
 refine' (ao (aL q (mS (kU rfl rfl T.z_dict rfl T.z_zip pA t6 (ae (ax (rv 1) ai) (ae (ax (rv 1) ai) ah)))))
 (ao (aL q (ju ah))
 (ao (gL (m_ rfl T.z_enumerate (rv 0)) (jk (cA (aG q) (cA (aG q) gF))) (au (dP (nS (rv 3) (bG bp bE T.z_tuple br (ae (aB kJ lS T.z_sorted ml (ae (b_ bL ["worth","stand","wish","lengths","found","name","worths"] q (bS (rv 5)) ?g0 rt0 ?e0) ah)) ah))))))
 (au (aA (bG bp bE T.z_tuple br (ae (rv 3) ah)))))))
 (case g0=>intro _ _ _ _ q;exact (aG q))
 (case e0=>intro _ _ _ _;exact (aC eh (eo _) (aC eh (eo _) ai (rv 0)) (pR hu (rv 3) (rv 5) ai)))
theorem uW (T:Txt K mg):OkE P w K mg 1 "_law_far" ["stand"] jv:=by
 refine a_ ["stand"] T.l_far fun _ _ _ _ _ _ _ _ hr q=>?_
 refine' (au (aA (Dc (b9 gT (bN _) (aB (mm rfl) lQ T.z_min m8 (ae (b_ bL ["worths","stand"] q (bS (rv 0)) ?g0 rt0 ?e0) ah)) (wA t_ pZ ai)) (cM (b9 q0 (bN _) (aB (mj rfl) mi T.z_max oM (ae (b_ bL ["worths","stand"] q (bS (rv 0)) ?g1 rt0 ?e1) ah)) ai)))))
 (case g0=>intro _ _ _ _ q;exact (aG q))
 (case e0=>intro _ _ _ _;exact (aB (mm rfl) lQ T.z_min m8 (ae (rv 0) ah)))
 (case g1=>intro _ _ _ _ q;exact (aG q))
 (case e1=>intro _ _ _ _;exact (aB (mj rfl) mi T.z_max oM (ae (rv 0) ah)))
theorem tR (T:Txt K mg):OkE P w K mg 1 "_law_with" ["stand","name","worth"] hW:=by
 refine a_ ["stand","name","worth"] T.l_with fun _ _ _ _ _ _ _ _ hr q=>?_
 exact (au (aA (aC aT aU (aC aT aU (eT (rv 0) c9 (cG (rv 1))) (b4 (ae (b4 (ae (rv 2) ah)) ah))) (eT (rv 0) (cG (aC aT aU (rv 1) ai)) c9))))
theorem j3 (T:Txt K mg):OkE P w K mg 2 "is_right_leaf" ["stand","wish","some","told"] cP:=by
 refine a_ ["stand","wish","some","told"] T.is_right_leaf fun _ _ _ _ _ _ _ _ hr q=>?_
 have hu:=hr.units
 refine' (ao (bc (RW.rt (gQ (cj (cx (cT T.z_isinstance T.z_tuple br (rv 2)))) (gQ (aZ gT (bN _) (aB aI aQ T.z_len bj (ae (rv 2) ah)) ai) (iY (cj (cx (aq (iB T) hr (ae (rv 2) ah)))))))) (au (aA dF)) aP)
 (ao (bc (cj (cx (aB (dN rfl) eE T.z_all gD (ae (b_ bL ["name","stand","wish","some","told"] q (bS (rv 2)) ?g0 rt0 ?e0) ah)))) (au (aA dF)) aP)
 (ao (bc (cj (cx (aB (dN rfl) eE T.z_all gD (ae (b_ bL ["pair","stand","wish","some","told"] q (xK rfl T.z_zip (ae (rv 2) (ae (eT (rv 2) (cG ai) c9) ah))) ?g1 rt0 ?e1) ah)))) (au (aA dF)) aP)
 (au (aA (b9 nE oy (aq (iW T) hr (ae (rv 0) (ae (aq (iL T) hr (ae (rv 1) ah)) (ae (rv 2) ah)))) mZ))))))
 (case g0=>intro _ _ _ _ q;exact (aG q))
 (case e0=>intro _ _ _ _;exact (b9 (sZ hu) ud (rv 0) (ax (rv 2) ai)))
 (case g1=>intro _ _ _ _ q;exact (aG q))
 (case e1=>intro _ _ _ _;exact (b9 (sZ hu) ud (rv 0) (rv 4)))
theorem cZ (T:Txt K mg):∀ n:Nat,OkE P w K mg (2+n+1) "is_right_split" ["stand","wish","tree","told"] (bU n)∧OkE P w K mg (2+n+1) "is_right_tree" ["stand","wish","tree","told"] (bH n)
 | 0=>⟨a_ ["stand","wish","tree","told","one","other"] T.is_right_split fun _ _ _ _ _ _ _ _ hr q=>b7,a_ ["stand","wish","tree","told"] T.is_right_tree fun _ _ _ _ _ _ _ _ hr q=>b7⟩
 | n+1=>by
  have ih:=cZ T n
  have fi:=fun (_:Txt K mg)=>ih.1
  have cL:=fun (_:Txt K mg)=>ih.2
  refine ⟨?_,?_⟩
  · refine a_ ["stand","wish","tree","told","one","other"] T.is_right_split fun _ _ _ _ _ _ _ _ hr q=>?_
    have hu:=hr.units
    exact (ao (aL q (ax (rv 2) ai))
 (ao (aL q (ax (rv 2) ai))
 (ao (bc (RW.rt (gQ (aZ (bw hu) bt (rv 4) (rv 5)) (gQ (aZ (lh hu) lH (rv 4) (ax (rv 1) ai)) (iY (aZ (lh hu) lH (rv 5) (ax (rv 1) ai)))))) (au (aA dF)) aP)
 (ao (bc (cj (cx (aq (cL T) hr (ae (rv 0) (ae (rv 1) (ae (ax (rv 2) ai) (ae (aC aT aU (rv 3) (jj (ae (b4 (ae (rv 4) (ae (rv 5) ah))) ah))) ah)))) (by omega)))) (au (aA dF)) aP)
 (au (aA (aq (cL T) hr (ae (rv 0) (ae (rv 1) (ae (ax (rv 2) ai) (ae (aC aT aU (rv 3) (jj (ae (b4 (ae (rv 5) (ae (rv 4) ah))) ah))) ah)))) (by omega))))))))
  · refine a_ ["stand","wish","tree","told"] T.is_right_tree fun _ _ _ _ _ _ _ _ hr q=>?_
    have hu:=hr.units
    exact (ao (bc (cj (cx (cT T.z_isinstance T.z_tuple br (rv 2)))) (au (aA dF)) aP)
 (ao (bc (RW.rt (t8 (aZ (bw hu) bt (aB aI aQ T.z_len bj (ae (rv 2) ah)) ai) (pv (aZ (bw hu) bt (ax (rv 2) ai) bC)))) (au (aA (aq (j3 T) hr (ae (rv 0) (ae (rv 1) (ae (ax (rv 2) ai) (ae (rv 3) ah)))) (by omega)))) aP)
 (au (aA (cc (b9 (bw hu) bt (aB aI aQ T.z_len bj (ae (rv 2) ah)) ai) (cc (b9 (bw hu) bt (ax (rv 2) ai) bC) (cM (aq (fi T) hr (ae (rv 0) (ae (rv 1) (ae (rv 2) (ae (rv 3) ah)))) (by omega)))))))))
theorem fi (T:Txt K mg):OkE P w K mg 43 "is_right_split" ["stand","wish","tree","told"] (bU 40):=(cZ T 40).1
theorem cL (T:Txt K mg):OkE P w K mg 43 "is_right_tree" ["stand","wish","tree","told"] (bH 40):=(cZ T 40).2
theorem mB (T:Txt K mg):OkE P w K mg 44 "hand_paper" ["stand","wish","paper"] ef:=by
 refine a_ ["stand","wish","paper"] T.hand_paper fun _ _ _ _ _ _ _ _ hr q=>?_
 exact (ao (dP (aq (iT T) hr (ae (rv 0) (ae (rv 1) (ae bC ah)))))
 (au (aA (aq (cL T) hr (ae (rv 0) (ae (rv 1) (ae (rv 2) (ae (jj ah) ah))))))))
theorem rn (T:Txt K mg):OkE P w K mg 45 "_law_right" ["pen","stand","wish"] f6:=by
 refine a_ ["pen","stand","wish","word","paper","others","one","again","name","fewer","shorter","longer"] T.l_right fun _ _ _ _ _ _ _ _ hr q=>?_
 have hu:=hr.units
 refine' (ao (gK (aq (eM T) hr (ae (rv 1) (ae (rv 2) ah))) (jk (cA (aG q) (cA (aG q) gF))))
 (ao (aL q (ju (ae (b4 (ae (rv 1) (ae (aq (mF T) hr (ae (rv 0) (ae (rv 2) ah))) ah))) (ae (b4 (ae (aq (rK T) hr (ae (rv 1) (ae (aC eh (eo _) (aq (bD T) hr (ae (rv 0) (ae ai ah))) ai) ah))) (ae (rv 2) ah))) ah))))
 (ao (dP (nS (rv 5) (b4 (ae (aq (qL T) hr (ae (rv 1) (ae (rv 2) ah))) (ae (rv 2) ah)))))
 (ao (gL (bS (rv 5)) (jk (cA (aG q) (cA (aG q) gF))) (au (bc (RW.rt (t8 (cj (cx (aq (uW T) hr (ae (rv 6) ah)))) (pv (aZ (tG hu) sI (ax (aq (eM T) hr (ae (rv 6) (ae (rv 7) ah))) ai) (rv 3))))) (au (aA dF)) aP)))
 (ao (aL q (ax (ax (rv 2) ai) (aq (bD T) hr (ae (rv 0) (ae (aB aI aQ T.z_len bj (ae (ax (rv 2) ai) ah)) ah)))))
 (ao (aL q (aq (tR T) hr (ae (rv 1) (ae (rv 8) (ae (ax (ax (rv 1) (rv 8)) (aq (bD T) hr (ae (rv 0) (ae (aB aI aQ T.z_len bj (ae (ax (rv 1) (rv 8)) ah)) ah)))) ah)))))
 (ao (aL q (b4 (ae bC (ae (ax (rv 2) ai) (ae (bG bp bE T.z_tuple br (ae (b_ bL ["length","pen","stand","wish","word","paper","others","one","again","name","fewer","shorter","longer"] q (bS (ax (rv 2) ai)) ?g0 rt0 ?e0) ah)) ah)))))
 (ao (aL q (b4 (ae bC (ae (ax (rv 2) ai) (ae (bG bp bE T.z_tuple br (ae (b_ bL ["length","pen","stand","wish","word","paper","others","one","again","name","fewer","shorter","longer"] q (bS (ax (rv 2) ai)) ?g1 rt0 ?e1) ah)) ah)))))
 (ao (bc (aZ (bw hu) bt (rv 3) bC) (au (aA (b9 (bw hu) bt (ax (aq (eM T) hr (ae (rv 1) (ae (rv 10) ah))) ai) bC))) aP)
 (au (aA (cc (b9 nE oy (aq (mB T) hr (ae (rv 9) (ae (rv 2) (ae (rv 4) ah)))) dF) (cM (b9 (bw hu) bt (ax (aq (eM T) hr (ae (rv 1) (ae (rv 11) ah))) ai) bC))))))))))))))
 (case g0=>intro _ _ _ _ q;exact (aG q))
 (case e0=>intro _ _ _ _;exact (aB (um rfl) uA T.z_max oM (ae ai (ae (aC eh (eo _) (rv 0) ai) ah))))
 (case g1=>intro _ _ _ _ q;exact (aG q))
 (case e1=>intro _ _ _ _;exact (aB (sL rfl) ux T.z_min m8 (ae ai (ae (aC aT aU (rv 0) ai) ah))))
theorem kx (T:Txt K mg):OkE P w K mg 3 "_law_some_names" ["pen","stand"] c_:=by
 refine a_ ["pen","stand","left","many"] T.l_some_names fun _ _ _ _ _ _ _ _ hr q=>?_
 refine' (ao (aL q (iA rfl rfl T.z_list rfl T.z_range lO (ae (aB aI aQ T.z_len bj (ae (rv 1) ah)) ah)))
 (ao (aL q (aC aT aU ai (aq (bD T) hr (ae (rv 0) (ae (aB aI aQ T.z_len bj (ae (rv 2) ah)) ah)))))
 (ao (bc (aZ q0 (bN _) (aq (bD T) hr (ae (rv 0) (ae ai ah))) ai) (au (aL q (aB aI aQ T.z_len bj (ae (rv 2) ah)))) aP)
 (au (aA (bG bp bE T.z_tuple br (ae (b_ bL ["k","pen","stand","left","many"] q (gg rfl T.z_range (ae (rv 3) ah)) ?g0 rt0 ?e0) ah)))))))
 (case g0=>intro _ _ _ _ q;exact (aG q))
 (case e0=>intro _ _ _ _;exact (we PySem.F.slot_list_pop PySem.F.type_list_pop nq n6 (rv 3) (aq (bD T) hr (ae (rv 1) (ae (aB aI aQ T.z_len bj (ae (rv 3) ah)) ah)))))
theorem ng (T:Txt K mg):OkE P w K mg 4 "_law_wish_of" ["pen","stand","kind"] eP:=by
 refine a_ ["pen","stand","kind","names","weights","total","name","weight","low","high","ends"] T.l_wish_of fun _ _ _ _ _ _ _ _ hr q=>?_
 have hu:=hr.units
 refine' (ao (aL q (aq (kx T) hr (ae (rv 0) (ae (rv 1) ah))))
 (ao (bc (aZ (bw hu) bt (rv 2) ai) b7 aP)
 (ao (bc (aZ (bw hu) bt (rv 2) ai) b7 aP)
 (ao (bc (aZ (bw hu) bt (rv 2) ai) b7 aP)
 (ao (bc (aZ (bw hu) bt (rv 2) ai) b7 aP)
 (au (aA (b4 (ae bC (ae (rv 3) (ae (bG bp bE T.z_tuple br (ae (b_ bL ["name","pen","stand","kind","names","weights","total","~6","weight","low","high","ends"] q (bS (rv 3)) ?g0 rt0 ?e0) ah)) ah)))))))))))
 (case g0=>intro _ _ _ _ q;exact (aG q))
 (case e0=>intro _ _ _ _;exact (aC aT aU ai (aq (bD T) hr (ae (rv 1) (ae (ax (jj (ae ai (ae ai ah))) (aq (bD T) hr (ae (rv 1) (ae ai ah)))) ah)))))
theorem Ad (T:Txt K mg):OkE P w K mg 46 "law" ["script"] qr:=by
 refine a_ ["script","pen","turn","stand"] T.law fun _ _ _ _ _ _ _ _ hr q=>?_
 exact (ao (aL q (aq (t7 T) hr (ae (rv 0) ah)))
 (ao (gL (gg rfl T.z_range (ae ai ah)) (aG q) (ao (aL q (aq (qH T) hr (ae (aq (ui T) hr (ae (rv 1) ah)) (ae ai (ae (ax (jj (ae ai (ae ai (ae ai (ae ai ah))))) (rv 2)) ah)))))
 (au (bc (cj (cx (aq (rn T) hr (ae (rv 1) (ae (rv 3) (ae (aq (ng T) hr (ae (rv 1) (ae (rv 3) (ae ai ah)))) ah)))))) (au (aA dF)) aP))))
 (au (aA dF))))
end
end My
def PySem.W.Fast.tw9851098986030753279:Unit:=()
def PySem.W.Fast.tw14252111025080940080:Unit:=()
def PySem.W.Fast.tw2208337830100638933:Unit:=()
def PySem.W.Fast.tw6378202318082469724:Unit:=()
def PySem.W.Fast.tw16262522876410639178:Unit:=()
def PySem.W.Fast.tw3915450058659608709:Unit:=()
def PySem.W.Fast.tw3408486901269003129:Unit:=()
def PySem.W.Fast.tw9173107803335683396:Unit:=()
def PySem.W.Fast.tw1500222773367277232:Unit:=()
def PySem.W.Fast.tw8144302578993906740:Unit:=()
def PySem.W.Fast.tw14480829751873390357:Unit:=()
def PySem.W.Fast.tw1685856237923470250:Unit:=()
def PySem.W.Fast.tw4314370613552356343:Unit:=()
def PySem.W.Fast.tw4896814490783509785:Unit:=()
def PySem.W.Fast.tw13040426555633594762:Unit:=()
def PySem.W.Fast.tw1701490168203869135:Unit:=()
def PySem.W.Fast.tw6366379978466248435:Unit:=()
def PySem.W.Fast.tw3537844191191990361:Unit:=()
def PySem.W.Fast.tw5383121044289381064:Unit:=()
def PySem.W.Fast.tw15098796017237298263:Unit:=()
def PySem.W.Fast.tw9874652287396304151:Unit:=()
def PySem.W.Fast.tw1098887649889500673:Unit:=()
def PySem.W.Fast.tw7862079188300487373:Unit:=()
def PySem.W.Fast.tw2997000884951263982:Unit:=()
def PySem.W.Fast.tw17538175454050193041:Unit:=()
def PySem.W.Fast.tw17153241406946707925:Unit:=()
def PySem.W.Fast.tw14739918411581440217:Unit:=()
def PySem.W.Fast.tw14354513392423722431:Unit:=()
def PySem.W.Fast.tw10589902833257137944:Unit:=()
def PySem.W.Fast.tw18041142890787901458:Unit:=()
def PySem.W.Fast.tw10974053415925247045:Unit:=()
def PySem.W.Fast.tw825030447440401413:Unit:=()
def PySem.W.Fast.tw3725617285408842417:Unit:=()
def PySem.W.Fast.tw6724469462632731117:Unit:=()
def PySem.W.Fast.tw5472752744092538064:Unit:=()
def PySem.W.Fast.tw5748021562499902988:Unit:=()
def PySem.W.Fast.tw12407685929608400764:Unit:=()
def PySem.W.Fast.tw8423451212014707280:Unit:=()
def PySem.W.Fast.tw12768081749368058017:Unit:=()
def PySem.W.Fast.tw155322104216209085:Unit:=()
def PySem.W.Fast.tw8360004961246075187:Unit:=()
def PySem.W.Fast.tw16318587635491554967:Unit:=()
def PySem.W.Fast.tw3397413058272402288:Unit:=()
def PySem.W.Fast.tw5255907403860262068:Unit:=()
def PySem.W.Fast.tw1588051944663204681:Unit:=()
def PySem.W.Fast.tw15882626331821913332:Unit:=()
def PySem.W.Fast.tw13562511993508080165:Unit:=()
def PySem.W.Fast.tw1644262307670857073:Unit:=()
def PySem.W.Fast.tw2312341470426743862:Unit:=()
def PySem.W.Fast.tw2598192704098934083:Unit:=()
def PySem.W.Fast.tw6347505907472475589:Unit:=()
def PySem.W.Fast.tw6889867744658604266:Unit:=()
def PySem.W.Fast.tw10182201521387104381:Unit:=()
def PySem.W.Fast.tw3405931562687955654:Unit:=()
def PySem.W.Fast.tw8865343837705403481:Unit:=()
def PySem.W.Fast.tw7352840146343567372:Unit:=()
def PySem.W.Fast.tw2470319838043193985:Unit:=()
def PySem.W.Fast.tw12844485999388464173:Unit:=()
def PySem.W.Fast.tw7673426793426847864:Unit:=()
def PySem.W.Fast.tw2427812221244883388:Unit:=()
def PySem.W.Fast.tw6396494468638910914:Unit:=()
def PySem.W.Fast.tw15923371600596849785:Unit:=()
def PySem.W.Fast.tw3363867273661413412:Unit:=()
def PySem.W.Fast.tw17008165662420229573:Unit:=()
def PySem.W.Fast.tw9954910590728620915:Unit:=()
def PySem.W.Fast.tw198940485175902413:Unit:=()
def PySem.W.Fast.tw16217012418373045446:Unit:=()
def PySem.W.Fast.tw5276532983036293141:Unit:=()
def PySem.W.Fast.tw165330837253849590:Unit:=()
def PySem.W.Fast.tw13871367763682589145:Unit:=()
namespace My
open PySem L2
def qk (K:PySem.W.Frag):Sp:=fun vs H Q _=>∃ (l:Addr) (ns:List Int),vs=[.ref l]∧SqL K H l (ns.map V.int)∧ns.length≤63∧∀ H',Q (.bl true) H'
theorem all_mk {l:PySem.W.OpenLaw} {w:World} {K:PySem.W.Frag} {mg:Str→Option Value} {fa:Addr} (hfa:mg "law"=some (.ref fa)) (T:Txt K mg) :
  ∃ fd:FuncData,(∀ (s:Shared) (v:Value),BindsTo s fd ⟨[v],[]⟩ [("script",v)])∧∀ base:Heap,K.In base→base.Ns mainGlobals mg→eB l.prog w K mg base CX0 46 fa fd ["script"] (qk K):=by
 obtain ⟨f,fd,m,kp,b,F⟩:=Ad (P:=l.prog) (w:=w) T
 have e2:f=fa:=(Value.ref.inj (Option.some.inj (hfa.symm.trans m))).symm
 subst e2
 refine ⟨fd,fun s v=>.of_eq (b [v] rfl),fun base _ _=>(F base).imp fun vs H Q E h=>?_⟩
 obtain ⟨l,ns,rfl,hS,hl,hQ⟩:=h
 refine ⟨fun _=>l,[],[.sc ns],⟨fun n o h=>(by cases h),fun n m o o' h=>(by cases h)⟩,.cons ⟨l,rfl,SqL.mono (fun b o h=>bO h (by rintro ⟨n,o',e,_⟩;cases e)) hS⟩ .nil,?_⟩
 rw [vp ns]
 intro b μ' H' st r
 cases r
 exact hQ H'
theorem walk {l:PySem.W.OpenLaw} {q:Program} {loose:List Str} {XP:(Str→Option Value)→Heap→Prop} {YP:World→Heap→Prop} {d:DefRec} {K:Params→PySem.W.Frag} (hn:l.most=some 63) (hdf:d.params.defaults=[])
  (hY:∀ (w:World) (h:Heap),YP w h→(K w.params).In h)
  (F:∀ (w:World) (mg:Str→Option Value) (fa:Addr) (h:Heap),(K w.params).In h→h.Ns mainGlobals mg→mg d.name=some (.ref fa) →
   ∃ fd:FuncData,(∀ (s:Shared) (u:Value),BindsTo s fd ⟨[u],[]⟩ [("script",u)])∧∀ base:Heap,(K w.params).In base→base.Ns mainGlobals mg→eB l.prog w (K w.params) mg base CX0 46 fa fd ["script"] (qk (K w.params))) :
  PySem.W.WalkO q loose XP YP l.row.toRowW d [] (fun f vs=>PySem.call f vs):=
 L2.yD (n:=63) (k:=46) (x:="script") (CX:=fun _=>CX0) (sp:=fun w=>qk (K w.params)) hn (by decide) hdf ⟨rfl,by decide,by decide⟩ hY F (fun _ _ a ns hl _ hS=>⟨a,ns,rfl,hS,hl,fun _=>rfl⟩) fun _ _ _ _ _ z=>z
end My
open PySem PySem.W PyProof.Rows
set_option maxRecDepth 100000 in
set_option maxHeartbeats 0 in
theorem PySem.Challenge.cw_wishstrike_k32_whole_works_turned_holds : PySem.Challenge.rw_wishstrike_k32_whole_works_turned.Holds := by
  w_on;o_law;k_head;(case hw=>w_witness2)
  k_fill
  refine My.walk (l:=PySem.Challenge.rw_wishstrike_k32_whole_works_turned) rfl rfl (fun w h Y=>PySem.W.kIn_of Y) ?F
  case F=>
    intro w mg fa h KX G hmg
    refine' My.all_mk hmg ?T
    (case T=>constructor<;>first | (refine' PySem.W.mg_none_of KX G ?z;(case z=>k_is)) | (refine' L2.BV KX G ?a ?l ?c ?k;(case a=>k_is);(case l=>k_is);(case c=>k_is);(case k=>k_is)))
#print axioms PySem.Challenge.cw_wishstrike_k32_whole_works_turned_holds
