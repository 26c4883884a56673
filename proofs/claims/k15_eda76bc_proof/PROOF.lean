import PyProof.Rows.All
import Wide.All
import OpenK.AllK
import Wide.FinOn
import Lean
import PyProof.EqAt
import PyProof.EqKinds
import PyProof.TupleCall
import PySem.Challenge.RW_wishstrike_k15_many_can_or_paper
set_option Elab.async false
set_option linter.all false
set_option maxRecDepth 100000
namespace L2
open PySem PySem.Spec PyProof.Rows
abbrev Key:=Sum Int Str
def l5:Key→Value→Bool
 | .inl k,v=>Value.isInt k v
 | .inr x,v=>Value.isStrOf x v
def G1 (w:World):Key→Int
 | .inl k=>hashInt k
 | .inr x=>hashStr w x
theorem bV:∀ {k:Key} {v:Value},l5 k v=true→(∃ i t,k=Sum.inl i∧v=Value.int i t)∨(∃ x t,k=Sum.inr x∧v=Value.str x t)
 | .inl i,v,h=>by
  obtain ⟨t,e⟩:=Value.isInt_shape (k:=i) (v:=v) h
  exact .inl ⟨i,t,rfl,e⟩
 | .inr x,v,h=>by
  obtain ⟨t,e⟩:=Value.isStrOf_shape (x:=x) (v:=v) h
  exact .inr ⟨x,t,rfl,e⟩
theorem wO (i:Int) (t:Tok):l5 (.inl i) (.int i t)=true:=by simp [l5,Value.isInt]
theorem wx (x:Str) (t:Tok):l5 (.inr x) (.str x t)=true:=by simp [l5,Value.isStrOf]
theorem CA (a b:Int):decide ((Sum.inl a:Key)=Sum.inl b)=(a == b):=by
 by_cases e:a=b
 ·subst e;simp
 ·have h:¬(Sum.inl a:Key)=Sum.inl b:=fun q=>e (Sum.inl.inj q)
  rw [decide_eq_false h]
  exact (beq_eq_false_iff_ne.mpr e).symm
theorem B8 (a b:Str):decide ((Sum.inr a:Key)=Sum.inr b)=decide (a=b):=by
 by_cases e:a=b
 ·subst e;simp
 ·have h:¬(Sum.inr a:Key)=Sum.inr b:=fun q=>e (Sum.inr.inj q)
  rw [decide_eq_false h,decide_eq_false e]
theorem B4 (a:Int) (b:Str):decide ((Sum.inl a:Key)=Sum.inr b)=false:=decide_eq_false (fun q=>nomatch q)
theorem D8 (a:Str) (b:Int):decide ((Sum.inr a:Key)=Sum.inl b)=false:=decide_eq_false (fun q=>nomatch q)
def aW (prog:Program) (w:World):PySem.KeyKind prog w Key where
 is:=l5
 hash:=G1 w
 inj:=fun v a b ha hb=>by
  rcases bV ha with ⟨i,t,rfl,rfl⟩ | ⟨x,t,rfl,rfl⟩
  ·rcases bV hb with ⟨j,u,rfl,e⟩ | ⟨y,u,rfl,e⟩
   ·injection e with e1 _;rw [e1]
   ·exact nomatch e
  ·rcases bV hb with ⟨j,u,rfl,e⟩ | ⟨y,u,rfl,e⟩
   ·exact nomatch e
   ·injection e with e1 _;rw [e1]
 byValue:=fun k v h=>by
  rcases bV h with ⟨i,t,rfl,rfl⟩ | ⟨x,t,rfl,rfl⟩<;>rfl
 pyHash:=fun hv h=>by
  rcases bV hv with ⟨i,t,rfl,rfl⟩ | ⟨x,t,rfl,rfl⟩
  ·exact wpAny_pyHash_int h
  ·exact wpAny_pyHash_str h
 eqBool:=fun hu hv h=>by
  rcases bV hu with ⟨i,t,rfl,rfl⟩ | ⟨x,t,rfl,rfl⟩
  ·rcases bV hv with ⟨j,u,rfl,rfl⟩ | ⟨y,u,rfl,rfl⟩
   ·rw [CA] at h;exact wpAny_eqBool_int h
   ·rw [B4] at h;exact SeqAt.EqAt.int_str i t y u _ _ _ _ h
  ·rcases bV hv with ⟨j,u,rfl,rfl⟩ | ⟨y,u,rfl,rfl⟩
   ·rw [D8] at h;exact SeqAt.EqAt.str_int x t j u _ _ _ _ h
   ·rw [B8] at h;exact wpAny_eqBool_str h
 «strs»:=fun k x t v h=>by
  rcases bV h with ⟨i,u,rfl,e⟩ | ⟨y,u,rfl,e⟩
  ·exact nomatch e
  ·injection e with e1 _
   subst e1
   cases v<;>rfl
theorem sj (prog:Program) (w:World) (i:Int) (t:Tok):(aW prog w).is (.inl i) (.int i t)=true:=wO i t
theorem sR (prog:Program) (w:World) (x:Str) (t:Tok):(aW prog w).is (.inr x) (.str x t)=true:=wx x t
inductive V where
 | non | bl (b:Bool) | int (i:Int) | str (x:Str) | byt (b:Array UInt8) | flt (b:UInt64) | ref (a:Addr) | ty (n:String)
 deriving DecidableEq
def RelV:V→Value→Prop
 | .non,u=>u=Value.none
 | .bl b,u=>u=Value.bool b
 | .int i,u=>∃ t,u=Value.int i t
 | .str x,u=>∃ t,u=Value.str x t
 | .byt b,u=>∃ t,u=Value.bytes b t
 | .flt b,u=>∃ t,u=Value.float b t
 | .ref a,u=>u=Value.ref a
 | .ty n,u=>u=Value.type n
abbrev Vals:List V→List Value→Prop:=Paired RelV
theorem Vals.length {xs:List V} {us:List Value} (r:Vals xs us):xs.length=us.length:=Paired.length r
theorem Vals.get:∀ {xs:List V} {us:List Value} {i:Nat} {x:V},Vals xs us→xs[i]?=some x→∃ u,us[i]?=some u∧RelV x u
 | _,_,_,_,.nil,e=>by simp at e
 | _,_,0,_,.cons r _,e=>by simp at e;subst e;exact ⟨_,rfl,r⟩
 | _,_,i+1,x,.cons _ t,e=>by
  obtain ⟨u,h1,h2⟩:=Vals.get (i:=i) (x:=x) t (by simpa using e)
  exact ⟨u,by simpa using h1,h2⟩
theorem Vals.set {x:V} {u:Value} (r:RelV x u):∀ {xs:List V} {us:List Value} (i:Nat),Vals xs us→Vals (xs.set i x) (us.set i u)
 | _,_,_,.nil=>.nil
 | _,_,0,.cons _ t=>.cons r t
 | _,_,i+1,.cons q t=>.cons q (Vals.set r i t)
theorem Vals.append:∀ {xs ys:List V} {us ws:List Value},Vals xs us→Vals ys ws→Vals (xs++ys) (us++ws)
 | _,_,_,_,.nil,s=>s
 | _,_,_,_,.cons r t,s=>.cons r (Vals.append t s)
theorem Vals.take:∀ {xs:List V} {us:List Value} (n:Nat),Vals xs us→Vals (xs.take n) (us.take n)
 | _,_,0,_=>.nil
 | _,_,_+1,.nil=>.nil
 | _,_,n+1,.cons r t=>.cons r (Vals.take n t)
theorem Vals.drop:∀ {xs:List V} {us:List Value} (n:Nat),Vals xs us→Vals (xs.drop n) (us.drop n)
 | _,_,0,r=>r
 | _,_,_+1,.nil=>.nil
 | _,_,n+1,.cons _ t=>Vals.drop n t
def fe:Option V→Option Value→Prop
 | some v,some u=>RelV v u
 | none,none=>True
 | _,_=>False
def KV {κ:Type}:List (κ×V)→List (κ×Value)→Prop:=Paired fun (p:κ×V) (q:κ×Value)=>p.1=q.1∧RelV p.2 q.2
def kV:Key→V
 | .inl i=>.int i
 | .inr x=>.str x
inductive HO where
 | lst (xs:List V)
 | tup (xs:List V)
 | dK (kvs:List (Key×V)) | dT (kvs:List (List Key×V))
 | set (S:Int→Bool) (n:Nat)
 | ins (C dx:Addr) (fs:List (Str×V))
 | own (x:Addr)
 | xd (fs:List (Str×V))
 | met (f x:Addr)
 | rng (lo hi:Int)
 | frz (o:Obj) (u:HO)
 | tbl (ps:Array Value)
 | ext (φ:Heap→Prop)
abbrev Hp:=Addr→Option HO
def upd (H:Hp) (a:Addr) (o:HO):Hp:=fun b=>if b=a then some o else H b
theorem bC {H:Hp} {a:Addr} {o:HO}:upd H a o a=some o:=by unfold upd;rw [if_pos rfl]
theorem aB {H:Hp} {a b:Addr} {o:HO} (h:b≠a):upd H a o b=H b:=by unfold upd;rw [if_neg h]
theorem Fy {H:Hp} {a b:Addr} {o u:HO} (h:H a=some o) (h':H b=some u) (d:o≠u):a≠b:=by
 intro e;subst e;rw [h] at h';exact d (Option.some.inj h')
theorem a9 {H:Hp} {a b:Addr} {o:HO} (h:H a=some o) (h':H b=none):a≠b:=by
 intro e;subst e;rw [h] at h';cases h'
section
variable (P:Program) (w:World)
def bj (H:Hp) (h:Heap) (a:Addr):HO→Prop
 | .lst xs=>xs.length≤sizeLine∧∃ (its:List Value) (n:Nat),Vals xs its∧h.get? a=some { cls:=.type "list",data:=.seq its.toArray n }
 | .tup xs=>xs.length≤sizeLine∧∃ its:List Value,Vals xs its∧IsTup h a its.toArray
 | .dK kvs=>kvs.length≤sizeLine∧(a == sysModules)=false∧∃ vs,KV kvs vs∧h.DictOf (aW P w) a vs
 | .dT kvs=>kvs.length≤sizeLine∧(a == sysModules)=false∧∃ xs:List (List Key×Addr×Value),
   Paired (fun (p:List Key×V) (q:List Key×Addr×Value)=>p.1=q.1∧H q.2.1=some (.tup (p.1.map kV))∧RelV p.2 q.2.2) kvs xs ∧
   ∃ o es ep,h.get? a=some o∧o.ExactDict∧o.data=.dict es ep∧es.toList=xs.map (entryOfKey (tupleKind (aW P w)))∧(xs.map (·.1)).Nodup
 | .set S n=>h.SetOf (intKind P w) a S n
 | .ins C dx fs=>H dx=some (.own a)∧fs.length≤1000∧dx≠a∧h.get? a=some (PySem.W.instObj C dx) ∧
   ∃ mA,h.Ns1 dx mA∧(∀ f,fe (fs.lookup f) (mA f))∧PySem.Within mA (fs.map (·.1))
 | .own _=>∃ o,h.get? a=some o
 | .xd fs=>∃ mA,h.Ns1 a mA∧∀ f,fe (fs.lookup f) (mA f)
 | .rng lo hi=>∃ t u v,h.get? a=some { cls:=.type "range",data:=.fields #[.int lo t,.int hi u,.int 1 v] }
 | .frz o u=>h.get? a=some o∧bj H h a u
 | .tbl ps=>h.get? a=some { cls:=.none,data:=.fields ps }
 | .met f x=>h.get? a=some (PySem.W.methodObj (.ref f) (.ref x))
 | .ext φ=>φ h∧(∃ o,h.get? a=some o)∧∀ h1 h2:Heap,φ h1→(∀ o,h1.get? a=some o→h2.get? a=some o)→φ h2
def HOk (H:Hp) (h:Heap):Prop:=∀ a o,H a=some o→bj P w H h a o
end
section
variable {P:Program} {w:World} {H H':Hp} {h h':Heap} {a:Addr} {o:HO}
theorem bj.lt (x:bj P w H h a o):a < h.objs.size:=by
 cases o with
 | lst xs=>obtain ⟨_,_,_,_,e⟩:=x;exact Heap.lt_size e
 | tup xs=>obtain ⟨_,_,_,p⟩:=x;exact p.lt
 | dK kvs=>obtain ⟨_,_,_,_,o,_,_,e,_⟩:=x;exact Heap.lt_size e
 | dT kvs=>obtain ⟨_,_,_,_,o,_,_,e,_⟩:=x;exact Heap.lt_size e
 | set S n=>obtain ⟨o,_,_,_,e,_⟩:=x;exact Heap.lt_size e
 | ins C dx fs=>obtain ⟨_,_,_,e,_⟩:=x;exact Heap.lt_size e
 | own y=>obtain ⟨_,e⟩:=x;exact Heap.lt_size e
 | xd fs=>obtain ⟨_,⟨_,_,_,e,_⟩,_⟩:=x;exact Heap.lt_size e
 | rng lo hi=>obtain ⟨_,_,_,e⟩:=x;exact Heap.lt_size e
 | frz ob u=>obtain ⟨e,_⟩:=x;exact Heap.lt_size e
 | tbl ps=>exact Heap.lt_size (show h.get? a=some _ from x)
 | met f y=>exact Heap.lt_size (show h.get? a=some _ from x)
 | ext φ=>obtain ⟨_,⟨_,e⟩,_⟩:=x;exact Heap.lt_size e
theorem Paired.yZ {α β:Type} {F G:α→β→Prop}:∀ {l₁:List α} {l₂:List β},Paired F l₁ l₂→(∀ a b,F a b→G a b)→Paired G l₁ l₂
 | _,_,.nil,_=>.nil
 | _,_,.cons r t,f=>.cons (f _ _ r) (Paired.yZ t f)
theorem bj.fo (x:bj P w H h a o) (k:∀ b u,(b=a∨H b=some (.own a))→h.get? b=some u→h'.get? b=some u)
  (ho:∀ b,H b=some (.own a)→H' b=some (.own a)) (ht:∀ b xs,H b=some (.tup xs)→H' b=some (.tup xs)):bj P w H' h' a o:=by
 induction o with
 | lst xs=>obtain ⟨z,its,n,r,e⟩:=x;exact ⟨z,its,n,r,k _ _ (.inl rfl) e⟩
 | tup xs=>obtain ⟨z,its,r,ob,e,c⟩:=x;exact ⟨z,its,r,ob,k _ _ (.inl rfl) e,c⟩
 | dK kvs=>obtain ⟨z,y,vs,r,ob,es,ep,e,c⟩:=x;exact ⟨z,y,vs,r,ob,es,ep,k _ _ (.inl rfl) e,c⟩
 | dT kvs=>
  obtain ⟨z,y,xs,r,ob,es,ep,e,c⟩:=x
  exact ⟨z,y,xs,Paired.yZ r fun p q z=>⟨z.1,ht _ _ z.2.1,z.2.2⟩,ob,es,ep,k _ _ (.inl rfl) e,c⟩
 | set S n=>obtain ⟨ob,es,ep,t,e,c⟩:=x;exact ⟨ob,es,ep,t,k _ _ (.inl rfl) e,c⟩
 | ins C dx fs=>
  obtain ⟨d,z,ne,e,mA,⟨od,es,ep,e2,c⟩,r⟩:=x
  exact ⟨ho _ d,z,ne,k _ _ (.inl rfl) e,mA,⟨od,es,ep,k _ _ (.inr d) e2,c⟩,r⟩
 | own y=>obtain ⟨ob,e⟩:=x;exact ⟨ob,k _ _ (.inl rfl) e⟩
 | xd fs=>obtain ⟨mA,⟨od,es,ep,e,c⟩,r⟩:=x;exact ⟨mA,⟨od,es,ep,k _ _ (.inl rfl) e,c⟩,r⟩
 | rng lo hi=>obtain ⟨t,u,v,e⟩:=x;exact ⟨t,u,v,k _ _ (.inl rfl) e⟩
 | frz ob u ih=>obtain ⟨e,q⟩:=x;exact ⟨k _ _ (.inl rfl) e,ih q⟩
 | tbl ps=>
  have e:h.get? a=some { cls:=.none,data:=.fields ps }:=x
  show h'.get? a=some { cls:=.none,data:=.fields ps }
  exact k a _ (.inl rfl) e
 | met f y=>
  have e:h.get? a=some (PySem.W.methodObj (.ref f) (.ref y)):=x
  show h'.get? a=some (PySem.W.methodObj (.ref f) (.ref y))
  exact k a _ (.inl rfl) e
 | ext φ=>obtain ⟨p,⟨o,e⟩,st⟩:=x;exact ⟨st _ _ p fun o q=>k _ _ (.inl rfl) q,⟨o,k _ _ (.inl rfl) e⟩,st⟩
theorem HOk.lt (x:HOk P w H h) (e:H a=some o):a < h.objs.size:=(x a o e).lt
theorem HOk.fresh (x:HOk P w H h) (e:h.objs.size≤a):H a=none:=by
 cases q:H a with
 | none=>rfl
 | some u=>exact absurd (Nat.lt_of_lt_of_le (x.lt q) e) (Nat.lt_irrefl _)
theorem HOk.kept (x:HOk P w H h) (k:∀ b u,h.get? b=some u→h'.get? b=some u):HOk P w H h':=fun a o e=>
 (x a o e).fo (fun b u _ q=>k b u q) (fun _ q=>q) fun _ _ q=>q
theorem HOk.laid (x:HOk P w H h) (k:∀ b u,h.get? b=some u→h'.get? b=some u) (hp:h.objs.size≤a) (new:bj P w (upd H a o) h' a o):HOk P w (upd H a o) h':=fun b u e=>by
 have hn:=x.fresh hp
 by_cases hb:b=a
 ·subst hb;rw [bC] at e;cases e;exact new
 ·rw [aB hb] at e
  exact (x b u e).fo (fun c v _ q=>k c v q) (fun c q=>by rw [aB (a9 q hn)];exact q) fun c xs q=>by rw [aB (a9 q hn)];exact q
end
def Rd (H:Hp) (a:Addr) (u:HO):Prop:=H a=some u∨∃ o,H a=some (.frz o u)
theorem Rd.ok {P:Program} {w:World} {H:Hp} {h:Heap} {a:Addr} {u:HO} (r:Rd H a u) (x:HOk P w H h):bj P w H h a u:=by
 rcases r with r | ⟨o,r⟩
 ·exact x a u r
 ·obtain ⟨_,q⟩:=x a _ r
  exact q
def Mut:Option HO→Prop
 | some (.lst _)=>True
 | some (.dK _)=>True
 | some (.dT _)=>True
 | some (.set _ _)=>True
 | some (.ins _ _ _)=>True
 | some (.ext _)=>True
 | _=>False
section
variable {P:Program} {w:World} {H:Hp} {h h':Heap} {x e:Addr} {o':HO}
theorem HOk.write (ok:HOk P w H h) (mu:Mut (H x)) (he:e=x∨H e=some (.own x)) (k:∀ b u,b≠e→h.get? b=some u→h'.get? b=some u) (heo:∃ u,h'.get? e=some u)
  (new:bj P w (upd H x o') h' x o'):HOk P w (upd H x o') h':=fun b u q=>by
 have nown:∀ c y,H c=some (.own y)→c≠x:=fun c y r z=>by subst z;rw [r] at mu;exact mu
 have ntup:∀ c xs,H c=some (.tup xs)→c≠x:=fun c xs r z=>by subst z;rw [r] at mu;exact mu
 by_cases hb:b=x
 ·subst hb;rw [bC] at q;cases q;exact new
 ·rw [aB hb] at q
  by_cases hbe:b=e
  ·have q':H b=some (.own x):=by
    rcases he with z | z
    ·exact absurd (hbe.trans z) hb
    ·rw [hbe];exact z
   rw [q] at q';cases q'
   obtain ⟨v,hv⟩:=heo
   exact ⟨v,by rw [hbe];exact hv⟩
  ·refine (ok b u q).fo (fun c v hc r=>k c v ?_ r) (fun c r=>by rw [aB (nown c b r)];exact r) fun c xs r=>by rw [aB (ntup c xs r)];exact r
   rcases hc with rfl | hc
   ·exact hbe
   ·rintro rfl
    rcases he with z | z
    ·exact nown c b hc z
    ·rw [hc] at z;cases z;exact hb rfl
end
structure Un (fs ex:List Addr) (H H':Hp) (h h':Heap):Prop where
 keep:∀ b o,h.get? b=some o→H b=none→b∉fs→b∉ex→h'.get? b=some o
 slot:∀ b o,h.get? b=some o→H b=none→b∈fs→b∉ex→∃ sl,h'.get? b=some { o with slots:=sl }
 free:∀ b o,h.get? b=some o→H b=none→b∉ex→H' b=none
 there:∀ b o,h.get? b=some o→b∉ex→∃ o',h'.get? b=some o'
 tups:∀ b xs,H b=some (.tup xs)→H' b=some (.tup xs)
 frzs:∀ b o u,H b=some (.frz o u)→H' b=some (.frz o u)
 tbls:∀ b ps,H b=some (.tbl ps)→∃ more,H' b=some (.tbl (ps++more))
section
variable {fs fs' ex ex':List Addr} {H H1 H2:Hp} {h h1 h2 h':Heap} {a x e:Addr} {o:HO}
theorem Un.any (u:Un fs ex H H1 h h1) {b:Addr} {ob:Obj} (q:h.get? b=some ob) (n:H b=none) (hx:b∉ex):∃ sl,h1.get? b=some { ob with slots:=sl }:=by
 by_cases hb:b∈fs
 ·exact u.slot b ob q n hb hx
 ·exact ⟨ob.slots,u.keep b ob q n hb hx⟩
theorem Un.kept (k:∀ b u,h.get? b=some u→h'.get? b=some u):Un fs ex H H h h':=
 ⟨fun b ob q _ _ _=>k b ob q,fun b ob q _ _ _=>⟨ob.slots,k b ob q⟩,fun _ _ _ n _=>n,fun b ob q _=>⟨ob,k b ob q⟩,fun _ _ q=>q,fun _ _ _ q=>q,fun _ ps q=>⟨#[],by rw [q];simp⟩⟩
theorem Un.refl:Un fs ex H H h h:=Un.kept fun _ _ q=>q
theorem Un.laid (k:∀ b u,h.get? b=some u→h'.get? b=some u) (hp:h.objs.size≤a) (hn:H a=none):Un fs ex H (upd H a o) h h' where
 keep:=fun b u q _ _ _=>k b u q
 slot:=fun b u q _ _ _=>⟨u.slots,k b u q⟩
 free:=fun b u q n _=>by rw [aB (Nat.ne_of_lt (Nat.lt_of_lt_of_le (Heap.lt_size q) hp))];exact n
 there:=fun b u q _=>⟨u,k b u q⟩
 tups:=fun b xs q=>by rw [aB (a9 q hn)];exact q
 frzs:=fun b u xs q=>by rw [aB (a9 q hn)];exact q
 tbls:=fun b ps q=>⟨#[],by rw [aB (a9 q hn),q];simp⟩
theorem Un.write (mu:Mut (H x)) (he:e=x∨H e=some (.own x)) (k:∀ b u,b≠e→h.get? b=some u→h'.get? b=some u) (heo:∃ u,h'.get? e=some u):Un fs ex H (upd H x o) h h':=by
 have hx:∀ b,H b=none→b≠x:=fun b n z=>by subst z;rw [n] at mu;exact mu
 have hb:∀ b,H b=none→b≠e:=fun b n z=>by
  subst z
  rcases he with r | r
  ·exact hx b n r
  ·rw [n] at r;cases r
 have hm:∀ b u,H b=some u→¬Mut (some u)→b≠x:=fun b u q nm z=>by subst z;rw [q] at mu;exact nm mu
 refine ⟨fun b u q n _ _=>k b u (hb b n) q,fun b u q n _ _=>⟨u.slots,k b u (hb b n) q⟩,fun b u q n _=>by rw [aB (hx b n)];exact n,fun b u q _=>?_,
  fun b xs q=>by rw [aB (hm b _ q fun z=>z)];exact q,fun b u xs q=>by rw [aB (hm b _ q fun z=>z)];exact q,fun b ps q=>⟨#[],by rw [aB (hm b _ q fun z=>z),q];simp⟩⟩
 by_cases hbe:b=e
 ·subst hbe;exact heo
 ·exact ⟨u,k b u hbe q⟩
end
def trk (h:Heap) (H:Hp):List Addr:=(List.range h.objs.size).filter fun a=>(H a).isSome
def jo (h:Heap) (H:Hp):Heap:=PySem.W.hideAll h (trk h H)
theorem vB (h:Heap) (H:Hp):(jo h H).objs.size=h.objs.size:=PySem.W.hideAll_size _ _
theorem yQ {h:Heap} {H:Hp} {b:Addr} {o:Obj} (e:h.get? b=some o) (n:H b=none):(jo h H).get? b=some o:=
 PySem.W.hideAll_get _ e fun hm=>by
  have q:(H b).isSome=true:=(List.mem_filter.mp hm).2
  rw [n] at q;simp at q
theorem AZ {h:Heap} {H:Hp} {b:Addr} {o:Obj} (e:(jo h H).get? b=some o):h.get? b=some o∧H b=none:=by
 have e':h.get? b=some o:=PySem.W.of_hideAll (trk h H) e
 refine ⟨e',?_⟩
 cases q:H b with
 | none=>rfl
 | some x=>
  have hm:b∈trk h H:=List.mem_filter.mpr ⟨List.mem_range.mpr (Heap.lt_size e'),by simp [q]⟩
  have z:(jo h H).get? b=none:=PySem.W.hideAll_none (trk h H) hm
  rw [z] at e;cases e
def AM (g h:Heap) (L:Addr):List (Addr×Obj):=(List.range h.objs.size).filterMap fun a=>if a=L∨(g.get? a).isSome=true then none else (h.get? a).map fun o=>(a,o)
def rest (g h:Heap) (L d:Addr):List (Addr×Obj):=(AM g h L).filter fun p=>decide (p.1≠d)
structure Mod (K:PySem.W.Frag) (mg:Str→Option Value) (base:Heap):Prop where
 kin:K.In base
 glob:base.Ns mainGlobals mg
 blt:∃ mb,base.Ns builtinsNs mb∧∀ x:Str,x≠"__name__"→mb x=bootBuiltins x
 nolimit:base.NoLimit
structure Cx where
 prog:Program
 w:World
 K:PySem.W.Frag
 mg:Str→Option Value
 base:Heap
 A:Around
 N:List Str
 s₀:Shared
 H₀:Hp
 env:Env
 outer:List Env
 stack:List Env
 ex:List Addr
 fn:Str→Bool
 calm:Bool
 pn:List (Addr×Obj)
 xe:Value→Shared→Prop
def frs (l:List Env):List Addr:=l.filterMap (·.frame)
abbrev Cx.fs (X:Cx):List Addr:=frs X.outer
def Vis (sc:Scope) (x:Str):Prop:=sc.names.lookup x=some .local∨sc.names.lookup x=some .cell∨sc.names.lookup x=some .free
def Loc (sc:Scope) (x:Str):Prop:=sc.names.lookup x=some .local∨sc.names.lookup x=some .cell
def Look (env:Env) (h:Heap) (m:Str→Option Value) (x:Str) (u:Value):Prop:=
 (env.kindOf x=some .local∧m x=some u)∨((env.kindOf x=some .cell∨env.kindOf x=some .free)∧∃ c,env.cells.lookup x=some c∧h.IsCell c (some u))
structure Cx.Ok (X:Cx):Prop where
 mod:Mod X.K X.mg X.base
 kind:X.env.scope.kind=.function
 glob:X.env.globals=mainGlobals
 blt:X.env.builtins=builtinsNs
 above:X.s₀.heap.objs.size≤X.env.locals
 inj:∀ x y c,X.env.cells.lookup x=some c→X.env.cells.lookup y=some c→x=y
 has:∀ x,(X.env.kindOf x=some .cell∨X.env.kindOf x=some .free)→∃ c,X.env.cells.lookup x=some c
 cab:∀ x c,X.fn x=true→X.env.cells.lookup x=some c→X.s₀.heap.objs.size≤c
 hd:X.calm=true→X.A.handled=none
 frames:X.A.frames=some X.stack
 stk:X.stack=X.outer∨(X.stack=X.env :: X.outer∧X.env.frame=some X.env.locals)
 exf:∀ b∈X.ex,b≠X.env.locals∧∀ x c,X.env.cells.lookup x=some c→c≠b
 bs:∀ b o,X.base.get? b=some o→X.s₀.heap.get? b=some o∧X.H₀ b=none
 bsz:X.base.objs.size≤X.s₀.heap.objs.size
 noex:∀ b o,X.base.get? b=some o→b∉X.ex
 exfs:∀ b∈X.ex,b∉X.fs
 iz:X.s₀.heap.FunFrames X.base X.outer
 frf:∀ b∈X.fs,X.H₀ b=none
structure Inv (X:Cx) (pins:List (Addr×Obj)) (σ:List (Option V)) (H:Hp) (s:Shared):Prop where
 ok:X.Ok
 os:s.os=X.s₀.os
 bare:AllBare s.gens
 base:Un X.fs X.ex X.H₀ H X.s₀.heap s.heap
 loc:∃ m,s.heap.Ns X.env.locals m∧∀ (i:Nat) (x:Str) (v:V),X.N[i]?=some x→σ[i]?=some (some v)→Vis X.env.scope x→∃ u,RelV v u∧Look X.env s.heap m x u
 cell:∀ x c,X.env.cells.lookup x=some c→∃ v,s.heap.IsCell c v
 free:H X.env.locals=none
 freeC:∀ x c,X.env.cells.lookup x=some c→H c=none
 pin:∀ p∈X.pn++pins,s.heap.get? p.1=some p.2∧H p.1=none∧p.1≠X.env.locals∧p.1∉X.fs∧∀ v,p.2.data≠.cell v
 hok:HOk X.prog X.w H s.heap
 len:σ.length=X.N.length
section
variable {X:Cx} {pins:List (Addr×Obj)} {σ:List (Option V)} {H H':Hp} {s:Shared} {h':Heap}
theorem Cx.Ok.GK (ok:X.Ok) {b:Addr} {o:Obj} (e:X.base.get? b=some o):b∉X.fs:=fun hb=>by
 have:=(ok.iz.mem hb).1
 rw [e] at this;cases this
theorem Inv.bs (I:Inv X pins σ H s):∀ b o,X.base.get? b=some o→s.heap.get? b=some o∧H b=none:=fun b o e=>
 ⟨I.base.keep b o (I.ok.bs b o e).1 (I.ok.bs b o e).2 (I.ok.GK e) (I.ok.noex b o e),I.base.free b o (I.ok.bs b o e).1 (I.ok.bs b o e).2 (I.ok.noex b o e)⟩
theorem Inv.bk (I:Inv X pins σ H s):∀ b o,X.base.get? b=some o→s.heap.get? b=some o:=fun b o e=>(I.bs b o e).1
theorem Inv.mod (I:Inv X pins σ H s):Mod X.K X.mg X.base:=I.ok.mod
theorem Inv.kIn (I:Inv X pins σ H s):X.K.In s.heap:=I.ok.mod.kin.keeps I.bk
theorem Inv.lt (I:Inv X pins σ H s):X.env.locals < s.heap.objs.size:=let ⟨_,hn,_⟩:=I.loc;hn.lt
theorem Inv.sz (I:Inv X pins σ H s):X.s₀.heap.objs.size≤s.heap.objs.size:=Nat.le_trans I.ok.above (Nat.le_of_lt I.lt)
theorem Inv.BG (I:Inv X pins σ H s) {a:Addr} (h:s.heap.objs.size≤a):a∉X.fs:=fun hb=>by
 obtain ⟨_,o,ho,_⟩:=I.ok.iz.mem hb
 exact absurd (Nat.lt_of_lt_of_le (Heap.lt_size ho) (Nat.le_trans I.sz h)) (Nat.lt_irrefl _)
theorem Inv.cne (I:Inv X pins σ H s):∀ x c,X.env.cells.lookup x=some c→c≠X.env.locals:=fun x c e z=>by
 obtain ⟨v,o,ho,hd⟩:=I.cell x c e
 obtain ⟨m,⟨o',es,ep,ho',hd',_⟩,_⟩:=I.loc
 rw [z,ho'] at ho;cases ho;rw [hd'] at hd;cases hd
theorem Inv.iz (I:Inv X pins σ H s):s.heap.FunFrames X.base X.outer:=by
 have all:∀ (l:List Env),(∀ b∈frs l,b∈X.fs)→X.s₀.heap.FunFrames X.base l→s.heap.FunFrames X.base l:=by
  intro l
  induction l with
  | nil=>intro _ _;trivial
  | cons env r ih=>
   intro hs hl
   obtain ⟨hk,⟨L,o,hf,hn,ho,hd⟩,hr⟩:=hl
   have hL:L∈X.fs:=hs L (by unfold frs;rw [List.filterMap_cons,hf];exact List.mem_cons_self)
   obtain ⟨sl,e⟩:=I.base.slot L o ho (I.ok.frf L hL) hL fun z=>I.ok.exfs L z hL
   exact ⟨hk,⟨L,_,hf,hn,e,hd⟩,ih (fun b hb=>hs b (by unfold frs;rw [List.filterMap_cons,hf];exact List.mem_cons_of_mem _ hb)) hr⟩
 exact all X.outer (fun _ hb=>hb) I.ok.iz
theorem Inv.stack (I:Inv X pins σ H s):s.heap.FunFrames X.base X.stack:=by
 rcases I.ok.stk with e | ⟨e,hf⟩
 ·rw [e];exact I.iz
 ·rw [e]
  obtain ⟨m,hn,_⟩:=I.loc
  refine .cons (by rw [I.ok.kind];decide) hf hn ?_ I.iz
  exact Heap.get?_none_of_le (Nat.le_trans I.ok.bsz I.ok.above)
theorem Inv.nE (I:Inv X pins σ H s):∀ b∈frs X.stack,b∈X.env.locals :: X.fs:=fun b hb=>by
 rcases I.ok.stk with e | ⟨e,hf⟩
 ·rw [e] at hb;exact List.mem_cons_of_mem _ hb
 ·rw [e] at hb
  unfold frs at hb
  rw [List.filterMap_cons,hf] at hb
  exact hb
theorem Inv.tD (I:Inv X pins σ H s):∀ b∈frs X.stack,H b=none:=fun b hb=>by
 rcases List.mem_cons.mp (I.nE b hb) with e | hb
 ·rw [e];exact I.free
 ·obtain ⟨_,o,ho,_⟩:=I.ok.iz.mem hb
  exact I.base.free b o ho (I.ok.frf b hb) fun z=>I.ok.exfs b z hb
theorem Inv.step {g':Array GenState} {t':Nat} {d':Drawn} {ch:List Addr} (I:Inv X pins σ H s)
  (hch:∀ b∈ch,(b∈X.ex∨X.s₀.heap.objs.size≤b)∧b≠X.env.locals∧(∀ x c,X.env.cells.lookup x=some c→c≠b)∧∀ p∈X.pn++pins,p.1≠b)
  (keep:∀ b o,b≠X.env.locals→b∉X.fs→b∉ch→s.heap.get? b=some o→H b=none→h'.get? b=some o)
  (slot:∀ b o,b≠X.env.locals→b∈X.fs→b∉ch→s.heap.get? b=some o→H b=none→∃ sl,h'.get? b=some { o with slots:=sl }) (free:∀ b o,b∉ch→s.heap.get? b=some o→H b=none→H' b=none)
  (there:∀ b o,b∉ch→s.heap.get? b=some o→∃ o',h'.get? b=some o')
  (tups:∀ b xs,H b=some (.tup xs)→H' b=some (.tup xs)) (frzs:∀ b o u,H b=some (.frz o u)→H' b=some (.frz o u)) (tbls:∀ b ps,H b=some (.tbl ps)→∃ more,H' b=some (.tbl (ps++more)))
  (ns:∀ m,s.heap.Ns X.env.locals m→h'.Ns X.env.locals m) (hok:HOk X.prog X.w H' h') (hg:AllBare g') :
  Inv X pins σ H' { s with heap:=h',gens:=g',drawn:=d',toks:=t' }:=by
 have neL:∀ b o,X.s₀.heap.get? b=some o→b≠X.env.locals:=fun b o e=>Nat.ne_of_lt (Nat.lt_of_lt_of_le (Heap.lt_size e) I.ok.above)
 have neC:∀ b o,X.s₀.heap.get? b=some o→b∉X.ex→b∉ch:=fun b o e hx hb=>by
  rcases (hch b hb).1 with z | z
  ·exact hx z
  ·exact absurd (Nat.lt_of_lt_of_le (Heap.lt_size e) z) (Nat.lt_irrefl _)
 have cellK:∀ x c,X.env.cells.lookup x=some c→∀ v,s.heap.IsCell c v→h'.IsCell c v:=fun x c e v ⟨o,ho,hd⟩=>by
  have nch:c∉ch:=fun z=>(hch c z).2.2.1 x c e rfl
  by_cases hc:c∈X.fs
  ·obtain ⟨sl,q⟩:=slot c o (I.cne x c e) hc nch ho (I.freeC x c e)
   exact ⟨_,q,hd⟩
  ·exact ⟨o,keep c o (I.cne x c e) hc nch ho (I.freeC x c e),hd⟩
 refine ⟨I.ok,I.os,hg,⟨fun b o e n hb hx=>?_,fun b o e n hb hx=>?_,fun b o e n hx=>?_,fun b o e hx=>?_,fun b xs e=>tups b xs (I.base.tups b xs e),fun b o xs e=>frzs b o xs (I.base.frzs b o xs e),fun b ps e=>?_⟩,?_,fun x c e=>?_,?_,fun x c e=>?_,fun p hp=>?_,hok,I.len⟩
 ·exact keep b o (neL b o e) hb (neC b o e hx) (I.base.keep b o e n hb hx) (I.base.free b o e n hx)
 ·obtain ⟨sl,e1⟩:=I.base.slot b o e n hb hx
  obtain ⟨sl',e2⟩:=slot b _ (neL b o e) hb (neC b o e hx) e1 (I.base.free b o e n hx)
  exact ⟨sl',e2⟩
 ·obtain ⟨o',e1⟩:=I.base.there b o e hx
  exact free b o' (neC b o e hx) e1 (I.base.free b o e n hx)
 ·obtain ⟨o',e1⟩:=I.base.there b o e hx
  exact there b o' (neC b o e hx) e1
 ·obtain ⟨m1,e1⟩:=I.base.tbls b ps e
  obtain ⟨m2,e2⟩:=tbls b _ e1
  exact ⟨m1++m2,by rw [e2,Array.append_assoc]⟩
 ·obtain ⟨m,hn,hl⟩:=I.loc
  refine ⟨m,ns m hn,fun i x v e1 e2 e3=>?_⟩
  obtain ⟨u,r,l⟩:=hl i x v e1 e2 e3
  refine ⟨u,r,?_⟩
  rcases l with l | ⟨k,c,e,z⟩
  ·exact .inl l
  ·exact .inr ⟨k,c,e,cellK x c e _ z⟩
 ·obtain ⟨v,z⟩:=I.cell x c e
  exact ⟨v,cellK x c e v z⟩
 ·obtain ⟨m,⟨o,_,_,ho,_⟩,_⟩:=I.loc
  exact free _ o (fun z=>(hch _ z).2.1 rfl) ho I.free
 ·obtain ⟨v,o,ho,hd⟩:=I.cell x c e
  exact free c o (fun z=>(hch c z).2.2.1 x c e rfl) ho (I.freeC x c e)
 ·obtain ⟨e,n,ne,nf,d⟩:=I.pin p hp
  have nch:p.1∉ch:=fun z=>(hch p.1 z).2.2.2 p hp rfl
  exact ⟨keep p.1 p.2 ne nf nch e n,free p.1 p.2 nch e n,ne,nf,d⟩
theorem Inv.un {t':Nat} (I:Inv X pins σ H s) (u:Un X.fs [] H H' s.heap h') (hok:HOk X.prog X.w H' h'):Inv X pins σ H' { s with heap:=h',toks:=t' }:=by
 obtain ⟨m,⟨o,es,ep,ho,r⟩,_⟩:=id I.loc
 obtain ⟨sl,hL⟩:=u.any ho I.free (by simp)
 exact I.step (g':=s.gens) (d':=s.drawn) (ch:=[]) (fun _ z=>nomatch z) (fun b o _ hb _ e n=>u.keep b o e n hb (by simp)) (fun b o _ hb _ e n=>u.slot b o e n hb (by simp)) (fun b o _ e n=>u.free b o e n (by simp)) (fun b o _ e=>u.there b o e (by simp)) u.tups u.frzs u.tbls (fun m' hm=>by
  obtain ⟨o',es',ep',ho',r'⟩:=hm
  rw [ho] at ho';cases ho'
  exact ⟨_,es',ep',hL,r'⟩) hok I.bare
theorem Inv.call {g':Array GenState} {t':Nat} {d':Drawn} {ch:List Addr} (I:Inv X pins σ H s) (u:Un (frs X.stack) ch H H' s.heap h') (hok:HOk X.prog X.w H' h') (hg:AllBare g')
  (hch:∀ b∈ch,(b∈X.ex∨X.s₀.heap.objs.size≤b)∧b≠X.env.locals∧(∀ x c,X.env.cells.lookup x=some c→c≠b)∧∀ p∈X.pn++pins,p.1≠b) :
  Inv X pins σ H' { s with heap:=h',gens:=g',drawn:=d',toks:=t' }:=by
 obtain ⟨m,⟨o,es,ep,ho,r⟩,_⟩:=id I.loc
 obtain ⟨sl,hL⟩:=u.any ho I.free fun z=>(hch _ z).2.1 rfl
 exact I.step (ch:=ch) hch (fun b o hL hb hc e n=>u.keep b o e n (fun z=>(List.mem_cons.mp (I.nE b z)).elim hL hb) hc) (fun b o _ _ hc e n=>u.any e n hc) (fun b o hc e n=>u.free b o e n hc) (fun b o hc e=>u.there b o e hc) u.tups u.frzs u.tbls (fun m' hm=>by
  obtain ⟨o',es',ep',ho',r'⟩:=hm
  rw [ho] at ho';cases ho'
  exact ⟨_,es',ep',hL,r'⟩) hok hg
theorem Inv.turned {t':Nat} {it:Addr} (I:Inv X pins σ H s) (k:∀ b o,b≠it→s.heap.get? b=some o→h'.get? b=some o) (hn:H it=none) (hL:it≠X.env.locals)
  (h1:it∈X.ex∨X.s₀.heap.objs.size≤it) (h2:∀ x c,X.env.cells.lookup x=some c→c≠it) (h3:∀ p∈X.pn++pins,p.1≠it):Inv X pins σ H { s with heap:=h',toks:=t' }:=by
 have nit:∀ b u,H b=some u→b≠it:=fun b u e z=>by rw [z,hn] at e;cases e
 refine I.step (g':=s.gens) (d':=s.drawn) (ch:=[it]) (fun b hb=>?_) (fun b o _ _ hc e _=>k b o (fun z=>hc (by simp [z])) e) (fun b o _ _ hc e _=>⟨o.slots,k b o (fun z=>hc (by simp [z])) e⟩) (fun _ _ _ _ n=>n)
  (fun b o hc e=>⟨o,k b o (fun z=>hc (by simp [z])) e⟩) (fun _ _ e=>e) (fun _ _ _ e=>e) (fun b ps e=>⟨#[],by rw [e];simp⟩) (fun m hm=>?_) (fun b u e=>?_) I.bare
 ·have e:b=it:=by simpa using hb
  subst e
  exact ⟨h1,hL,h2,h3⟩
 ·obtain ⟨o,es,ep,ho,r⟩:=hm
  exact ⟨o,es,ep,k _ o (Ne.symm hL) ho,r⟩
 ·refine (I.hok b u e).fo (fun c v hc q=>k c v ?_ q) (fun _ q=>q) fun _ _ q=>q
  rcases hc with z | z
  ·rw [z];exact nit b u e
  ·exact nit c _ z
theorem Inv.tok (I:Inv X pins σ H s) (t:Nat):Inv X pins σ H { s with toks:=t }:=I.un (h':=s.heap) (t':=t) Un.refl I.hok
theorem Inv.kept {t':Nat} (I:Inv X pins σ H s) (k:∀ b u,s.heap.get? b=some u→h'.get? b=some u):Inv X pins σ H { s with heap:=h',toks:=t' }:=I.un (Un.kept k) (I.hok.kept k)
theorem Inv.laid {a:Addr} {o:HO} {t':Nat} (I:Inv X pins σ H s) (k:∀ b u,s.heap.get? b=some u→h'.get? b=some u) (hp:s.heap.objs.size≤a) (new:bj X.prog X.w (upd H a o) h' a o) :
  Inv X pins σ (upd H a o) { s with heap:=h',toks:=t' }:=I.un (Un.laid k hp (I.hok.fresh hp)) (I.hok.laid k hp new)
theorem Inv.write {x e:Addr} {o:HO} {t':Nat} (I:Inv X pins σ H s) (mu:Mut (H x)) (he:e=x∨H e=some (.own x)) (k:∀ b u,b≠e→s.heap.get? b=some u→h'.get? b=some u) (heo:∃ u,h'.get? e=some u)
  (new:bj X.prog X.w (upd H x o) h' x o):Inv X pins σ (upd H x o) { s with heap:=h',toks:=t' }:=I.un (Un.write mu he k heo) (I.hok.write mu he k heo new)
theorem Inv.n_ {pins':List (Addr×Obj)} (I:Inv X pins σ H s) (h:∀ p∈pins',s.heap.get? p.1=some p.2∧H p.1=none∧p.1≠X.env.locals∧p.1∉X.fs∧∀ v,p.2.data≠.cell v):Inv X pins' σ H s:=
 ⟨I.ok,I.os,I.bare,I.base,I.loc,I.cell,I.free,I.freeC,fun p hp=>(List.mem_append.mp hp).elim (fun z=>I.pin p (List.mem_append_left _ z)) (h p),I.hok,I.len⟩
theorem rY {N:List Str} (hN:N.Nodup) {i j:Nat} {x:Str} (a:N[i]?=some x) (b:N[j]?=some x):i=j:=by
 obtain ⟨h1,e1⟩:=List.getElem?_eq_some_iff.mp a
 obtain ⟨h2,e2⟩:=List.getElem?_eq_some_iff.mp b
 exact (List.getElem_inj hN).mp (e1.trans e2.symm)
theorem vN {M:Model} {A:Around} {E:Value→Shared→Prop} {i:Nat} {x:Str} {v:V} {u:Value} {Q:Unit→Shared→Prop} (I:Inv X pins σ H s) (hN:X.N.Nodup) (hi:X.N[i]?=some x) (hx:Loc X.env.scope x) (r:RelV v u)
  (h:∀ s',Inv X pins (σ.set i (some v)) H s'→(∃ a,Heap.SameBut a s.heap s'.heap∧(a=X.env.locals∨X.env.cells.lookup x=some a))→Q () s') (hf:X.fn x=true∨X.env.scope.names.lookup x=some .local:=by first | exact .inl rfl | exact .inr rfl | assumption):wpAny M A (storeName X.env x u) Q E s:=by
 obtain ⟨m,hn,hl⟩:=id I.loc
 have hcls:(X.env.scope.kind == .class || (X.env.scope.kind == .module && X.env.locals != X.env.globals))=false:=by rw [I.ok.kind];rfl
 have hiσ:i < σ.length:=by rw [I.len];exact (List.getElem?_eq_some_iff.mp hi).1
 have cne:=I.cne
 have tracked:∀ {a:Addr} {h':Heap},(∃ o,s.heap.get? a=some o∧H a=none)→Heap.SameBut a s.heap h'→HOk X.prog X.w H h':=fun {a h'} ha hs b ob e=>by
  obtain ⟨_,_,hfree⟩:=ha
  refine (I.hok b ob e).fo (fun c w' hc q=>(hs.2 c ?_).trans q) (fun _ q=>q) fun _ _ q=>q
  rintro rfl
  rcases hc with rfl | hc
  ·rw [hfree] at e;cases e
  ·rw [hfree] at hc;cases hc
 rcases hx with hk | hk
 ·refine wpAny_storeName_local hk hn (fun h' hn' hs=>?_) hcls
  obtain ⟨oL,_,_,hoL,_⟩:=id hn
  refine h _ ⟨I.ok,I.os,I.bare,⟨fun b o e n hb hx=>?_,fun b o e n hb hx=>?_,I.base.free,fun b o e hx=>?_,I.base.tups,I.base.frzs,I.base.tbls⟩,⟨_,hn',fun j y v' e1 e2 e3=>?_⟩,fun y c e=>?_,I.free,I.freeC,fun p hp=>?_,tracked ⟨oL,hoL,I.free⟩ hs,by simpa using I.len⟩ ⟨_,hs,.inl rfl⟩
  ·exact (hs.2 b (Nat.ne_of_lt (Nat.lt_of_lt_of_le (Heap.lt_size e) I.ok.above))).trans (I.base.keep b o e n hb hx)
  ·obtain ⟨sl,e1⟩:=I.base.slot b o e n hb hx
   exact ⟨sl,(hs.2 b (Nat.ne_of_lt (Nat.lt_of_lt_of_le (Heap.lt_size e) I.ok.above))).trans e1⟩
  ·obtain ⟨o',e1⟩:=I.base.there b o e hx
   exact ⟨o',(hs.2 b (Nat.ne_of_lt (Nat.lt_of_lt_of_le (Heap.lt_size e) I.ok.above))).trans e1⟩
  ·by_cases hj:j=i
   ·subst hj
    rw [hi] at e1;cases e1
    rw [List.getElem?_set_self hiσ] at e2
    cases e2
    exact ⟨u,r,.inl ⟨hk,by simp⟩⟩
   ·rw [List.getElem?_set_ne (Ne.symm hj)] at e2
    obtain ⟨u',r',q⟩:=hl j y v' e1 e2 e3
    refine ⟨u',r',?_⟩
    rcases q with ⟨k,e⟩ | ⟨k,c,e,z⟩
    ·refine .inl ⟨k,?_⟩
     have:y≠x:=fun e=>hj (rY hN e1 (e ▸ hi))
     simp [this,e]
    ·exact .inr ⟨k,c,e,z.sameBut hs (cne y c e)⟩
  ·obtain ⟨w',z⟩:=I.cell y c e
   exact ⟨w',z.sameBut hs (cne y c e)⟩
  ·obtain ⟨e,n,ne,nf,d⟩:=I.pin p hp
   exact ⟨(hs.2 p.1 ne).trans e,n,ne,nf,d⟩
 ·have hfn:X.fn x=true:=by
   rcases hf with z | z
   ·exact z
   ·rw [z] at hk;cases hk
  obtain ⟨c,hc⟩:=I.ok.has x (.inl hk)
  obtain ⟨w',z⟩:=I.cell x c hc
  refine wpAny_storeName_cell I.ok.kind hk hc z (fun h' hc' hs=>?_)
  obtain ⟨oc,hoc,hocd⟩:=id z
  refine h { s with heap:=h' } ⟨I.ok,I.os,I.bare,⟨fun b o e n hb hx=>?_,fun b o e n hb hx=>?_,I.base.free,fun b o e hx=>?_,I.base.tups,I.base.frzs,I.base.tbls⟩,⟨m,hn.sameBut hs (Ne.symm (cne x c hc)),fun j y v' e1 e2 e3=>?_⟩,fun y c' e=>?_,I.free,I.freeC,fun p hp=>?_,tracked ⟨oc,hoc,I.freeC x c hc⟩ hs,by simpa using I.len⟩ ⟨c,hs,.inr hc⟩
  ·exact (hs.2 b (Nat.ne_of_lt (Nat.lt_of_lt_of_le (Heap.lt_size e) (I.ok.cab x c hfn hc)))).trans (I.base.keep b o e n hb hx)
  ·obtain ⟨sl,e1⟩:=I.base.slot b o e n hb hx
   exact ⟨sl,(hs.2 b (Nat.ne_of_lt (Nat.lt_of_lt_of_le (Heap.lt_size e) (I.ok.cab x c hfn hc)))).trans e1⟩
  ·obtain ⟨o',e1⟩:=I.base.there b o e hx
   exact ⟨o',(hs.2 b (Nat.ne_of_lt (Nat.lt_of_lt_of_le (Heap.lt_size e) (I.ok.cab x c hfn hc)))).trans e1⟩
  ·by_cases hj:j=i
   ·subst hj
    rw [hi] at e1;cases e1
    rw [List.getElem?_set_self hiσ] at e2
    cases e2
    exact ⟨u,r,.inr ⟨.inl hk,c,hc,hc'⟩⟩
   ·rw [List.getElem?_set_ne (Ne.symm hj)] at e2
    obtain ⟨u',r',q⟩:=hl j y v' e1 e2 e3
    refine ⟨u',r',?_⟩
    rcases q with q | ⟨k,c',e,z'⟩
    ·exact .inl q
    ·refine .inr ⟨k,c',e,z'.sameBut hs ?_⟩
     rintro rfl
     exact hj (rY hN e1 (I.ok.inj _ _ _ e hc ▸ hi))
  ·by_cases hcc:c'=c
   ·subst hcc;exact ⟨_,hc'⟩
   ·obtain ⟨w2,z2⟩:=I.cell y c' e
    exact ⟨w2,z2.sameBut hs hcc⟩
  ·obtain ⟨e,n,ne,nf,d⟩:=I.pin p hp
   refine ⟨(hs.2 p.1 ?_).trans e,n,ne,nf,d⟩
   intro q
   rw [q,hoc] at e
   have q':oc=p.2:=Option.some.inj e
   exact d w' (by rw [← q'];exact hocd)
theorem mO {M:Model} {A:Around} {E:Value→Shared→Prop} {i:Nat} {x:Str} {v:V} {u:Value} {Q:Unit→Shared→Prop} (I:Inv X pins σ H s) (hN:X.N.Nodup) (hi:X.N[i]?=some x) (hx:Loc X.env.scope x) (r:RelV v u)
  (h:∀ s',Inv X pins (σ.set i (some v)) H s'→Q () s') (hf:X.fn x=true∨X.env.scope.names.lookup x=some .local:=by first | exact .inl rfl | exact .inr rfl | assumption):wpAny M A (storeName X.env x u) Q E s:=
 vN I hN hi hx r (fun s' I' _=>h s' I') hf
theorem Inv.Gd {s':Shared} {ch:List Addr} (I:Inv X pins σ H s) (ho:s'.os=s.os) (u:Un (frs X.stack) ch H H' s.heap s'.heap) (hok:HOk X.prog X.w H' s'.heap) (hg:AllBare s'.gens)
  (hch:∀ b∈ch,(b∈X.ex∨X.s₀.heap.objs.size≤b)∧b≠X.env.locals∧(∀ x c,X.env.cells.lookup x=some c→c≠b)∧∀ p∈X.pn++pins,p.1≠b):Inv X pins σ H' s':=by
 obtain ⟨h',g',d',t',o'⟩:=s'
 have e:o'=s.os:=ho
 subst e
 exact I.call (g':=g') (t':=t') (d':=d') u hok hg hch
end
abbrev XK:=Value→Option Addr→Hp→Prop
abbrev St:=List (Option V)
abbrev VK:=V→Hp→Prop
abbrev TE:=St→Hp→VK→Prop
abbrev TT:=St→Hp→(Bool→Hp→Prop)→Prop
abbrev TA:=St→Hp→(List V→Hp→Prop)→Prop
structure Ends where
 nx:St→Hp→Prop
 rt:VK
 bk:St→Hp→Prop:=fun _ _=>False
 ct:St→Hp→Prop:=fun _ _=>False
abbrev TS:=Ends→St→Hp→Prop
def EP (X:Cx) (pins:List (Addr×Obj)) (σ:St) (Q:VK) (u:Value) (s':Shared):Prop:=∃ v H',Inv X pins σ H' s'∧RelV v u∧Q v H'
def TP (X:Cx) (pins:List (Addr×Obj)) (σ:St) (Q:Bool→Hp→Prop) (b:Bool) (s':Shared):Prop:=∃ H',Inv X pins σ H' s'∧Q b H'
def AP (X:Cx) (pins:List (Addr×Obj)) (σ:St) (Q:List V→Hp→Prop) (us:List Value) (s':Shared):Prop:=∃ vs H',Inv X pins σ H' s'∧Vals vs us∧Q vs H'
def SP (X:Cx) (pins:List (Addr×Obj)) (D:Ends) (f:Flow) (s':Shared):Prop:=
 match f with
 | .next=>∃ σ' H',Inv X pins σ' H' s'∧D.nx σ' H'
 | .brk=>∃ σ' H',Inv X pins σ' H' s'∧D.bk σ' H'
 | .cont=>∃ σ' H',Inv X pins σ' H' s'∧D.ct σ' H'
 | .ret u=>∃ v σ' H',Inv X pins σ' H' s'∧RelV v u∧D.rt v H'
def PE (X:Cx) (e:Expr) (t:TE):Prop:=
 ∀ (pins:List (Addr×Obj)) (s:Shared) (σ:St) (H:Hp) (Q:VK),Inv X pins σ H s→t σ H Q→wpAny (model X.prog X.w) X.A (eval e X.env) (EP X pins σ Q) X.xe s
def PT (X:Cx) (e:Expr) (t:TT):Prop:=
 ∀ (pins:List (Addr×Obj)) (s:Shared) (σ:St) (H:Hp) (Q:Bool→Hp→Prop),Inv X pins σ H s→t σ H Q→wpAny (model X.prog X.w) X.A (isTrue e X.env (eval e X.env)) (TP X pins σ Q) X.xe s
def PW (X:Cx) (e:Expr) (t:TT):Prop:=
 ∀ (whole:Sem Value) (pins:List (Addr×Obj)) (s:Shared) (σ:St) (H:Hp) (Q:Bool→Hp→Prop),Inv X pins σ H s→t σ H Q→wpAny (model X.prog X.w) X.A (isTrue e X.env whole) (TP X pins σ Q) X.xe s
theorem PW.pt {X:Cx} {e:Expr} {t:TT} (h:PW X e t):PT X e t:=h _
def PA (X:Cx) (es:List Expr) (t:TA):Prop:=
 ∀ (pos:Pos) (pins:List (Addr×Obj)) (s:Shared) (σ:St) (H:Hp) (Q:List V→Hp→Prop),Inv X pins σ H s→t σ H Q→wpAny (model X.prog X.w) X.A (spliced (backTo pos (starEach es X.env))) (AP X pins σ Q) X.xe s
def PS (X:Cx) (st:Stmt) (t:TS):Prop:=
 ∀ (pins:List (Addr×Obj)) (s:Shared) (σ:St) (H:Hp) (D:Ends),Inv X pins σ H s→t D σ H→wpAny (model X.prog X.w) X.A (exec st X.env) (SP X pins D) X.xe s
def PSs (X:Cx) (st:List Stmt) (t:TS):Prop:=
 ∀ (pins:List (Addr×Obj)) (s:Shared) (σ:St) (H:Hp) (D:Ends),Inv X pins σ H s→t D σ H→wpAny (model X.prog X.w) X.A (execs st X.env) (SP X pins D) X.xe s
theorem thn {α:Type} {t:Sem α} {Q Q':α→Shared→Prop} {M:Model} {A:Around} {E:Value→Shared→Prop} {s:Shared} (h:wpAny M A t Q E s) (hQ:∀ a s,Q a s→Q' a s):wpAny M A t Q' E s:=wpAny_mono h hQ fun _ _ x=>x
section
variable {X:Cx}
def Hb (i:Nat):TE:=fun σ H Q=>∃ v,σ[i]?=some (some v)∧Q v H
def tC (v:V):TE:=fun _ H Q=>Q v H
theorem BX {i:Nat} {x:Str} {pos:Pos} (hN:X.N[i]?=some x) (hv:Vis X.env.scope x) (hd:(x == ("__debug__":Str))=false:=by decide) (hcd:(x == ("__classdict__":Str))=false:=by decide):PE X (.Name x pos) (Hb i):=by
 intro pins s σ H Q I h
 obtain ⟨v,e,h⟩:=h
 obtain ⟨m,hn,hl⟩:=I.loc
 obtain ⟨u,r,l⟩:=hl i x v hN e hv
 have fin:EP X pins σ Q u s:=⟨v,H,I,r,h⟩
 rcases l with ⟨hk,hm⟩ | ⟨hk,c,hc,hcell⟩
 ·exact wpAny_Name (wpAny_loadName_local I.ok.kind hk hn hm fin) hd
 ·rcases hk with hk | hk
  ·exact wpAny_Name (wpAny_loadName_cell I.ok.kind hk hc hcell fin) hd
  ·exact wpAny_Name (wpAny_loadName_free I.ok.kind hk hc hcell fin hcd) hd
theorem B1 {i j pos}:PE X (.Constant (.int i) j pos) (tC (.int i)):=fun _ _ _ H _ I h=>wpAny_Constant_int ⟨.int i,H,I.tok _,⟨_,rfl⟩,h⟩
theorem FE {b j pos}:PE X (.Constant (.bool b) j pos) (tC (.bl b)):=fun _ _ _ H _ I h=>Constant_bool ⟨.bl b,H,I,rfl,h⟩
theorem Ek {j pos}:PE X (.Constant .none j pos) (tC .non):=fun _ _ _ H _ I h=>Constant_none ⟨.non,H,I,rfl,h⟩
theorem CL {x j pos}:PE X (.Constant (.str x) j pos) (tC (.str x)):=fun _ _ _ H _ I h=>Calls.Constant_str ⟨.str x,H,I.tok _,⟨_,rfl⟩,h⟩
def Gl (X:Cx) (x:Str):Prop:=X.env.kindOf x=some .globalImplicit
theorem Ae {E:Value→Shared→Prop} {pins:List (Addr×Obj)} {s:Shared} {σ:St} {H:Hp} {x:Str} {u:Value} {pos:Pos} {Q:Value→Shared→Prop} (I:Inv X pins σ H s) (hg:Gl X x) (hm:X.mg x=some u) (h:Q u s)
  (hd:(x == ("__debug__":Str))=false:=by decide):wpAny (model X.prog X.w) X.A (eval (.Name x pos) X.env) Q E s:=
 Calls.Name_function_global I.ok.kind hg (Calls.loadGlobal_global (by rw [I.ok.glob];exact I.mod.glob.keeps I.bk) hm h) hd
theorem cT {E:Value→Shared→Prop} {pins:List (Addr×Obj)} {s:Shared} {σ:St} {H:Hp} {x:Str} {u:Value} {pos:Pos} {Q:Value→Shared→Prop} (I:Inv X pins σ H s) (hg:Gl X x) (hm:X.mg x=none) (hv:bootBuiltins x=some u) (h:Q u s)
  (hn:x≠"__name__":=by decide) (hd:(x == ("__debug__":Str))=false:=by decide):wpAny (model X.prog X.w) X.A (eval (.Name x pos) X.env) Q E s:=by
 obtain ⟨mb,h1,h2⟩:=I.mod.blt
 exact Calls.Name_function_global I.ok.kind hg (Calls.loadGlobal_builtin (by rw [I.ok.glob];exact I.mod.glob.keeps I.bk) hm (by rw [I.ok.blt];exact h1.keeps I.bk) ((h2 x hn).trans hv) h) hd
theorem AK {x:Str} {v:V} {u:Value} {pos:Pos} (hg:Gl X x) (hm:X.mg x=none) (hv:bootBuiltins x=some u) (r:RelV v u) (hn:x≠"__name__":=by decide) (hd:(x == ("__debug__":Str))=false:=by decide):PE X (.Name x pos) (tC v):=
 fun _ _ _ H _ I h=>cT I hg hm hv ⟨v,H,I,r,h⟩ hn hd
variable {a b:Expr} {ta tb:TE} {pos:Pos}
variable {tA tB':TT} {rest:List Expr}
def tOr (t u:TT):TT:=fun σ H Q=>t σ H fun c H1=>if c=true then Q true H1 else u σ H1 Q
def G2 (t:TT):TT:=fun σ H Q=>t σ H fun c H1=>Q (!c) H1
theorem Cp (ha:PT X a tA):PW X (.BoolOp .Or [a] pos) tA:=by
 intro wh pins s σ H Q I h
 refine isTrue_or (thn (ha pins s σ H Q I h) fun c s1 e=>?_)
 cases c with
 | false=>exact isTrue_or_nil e
 | true=>exact e
theorem ET (ha:PT X a tA) (hb:PW X (.BoolOp .Or (b :: rest) pos) tB'):PW X (.BoolOp .Or (a :: b :: rest) pos) (tOr tA tB'):=by
 intro wh pins s σ H Q I h
 refine isTrue_or (thn (ha pins s σ H _ I h) fun c s1 ⟨H1,I1,q1⟩=>?_)
 cases c with
 | true=>exact ⟨H1,I1,q1⟩
 | false=>exact hb wh pins s1 σ H1 Q I1 q1
theorem CB (ha:PT X a tA):PT X (.UnaryOp .Not a pos) (G2 tA):=by
 intro pins s σ H Q I h
 exact isTrue_not (ha pins s σ H (fun c H1=>Q (!c) H1) I h)
def FF (ta tb:TE):TE:=fun σ H Q=>ta σ H fun x H1=>∃ c,x=.bl c∧if c=true then tb σ H1 Q else Q (.bl false) H1
def G6 (ta tb:TE):TE:=fun σ H Q=>ta σ H fun x H1=>∃ c,x=.bl c∧if c=true then Q (.bl true) H1 else tb σ H1 Q
def Fq (ta:TE):TE:=fun σ H Q=>ta σ H fun x H1=>∃ c,x=.bl c∧Q (.bl (!c)) H1
theorem Ce {op} {t:TE} (h:PE X a t):PE X (.BoolOp op [a] pos) t:=fun pins s σ H Q I hw=>BoolOp_one (h pins s σ H Q I hw)
theorem C5 (ha:PE X a ta) (hb:PE X (.BoolOp .And (b :: rest) pos) tb):PE X (.BoolOp .And (a :: b :: rest) pos) (FF ta tb):=by
 intro pins s σ H Q I h
 refine BoolOp_and (thn (ha pins s σ H _ I h) fun v s1 ⟨x,H1,I1,r1,q1⟩=>?_)
 obtain ⟨c,rfl,q1⟩:=q1
 cases r1
 refine wpAny_truthy_bool ?_
 cases c with
 | true=>exact hb pins s1 σ H1 Q I1 q1
 | false=>exact ⟨.bl false,H1,I1,rfl,q1⟩
theorem ER (ha:PE X a ta) (hb:PE X (.BoolOp .Or (b :: rest) pos) tb):PE X (.BoolOp .Or (a :: b :: rest) pos) (G6 ta tb):=by
 intro pins s σ H Q I h
 refine BoolOp_or (thn (ha pins s σ H _ I h) fun v s1 ⟨x,H1,I1,r1,q1⟩=>?_)
 obtain ⟨c,rfl,q1⟩:=q1
 cases r1
 refine wpAny_truthy_bool ?_
 cases c with
 | false=>exact hb pins s1 σ H1 Q I1 q1
 | true=>exact ⟨.bl true,H1,I1,rfl,q1⟩
theorem BM (ha:PE X a ta):PE X (.UnaryOp .Not a pos) (Fq ta):=by
 intro pins s σ H Q I h
 refine UnaryOp_ (thn (ha pins s σ H _ I h) fun v s1 ⟨x,H1,I1,r1,q1⟩=>?_)
 obtain ⟨c,rfl,q1⟩:=q1
 cases r1
 exact not_of (wpAny_truthy_bool ⟨.bl (!c),H1,I1,rfl,q1⟩)
end
def SqL (K:PySem.W.Frag) (H:Hp) (a:Addr) (xs:List V):Prop:=
 Rd H a (.lst xs) ∨
  ∃ (o:Obj) (its:Array Value) (n:Nat),K.lookup a=some o∧o.cls=.type "list"∧o.dict=none∧o.data=.seq its n∧its.size≤sizeLine∧Vals xs its.toList
def SqT (K:PySem.W.Frag) (H:Hp) (a:Addr) (xs:List V):Prop:=
 Rd H a (.tup xs) ∨
  ∃ (o:Obj) (its:Array Value) (n:Nat),K.lookup a=some o∧o.cls=.type "tuple"∧o.data=.seq its n∧its.size≤sizeLine∧Vals xs its.toList
def GC:Value→Option V
 | .none=>some .non
 | .bool b=>some (.bl b)
 | .int i _=>some (.int i)
 | .str x _=>some (.str x)
 | .bytes b _=>some (.byt b)
 | .float b _=>some (.flt b)
 | .ref a=>some (.ref a)
 | .type n=>some (.ty n)
 | _=>none
theorem RelV.abs {x:V} {u:Value} (r:RelV x u):GC u=some x:=by
 cases x with
 | non=>cases r;rfl
 | bl _=>cases r;rfl
 | int _=>obtain ⟨t,rfl⟩:=r;rfl
 | str _=>obtain ⟨t,rfl⟩:=r;rfl
 | byt _=>obtain ⟨t,rfl⟩:=r;rfl
 | flt _=>obtain ⟨t,rfl⟩:=r;rfl
 | ref _=>cases r;rfl
 | ty _=>cases r;rfl
theorem RelV.inj {x y:V} {u:Value} (r:RelV x u) (q:RelV y u):x=y:=Option.some.inj (r.abs.symm.trans q.abs)
theorem Vals.inj:∀ {xs ys:List V} {us:List Value},Vals xs us→Vals ys us→xs=ys
 | _,_,_,.nil,.nil=>rfl
 | _,_,_,.cons r t,.cons r' t'=>by rw [r.inj r',Vals.inj t t']
section
variable {X:Cx} {pins:List (Addr×Obj)} {σ:St} {H:Hp} {s:Shared} {a:Addr} {xs ys:List V}
theorem SqL.of {K:PySem.W.Frag} (h:H a=some (.lst xs)):SqL K H a xs:=.inl (.inl h)
theorem SqT.of {K:PySem.W.Frag} (h:H a=some (.tup xs)):SqT K H a xs:=.inl (.inl h)
theorem Inv.list (I:Inv X pins σ H s) (h:SqL X.K H a xs):∃ its:List Value,Vals xs its∧PlainL s.heap a its.toArray∧xs.length≤sizeLine:=by
 rcases h with h | ⟨o,its,n,hk,hc,hd,hs,hz,r⟩
 ·obtain ⟨z,its,n,r,e⟩:=h.ok I.hok
  exact ⟨its,r,⟨_,n,e,rfl,rfl,rfl⟩,z⟩
 ·refine ⟨its.toList,r,⟨o,n,I.kIn a o hk,hc,hd,by simpa using hs⟩,?_⟩
  have e:=r.length
  simp only [Array.length_toList] at e
  omega
theorem Inv.tuple (I:Inv X pins σ H s) (h:SqT X.K H a xs):∃ its:List Value,Vals xs its∧IsTup s.heap a its.toArray∧xs.length≤sizeLine:=by
 rcases h with h | ⟨o,its,n,hk,hc,hs,hz,r⟩
 ·obtain ⟨z,its,r,p⟩:=h.ok I.hok
  exact ⟨its,r,p,z⟩
 ·refine ⟨its.toList,r,⟨o,I.kIn a o hk,hc,n,by simpa using hs⟩,?_⟩
  have e:=r.length
  simp only [Array.length_toList] at e
  omega
theorem Inv.qY (I:Inv X pins σ H s) (h:SqL X.K H a xs) (h':SqL X.K H a ys):xs=ys:=by
 obtain ⟨its,r,⟨o,n,e,_,_,d⟩,_⟩:=I.list h
 obtain ⟨its',r',⟨o',n',e',_,_,d'⟩,_⟩:=I.list h'
 rw [e] at e';cases e'
 rw [d] at d'
 injection d' with d1 _
 have:its=its':=by simpa using congrArg Array.toList d1
 subst this
 exact r.inj r'
theorem Inv.vv (I:Inv X pins σ H s) (h:SqT X.K H a xs) (h':SqT X.K H a ys):xs=ys:=by
 obtain ⟨its,r,⟨o,e,_,n,d⟩,_⟩:=I.tuple h
 obtain ⟨its',r',⟨o',e',_,n',d'⟩,_⟩:=I.tuple h'
 rw [e] at e';cases e'
 rw [d] at d'
 injection d' with d1 _
 have:its=its':=by simpa using congrArg Array.toList d1
 subst this
 exact r.inj r'
end
abbrev Cx.iY (X:Cx) (E:Value→Shared→Prop):Cx:={ X with xe:=E }
abbrev Cx.nox (X:Cx):Cx:=X.iY fun _ _=>False
theorem Cx.Ok.iY {X:Cx} (ok:X.Ok) (E:Value→Shared→Prop):(X.iY E).Ok:=
 ⟨ok.mod,ok.kind,ok.glob,ok.blt,ok.above,ok.inj,ok.has,ok.cab,ok.hd,ok.frames,ok.stk,ok.exf,ok.bs,ok.bsz,ok.noex,ok.exfs,ok.iz,ok.frf⟩
theorem Cx.Ok.fI {X:Cx} {E:Value→Shared→Prop} (ok:(X.iY E).Ok):X.Ok:=
 ⟨ok.mod,ok.kind,ok.glob,ok.blt,ok.above,ok.inj,ok.has,ok.cab,ok.hd,ok.frames,ok.stk,ok.exf,ok.bs,ok.bsz,ok.noex,ok.exfs,ok.iz,ok.frf⟩
section
variable {X:Cx} {pins:List (Addr×Obj)} {σ:St} {H:Hp} {s:Shared} {E:Value→Shared→Prop}
theorem Inv.iY (I:Inv X pins σ H s) (E:Value→Shared→Prop):Inv (X.iY E) pins σ H s:=⟨I.ok.iY E,I.os,I.bare,I.base,I.loc,I.cell,I.free,I.freeC,I.pin,I.hok,I.len⟩
theorem Inv.fI (I:Inv (X.iY E) pins σ H s):Inv X pins σ H s:=⟨I.ok.fI,I.os,I.bare,I.base,I.loc,I.cell,I.free,I.freeC,I.pin,I.hok,I.len⟩
theorem SP.fI {D:Ends} {f:Flow} {s':Shared} (h:SP (X.iY E) pins D f s'):SP X pins D f s':=by
 cases f with
 | next=>obtain ⟨σ',H',I,q⟩:=h;exact ⟨σ',H',I.fI,q⟩
 | brk=>obtain ⟨σ',H',I,q⟩:=h;exact ⟨σ',H',I.fI,q⟩
 | cont=>obtain ⟨σ',H',I,q⟩:=h;exact ⟨σ',H',I.fI,q⟩
 | ret u=>obtain ⟨v,σ',H',I,r,q⟩:=h;exact ⟨v,σ',H',I.fI,r,q⟩
theorem PSs.nox {st:List Stmt} {t:TS} (h:PSs X.nox st t):PSs X st t:=fun pins s σ H D I hw=>
 wpAny_mono (h pins s σ H D (I.iY _) hw) (fun _ _ q=>q.fI) fun _ _ z=>False.elim z
end
section
variable {X:Cx} {st:Stmt} {rest:List Stmt} {t u:TS} {e:Expr} {te:TE} {pos:Pos}
def Et:TS:=fun D σ H=>D.nx σ H
def GL (t u:TS):TS:=fun D σ H=>t { D with nx:=u D } σ H
theorem Bi:PSs X [] Et:=fun _ _ σ H _ I h=>wpAny_execs_nil ⟨σ,H,I,h⟩
theorem xY (h1:PS X st t) (h2:PSs X rest u):PSs X (st :: rest) (GL t u):=by
 intro pins s σ H D I h
 refine wpAny_execs_cons (thn (h1 pins s σ H { D with nx:=u D } I h) fun f s1 q=>?_)
 cases f with
 | next=>
  obtain ⟨σ',H',I',q⟩:=q
  exact h2 pins s1 σ' H' D I' q
 | ret v=>exact q
 | brk=>exact q
 | cont=>exact q
theorem A_ (h1:PS X st t):PSs X [st] t:=by
 intro pins s σ H D I h
 refine wpAny_execs_cons (thn (h1 pins s σ H D I h) fun f s1 q=>?_)
 cases f with
 | next=>exact wpAny_execs_nil q
 | ret v=>exact q
 | brk=>exact q
 | cont=>exact q
def EG:TS:=fun D σ H=>D.ct σ H
theorem sD:PS X (.Continue pos) EG:=fun _ _ σ H _ I h=>wpAny_Continue ⟨σ,H,I,h⟩
theorem Inv.quiet {pins:List (Addr×Obj)} {σ:St} {H:Hp} {s:Shared} (I:Inv X pins σ H s):interactive X.env=false:=by simp [interactive,I.ok.kind]
def Ex (te:TE):TS:=fun D σ H=>te σ H fun _ H1=>D.nx σ H1
theorem Bp (he:PE X e te) (hs:swapsWith e none pos.line X.env=pure false:=by rfl):PS X (.Expr e pos) (Ex te):=by
 intro pins s σ H D I h
 exact wpAny_Expr_any (thn (he pins s σ H _ I h) fun v s1 ⟨x,H1,I1,r1,q1⟩=>⟨σ,H1,I1,q1⟩) I.quiet hs
def GQ (te:TE):TS:=fun D σ H=>te σ H D.rt
theorem C2 (he:PE X e te):PS X (.Return (some e) pos) (GQ te):=by
 intro pins s σ H D I h
 exact wpAny_Return_some (thn (he pins s σ H _ I h) fun v s1 ⟨x,H1,I1,r1,q1⟩=>⟨x,σ,H1,I1,r1,q1⟩)
def Gx (c:TT) (t u:TS):TS:=fun D σ H=>c σ H fun b H1=>if b=true then t D σ H1 else u D σ H1
theorem FJ {c:Expr} {a b:List Stmt} {tc:TT} (hc:PT X c tc) (ha:PSs X a t) (hb:PSs X b u):PS X (.If c a b pos) (Gx tc t u):=by
 intro pins s σ H D I h
 refine wpAny_If (thn (hc pins s σ H _ I h) fun d s1 ⟨H1,I1,q1⟩=>?_)
 cases d with
 | true=>exact ha pins s1 σ H1 D I1 q1
 | false=>exact hb pins s1 σ H1 D I1 q1
end
abbrev TG:=V→St→Hp→(St→Hp→Prop)→Prop
abbrev TGs:=List V→St→Hp→(St→Hp→Prop)→Prop
def PG (X:Cx) (target:Expr) (t:TG):Prop:=
 ∀ (pins:List (Addr×Obj)) (s:Shared) (σ:St) (H:Hp) (v:V) (u:Value) (Q:St→Hp→Prop),Inv X pins σ H s→RelV v u→t v σ H Q →
  wpAny (model X.prog X.w) X.A (assign target X.env u) (fun _ s'=>∃ σ' H',Inv X pins σ' H' s'∧Q σ' H') X.xe s
def PGs (X:Cx) (ts:List Expr) (t:TGs):Prop:=
 ∀ (pins:List (Addr×Obj)) (s:Shared) (σ:St) (H:Hp) (vs:List V) (us:List Value) (Q:St→Hp→Prop),Inv X pins σ H s→Vals vs us→t vs σ H Q →
  wpAny (model X.prog X.w) X.A (assignInOrder ((assignEach ts X.env).map (·.2)) us) (fun _ s'=>∃ σ' H',Inv X pins σ' H' s'∧Q σ' H') X.xe s
abbrev qi:=V→V→V→Hp→(Hp→Prop)→Prop
def uL (X:Cx) (t:qi):Prop:=
 ∀ (pins:List (Addr×Obj)) (s:Shared) (σ:St) (H:Hp) (o i v:V) (ov iv u:Value) (Q:Hp→Prop),Inv X pins σ H s→RelV o ov→RelV i iv→RelV v u→t o i v H Q →
  wpAny (model X.prog X.w) X.A (setItem ov iv u) (fun _ s'=>∃ H',Inv X pins σ H' s'∧Q H') X.xe s
section
variable {X:Cx} {pos:Pos}
def zL (i:Nat):TG:=fun v σ H Q=>Q (σ.set i (some v)) H
theorem Bn {i:Nat} {x:Str} (hN:X.N.Nodup) (hi:X.N[i]?=some x) (hx:Loc X.env.scope x) (hf:X.fn x=true∨X.env.scope.names.lookup x=some .local:=by first | exact .inl rfl | exact .inr rfl | assumption):PG X (.Name x pos) (zL i):=by
 intro pins s σ H v u Q I r h
 exact wpAny_assign_Name (mO I hN hi hx r (fun s' I'=>⟨_,H,I',h⟩) hf)
def GV:TGs:=fun vs σ H Q=>vs=[]∧Q σ H
def Fd (t:TG) (u:TGs):TGs:=fun vs σ H Q=>∃ v r,vs=v :: r∧t v σ H fun σ' H'=>u r σ' H' Q
theorem Bt:PGs X [] GV:=by
 intro pins s σ H vs us Q I r h
 obtain ⟨e,h⟩:=h
 subst e
 cases r
 exact assignInOrder_nil ⟨σ,H,I,h⟩
theorem y_ {e:Expr} {es:List Expr} {t:TG} {u:TGs} (h1:PG X e t) (h2:PGs X es u)
  (hs:(assignEach (e :: es) X.env).map (·.2)=assign e X.env :: (assignEach es X.env).map (·.2):=by rfl):PGs X (e :: es) (Fd t u):=by
 intro pins s σ H vs us Q I r h
 obtain ⟨v,vr,e1,h⟩:=h
 subst e1
 cases r with
 | cons r rr=>
  rw [hs]
  refine assignInOrder_cons (thn (h1 pins s σ H _ _ _ I r h) fun _ s1 ⟨σ1,H1,I1,q1⟩=>?_)
  exact h2 pins s1 σ1 H1 _ _ Q I1 rr q1
def GX (K:PySem.W.Frag) (n:Nat) (t:TGs):TG:=fun v σ H Q=>∃ a xs,v=.ref a∧SqT K H a xs∧xs.length=n∧t xs σ H Q
theorem DT {es:List Expr} {k:Nat} {t:TGs} {n:Nat} (hc:X.calm=true) (h:PGs X es t)
  (hn:(assignEach es X.env).length=n:=by rfl) (hst:(assignEach es X.env).findIdx? (·.1)=none:=by rfl):PG X (.Tuple es k pos) (GX X.K n t):=by
 intro pins s σ H v u Q I r hw
 obtain ⟨a,xs,e1,hq,hl,hw⟩:=hw
 subst e1
 cases r
 obtain ⟨its,rv,ht,hz⟩:=I.tuple hq
 refine assign_Tuple_tuple (I.ok.hd hc) ht (by simp [hn,← hl,rv.length]) hst fun h' hx=>?_
 have I1:Inv X pins σ H { s with heap:=h' }:=I.kept (t':=s.toks) fun b o e=>hx b o (Nat.ne_of_lt (Heap.lt_size e)) e
 exact h pins _ σ H xs _ Q I1 (by simpa using rv) hw
def GU (to ti:TE) (t:qi):TG:=fun v σ H Q=>to σ H fun o H1=>ti σ H1 fun i H2=>t o i v H2 fun H3=>Q σ H3
theorem CN {o i:Expr} {to ti:TE} {t:qi} (ho:PE X o to) (hi:PE X i ti) (hs:uL X t)
  (ha:∀ v,assign (.Subscript o i pos) X.env v=(do
   let ov ← holding [v] (eval o X.env)
   let iv ← holding [v,ov] (eval i X.env)
   standAt pos
   holding [v,ov,iv] (setItem ov iv v)
   release [v,ov,iv] []):=by intro _;rfl):PG X (.Subscript o i pos) (GU to ti t):=by
 intro pins s σ H v u Q I r h
 rw [ha]
 refine wpAny_bind (wpAny_holding (thn (ho pins s σ H _ I h) fun ov s1 ⟨x,H1,I1,r1,q1⟩=>?_))
 refine wpAny_bind (wpAny_holding (thn (hi pins s1 σ H1 _ I1 q1) fun iv s2 ⟨y,H2,I2,r2,q2⟩=>?_))
 refine wpAny_bind (wpAny_standAt (wpAny_bind (wpAny_holding (thn (hs pins s2 σ H2 x y v ov iv u _ I2 r1 r2 r q2) fun _ s3 ⟨H3,I3,q3⟩=>?_))))
 exact wpAny_release ⟨σ,H3,I3,q3⟩
def CS (te:TE) (g:TG):TS:=fun D σ H=>te σ H fun x H1=>g x σ H1 D.nx
theorem Dm {tg e:Expr} {te:TE} {g:TG} (he:PE X e te) (hg:PG X tg g) (hs:swapsWithSole [tg] e pos.line X.env=pure false:=by rfl) (hw:swappedStores [tg] e X.env=pure none:=by rfl)
  (h1:(assignEach [tg] X.env).map (·.2)=[assign tg X.env]:=by rfl):PS X (.Assign [tg] e pos) (CS te g):=by
 intro pins s σ H D I h
 refine wpAny_Assign_stores (thn (he pins s σ H _ I h) fun v s1 ⟨x,H1,I1,r1,q1⟩=>?_) hs hw
 rw [h1]
 exact thn (hg pins s1 σ H1 x v _ I1 r1 q1) fun _ s2 q=>q
theorem Ee {i:Nat} {x:Str} {e:Expr} {te:TE} {pos':Pos} (hN:X.N.Nodup) (hi:X.N[i]?=some x) (hx:Loc X.env.scope x) (he:PE X e te) (hs:swapsWith e (some (.Name x pos')) pos.line X.env=pure false:=by rfl) (hf:X.fn x=true∨X.env.scope.names.lookup x=some .local:=by first | exact .inl rfl | exact .inr rfl | assumption) :
  PS X (.Assign [.Name x pos'] e pos) (CS te (zL i)):=by
 intro pins s σ H D I h
 refine wpAny_Assign_Name (thn (he pins s σ H _ I h) fun v s1 ⟨y,H1,I1,r1,q1⟩=>?_) hs
 exact mO I1 hN hi hx r1 (fun s2 I2=>⟨_,H1,I2,q1⟩) hf
end
section
variable {X:Cx} {pos:Pos}
def CT (c:TT) (tb:TS):TS:=fun D σ H=>∃ W:Nat→St→Hp→Prop,(∃ m,W m σ H)∧∀ m σ H,W m σ H →
 c σ H fun b H1=>if b=true then ∃ N:St→Hp→Prop,(∀ σ' H',N σ' H'→∃ m',m' < m∧W m' σ' H')∧tb { D with nx:=N,ct:=N,bk:=D.nx } σ H1 else D.nx σ H1
theorem zf {c:Expr} {body:List Stmt} {tc:TT} {tb:TS} (hp:PassesOwn (model X.prog X.w) X.A X.env X.xe) (hc:PT X c tc) (hb:PSs X body tb):PS X (.While c body [] pos) (CT tc tb):=by
 intro pins s σ H D I h
 obtain ⟨W,⟨m0,w0⟩,turn⟩:=h
 refine wpAny_While (codeAny_whileLoop (fun n s'=>∃ σ' H',Inv X pins σ' H' s'∧W n σ' H') ?_ m0 ⟨σ,H,I,w0⟩)
 rintro n s1 ⟨σ1,H1,I1,w1⟩
 refine wpAny_passesOwn hp (thn (hc pins s1 σ1 H1 _ I1 (turn n σ1 H1 w1)) fun b s2 ⟨H2,I2,q2⟩=>?_)
 cases b with
 | true=>
  obtain ⟨N,hN,q2⟩:=q2
  rw [if_pos rfl]
  refine wpAny_passesOwn hp (thn (hb pins s2 σ1 H2 _ I2 q2) fun f s3 q3=>?_)
  cases f with
  | next=>
   obtain ⟨σ3,H3,I3,n3⟩:=q3
   obtain ⟨m',hm,w3⟩:=hN σ3 H3 n3
   exact ⟨m',hm,σ3,H3,I3,w3⟩
  | cont=>
   obtain ⟨σ3,H3,I3,n3⟩:=q3
   obtain ⟨m',hm,w3⟩:=hN σ3 H3 n3
   exact ⟨m',hm,σ3,H3,I3,w3⟩
  | brk=>exact q3
  | ret v=>exact q3
 | false=>
  rw [if_neg Bool.false_ne_true]
  exact wpAny_execs_nil ⟨σ1,H2,I2,q2⟩
end
structure It where
 go:Nat→Hp→Prop
 yld:Nat→Hp→V→Hp→Prop
 stop:Nat→Hp→Prop
def fq (X:Cx) (pins:List (Addr×Obj)) (H:Hp) (b:Addr):Prop:=
 H b=none∧b≠X.env.locals∧b∉X.fs∧(b∈X.ex∨X.s₀.heap.objs.size≤b)∧(∀ x c,X.env.cells.lookup x=some c→c≠b)∧∀ p∈X.pn++pins,p.1≠b
theorem Inv.lq {X:Cx} {pins:List (Addr×Obj)} {σ:St} {H H':Hp} {s:Shared} {b:Addr} (I:Inv X pins σ H s) (hb:s.heap.objs.size≤b) (hn:H' b=none):fq X pins H' b:=by
 refine ⟨hn,Nat.ne_of_gt (Nat.lt_of_lt_of_le I.lt hb),I.BG hb,.inr (Nat.le_trans I.sz hb),fun x c e z=>?_,fun p hp z=>?_⟩
 ·obtain ⟨v,q⟩:=I.cell x c e
  exact absurd (Nat.lt_of_lt_of_le q.lt (by rw [z];exact hb)) (Nat.lt_irrefl _)
 ·exact absurd (Nat.lt_of_lt_of_le (Heap.lt_size (I.pin p hp).1) (by rw [z];exact hb)) (Nat.lt_irrefl _)
structure Turn (P:Program) (w:World) (K:PySem.W.Frag) (tg:Expr) (J:It) (fp:List Addr) (it:Addr) (tn:Nat→Heap→Prop):Prop where
 mem:it∈fp
 obj:∀ i h,tn i h→∀ b∈fp,∃ o,h.get? b=some o∧∀ v,o.data≠.cell v
 keep:∀ i h h',tn i h→(∀ b∈fp,∀ o,h.get? b=some o→h'.get? b=some o)→tn i h'
 item:∀ (X:Cx),X.prog=P→X.w=w→X.K=K→X.calm=true→∀ (i:Nat) (pins:List (Addr×Obj)) (s:Shared) (σ:St) (H:Hp) (E:Value→Shared→Prop),Inv X pins σ H s→(∀ b∈fp,fq X pins H b)→tn i s.heap→J.go i H →
  wpAny (model P w) X.A (pyNext (.ref it)) (fun r s1=>∃ u,r=some u ∧
   wpAny (model P w) X.A (letOwnedTupleGo tg (.ref it) u) (fun _ s2=>∃ x H',Inv X pins σ H' s2∧RelV x u∧J.yld i H x H'∧tn (i+1) s2.heap∧∀ b∈fp,H' b=none) E s1) E s
 done:∀ (X:Cx),X.prog=P→X.w=w→X.K=K→X.calm=true→∀ (i:Nat) (pins:List (Addr×Obj)) (s:Shared) (σ:St) (H:Hp) (E:Value→Shared→Prop),Inv X pins σ H s→(∀ b∈fp,fq X pins H b)→tn i s.heap→J.stop i H →
  wpAny (model P w) X.A (pyNext (.ref it)) (fun r s1=>r=none∧Inv X pins σ H s1) E s
 self:∀ (A:Around) (i:Nat) (s:Shared) (Q:Value→Shared→Prop) (E:Value→Shared→Prop),tn i s.heap→Q (.ref it) s→wpAny (model P w) A (pyIter (.ref it)) Q E s
abbrev TI:=St→Hp→(It→Hp→Prop)→Prop
def PIE (X:Cx) (pins:List (Addr×Obj)) (σ:St) (tg:Expr) (R:It→Hp→Prop) (itv:Value) (s2:Shared):Prop:=
 ∃ (it:Addr) (fp:List Addr) (tn:Nat→Heap→Prop) (J:It) (H':Hp),itv=.ref it∧Inv X pins σ H' s2∧Turn X.prog X.w X.K tg J fp it tn∧tn 0 s2.heap∧(∀ b∈fp,fq X pins H' b)∧R J H'
def PI (X:Cx) (tg iter:Expr) (wi:TI):Prop:=
 ∀ (pins:List (Addr×Obj)) (s:Shared) (σ:St) (H:Hp) (R:It→Hp→Prop),Inv X pins σ H s→wi σ H R →
  wpAny (model X.prog X.w) X.A (eval iter X.env) (fun v s1=>wpAny (model X.prog X.w) X.A (pyIter v) (PIE X pins σ tg R) X.xe s1) X.xe s
theorem pT {M : Model} {A : Around} {E : Value → Shared → Prop} {s : Shared} {tg : Expr} {it : Addr} {u : Value} {o : Obj} {n : String} {vs : Array Value} {Q : Unit → Shared → Prop} (ho : s.heap.get? it = some o) (hc : o.cls = .type n) (hd : o.data = .fields vs)
    (hn : ["enumerate", "zip", "dict_itemiterator", "dict_reverseitemiterator", "odict_iterator", "itertools.zip_longest", "itertools.pairwise"].contains n = false) (hQ : Q () s) : wpAny M A (letOwnedTupleGo tg (.ref it) u) Q E s := by
  unfold letOwnedTupleGo
  cases tg <;> first
    | exact wpAny_pure hQ
    | (cases u <;> first
        | exact wpAny_pure hQ
        | (refine wpAny_bind (wpAny_load ho ?_)
           rw [hc, hd]
           show wpAny M A (if (["enumerate", "zip", "dict_itemiterator", "dict_reverseitemiterator", "odict_iterator", "itertools.zip_longest", "itertools.pairwise"].contains n && vs[0]? == some (rawInt _)) = true then _ else _) Q E s
           rw [if_neg (by intro h; rw [hn, Bool.false_and] at h; cases h)]
           exact wpAny_pure hQ))
def Itl (K:PySem.W.Frag) (a:Addr):It:=
 ⟨fun i H=>∃ xs x,SqL K H a xs∧xs[i]?=some x,fun i H x H'=>H'=H∧∀ xs,SqL K H a xs→xs[i]?=some x,fun i H=>∃ xs,SqL K H a xs∧xs.length≤i⟩
def Itt (K:PySem.W.Frag) (a:Addr):It:=
 ⟨fun i H=>∃ xs x,SqT K H a xs∧xs[i]?=some x,fun i H x H'=>H'=H∧∀ xs,SqT K H a xs→xs[i]?=some x,fun i H=>∃ xs,SqT K H a xs∧xs.length≤i⟩
def Itr (lo:Int) (n:Nat):It:=⟨fun i _=>i < n,fun i H x H'=>H'=H∧x=.int (lo+i),fun i _=>n≤i⟩
theorem vC {P:Program} {w:World} {K:PySem.W.Frag} {tg:Expr} (a it:Addr):Turn P w K tg (Itl K a) [it] it (fun i h=>h.IsListIter it a i) where
 mem:=by simp
 obj:=fun i h st b hb=>by
  have e:b=it:=by simpa using hb
  subst e
  obtain ⟨o,e,c,d⟩:=st
  exact ⟨o,e,fun v z=>by rw [d] at z;cases z⟩
 keep:=fun i h h' st k=>st.at fun o e=>k it (by simp) o e
 item:=by
  intro X hP hw hK hc i pins s σ H E I hf st hg
  subst hP hw hK
  obtain ⟨xs,x,hq,hx⟩:=hg
  obtain ⟨its,rv,p,hz⟩:=I.list hq
  obtain ⟨u,hu,ru⟩:=rv.get hx
  obtain ⟨f0,f1,f2,f3,f4,f5⟩:=hf it (by simp)
  refine wpAny_pyNext_list_item st p.isList (x:=u) (by simpa using hu) fun h' st' sb=>?_
  have I1:Inv X pins σ H { s with heap:=h' }:=I.turned (t':=s.toks) (fun b o hb e=>(sb.2 b hb).trans e) f0 f1 f3 f4 f5
  obtain ⟨o,e,c,d⟩:=id st'
  exact ⟨u,rfl,pT (s:={ s with heap:=h' }) e c d (by decide) ⟨x,H,I1,ru,⟨rfl,fun ys hy=>by rw [I.qY hy hq];exact hx⟩,st',fun b hb=>(hf b hb).1⟩⟩
 done:=by
  intro X hP hw hK hc i pins s σ H E I hf st hg
  subst hP hw hK
  obtain ⟨xs,hq,hx⟩:=hg
  obtain ⟨its,rv,p,hz⟩:=I.list hq
  obtain ⟨f0,f1,f2,f3,f4,f5⟩:=hf it (by simp)
  have hl:=rv.length
  exact wpAny_pyNext_list_end (I.ok.hd hc) st p.isList (by simp;omega) fun h' eb=>⟨rfl,I.turned (t':=s.toks) (fun b o hb e=>eb b o hb e) f0 f1 f3 f4 f5⟩
 self:=fun _ _ _ _ _ st h=>wpAny_pyIter_listiter st h
theorem u5 {P:Program} {w:World} {K:PySem.W.Frag} {tg:Expr} (a it:Addr):Turn P w K tg (Itt K a) [it] it (fun i h=>h.IsTupleIter it a i) where
 mem:=by simp
 obj:=fun i h st b hb=>by
  have e:b=it:=by simpa using hb
  subst e
  obtain ⟨o,e,c,d⟩:=st
  exact ⟨o,e,fun v z=>by rw [d] at z;cases z⟩
 keep:=fun i h h' st k=>st.at fun o e=>k it (by simp) o e
 item:=by
  intro X hP hw hK hc i pins s σ H E I hf st hg
  subst hP hw hK
  obtain ⟨xs,x,hq,hx⟩:=hg
  obtain ⟨its,rv,p,hz⟩:=I.tuple hq
  obtain ⟨u,hu,ru⟩:=rv.get hx
  obtain ⟨f0,f1,f2,f3,f4,f5⟩:=hf it (by simp)
  refine wpAny_pyNext_tuple_item st (show s.heap.IsTuple a its.toArray from p) (x:=u) (by simpa using hu) fun h' st' sb=>?_
  have I1:Inv X pins σ H { s with heap:=h' }:=I.turned (t':=s.toks) (fun b o hb e=>(sb.2 b hb).trans e) f0 f1 f3 f4 f5
  obtain ⟨o,e,c,d⟩:=id st'
  exact ⟨u,rfl,pT (s:={ s with heap:=h' }) e c d (by decide) ⟨x,H,I1,ru,⟨rfl,fun ys hy=>by rw [I.vv hy hq];exact hx⟩,st',fun b hb=>(hf b hb).1⟩⟩
 done:=by
  intro X hP hw hK hc i pins s σ H E I hf st hg
  subst hP hw hK
  obtain ⟨xs,hq,hx⟩:=hg
  obtain ⟨its,rv,p,hz⟩:=I.tuple hq
  obtain ⟨f0,f1,f2,f3,f4,f5⟩:=hf it (by simp)
  have hl:=rv.length
  exact wpAny_pyNext_tuple_end (I.ok.hd hc) st (show s.heap.IsTuple a its.toArray from p) (by simp;omega) fun h' eb=>⟨rfl,I.turned (t':=s.toks) (fun b o hb e=>eb b o hb e) f0 f1 f3 f4 f5⟩
 self:=fun _ _ _ _ _ st h=>wpAny_pyIter_tupleiter st h
theorem u2 {P:Program} {w:World} {K:PySem.W.Frag} {tg:Expr} (it:Addr) (lo:Int) (n:Nat):Turn P w K tg (Itr lo n) [it] it (fun i h=>IsRangeIter h it (lo+(i:Nat) * 1) ((n:Int) - (i:Nat)) 1) where
 mem:=by simp
 obj:=fun i h st b hb=>by
  have e:b=it:=by simpa using hb
  subst e
  exact ⟨_,st,fun v z=>by
   have z':Data.fields _=Data.cell v:=z
   cases z'⟩
 keep:=fun i h h' st k=>k it (by simp) _ st
 item:=by
  intro X hP hw hK hc i pins s σ H E I hf st hg
  subst hP hw hK
  obtain ⟨f0,f1,f2,f3,f4,f5⟩:=hf it (by simp)
  have W:=Walks.range (prog:=X.prog) (w:=X.w) (I.ok.hd hc) it lo 1 n
  refine W.item i s _ _ hg st fun v h' tk hv st' kk=>?_
  obtain ⟨t,rfl⟩:=hv
  have I1:Inv X pins σ H { s with heap:=h',toks:=tk }:=I.turned (fun b o hb e=>kk b o (by simpa using hb) e) f0 f1 f3 f4 f5
  refine ⟨_,rfl,pT (s:={ s with heap:=h',toks:=tk }) (n:="range_iterator") st' rfl rfl (by decide) ⟨.int (lo+i),H,I1,⟨t,?_⟩,⟨rfl,rfl⟩,st',fun b hb=>(hf b hb).1⟩⟩
  rw [Int.mul_one]
 done:=by
  intro X hP hw hK hc i pins s σ H E I hf st hg
  subst hP hw hK
  obtain ⟨f0,f1,f2,f3,f4,f5⟩:=hf it (by simp)
  exact wpAny_pyNext_range_end (I.ok.hd hc) st (by have:n≤i:=hg;omega) fun h' eb=>⟨rfl,I.turned (t':=s.toks) (fun b o hb e=>eb b o hb e) f0 f1 f3 f4 f5⟩
 self:=fun _ _ _ _ _ st h=>wpAny_pyIter_rangeiter st h
section
variable {X:Cx} {tg:Expr}
theorem qG {pins:List (Addr×Obj)} {σ:St} {H:Hp} {s:Shared} {R:It→Hp→Prop} {E:Value→Shared→Prop} {lo hi:Int} {t u v:Tok} {tk:Nat} (I:Inv X pins σ H s) (h1:-(2 ^ 62)≤lo) (h2:lo < 2 ^ 62) (h3:-(2 ^ 62)≤hi) (h4:hi < 2 ^ 62)
  (q:R (Itr lo (hi - lo).toNat) H):wpAny (model X.prog X.w) X.A (pyIter (.ref s.heap.objs.size)) (PIE X pins σ tg R) E { s with heap:=s.heap.push { cls:=.type "range",data:=.fields #[.int lo t,.int hi u,.int 1 v] },toks:=tk }:=by
 refine wpAny_pyIter_range (IsRange.new ..) (small_one h1 h2 h3 h4) ?_
 have I1:Inv X pins σ H { s with heap:=s.heap.push { cls:=.type "range",data:=.fields #[.int lo t,.int hi u,.int 1 v] },toks:=tk }:=I.kept fun b o e=>Heap.get?_push_of_some _ e
 refine ⟨(s.heap.push { cls:=.type "range",data:=.fields #[.int lo t,.int hi u,.int 1 v] }).objs.size,[(s.heap.push { cls:=.type "range",data:=.fields #[.int lo t,.int hi u,.int 1 v] }).objs.size],_,_,H,rfl,
  I1.kept (t':=tk) fun b o e=>Heap.get?_push_of_some _ e,u2 _ lo (hi - lo).toNat,?_,fun b hb=>?_,q⟩
 ·have e1:lo+((0:Nat):Int) * 1=lo:=by simp
  have e2:(((hi - lo).toNat:Nat):Int) - ((0:Nat):Int)=Builtin.Range.rangeSize lo hi 1:=by rw [rangeSize_one];split<;>omega
  show IsRangeIter _ _ (lo+((0:Nat):Int) * 1) ((((hi - lo).toNat:Nat):Int) - ((0:Nat):Int)) 1
  rw [e1,e2]
  exact Heap.get?_push_size _ rfl
 ·have e:b=(s.heap.push { cls:=.type "range",data:=.fields #[.int lo t,.int hi u,.int 1 v] }).objs.size:=by simpa using hb
  subst e
  exact I1.lq (Nat.le_refl _) (I1.hok.fresh (Nat.le_refl _))
def Gp (ta:TA):TI:=fun σ H R=>ta σ H fun vs H1=>∃ j:Int,vs=[.int j]∧-(2 ^ 62)≤j∧j < 2 ^ 62∧R (Itr 0 j.toNat) H1
def Fu (ta:TA):TI:=fun σ H R=>ta σ H fun vs H1=>∃ i j:Int,vs=[.int i,.int j]∧(-(2 ^ 62)≤i∧i < 2 ^ 62∧-(2 ^ 62)≤j∧j < 2 ^ 62)∧R (Itr i (j - i).toNat) H1
theorem xA {a:Expr} {ta:TA} {p pos:Pos} (hg:Gl X "range") (hm:X.mg "range"=none) (ha:PA X [a] ta) (hs:starEach [a] X.env=[(false,eval a X.env)]:=by rfl):PI X tg (.Call (.Name "range" p) [a] [] pos) (Gp ta):=by
 intro pins s σ H R I h
 refine Call_ (cT I hg hm boot_range (PyProof.Rows.callWith_type1 (thn (ha pos pins s σ H _ I h) fun us s1 ⟨vs,H1,I1,r1,q1⟩=>?_) hs rfl))
 obtain ⟨j,e,q1,q2,q⟩:=q1
 subst e
 cases r1 with
 | cons r rr=>
  cases rr
  obtain ⟨t,rfl⟩:=r
  exact call_range_1 (qG I1 (by omega) (by omega) q1 q2 (by simpa using q))
theorem vb {a b:Expr} {ta:TA} {p pos:Pos} (hg:Gl X "range") (hm:X.mg "range"=none) (ha:PA X [a,b] ta) (hs:starEach [a,b] X.env=[(false,eval a X.env),(false,eval b X.env)]:=by rfl) (hs2:starEach [b] X.env=[(false,eval b X.env)]:=by rfl) :
  PI X tg (.Call (.Name "range" p) [a,b] [] pos) (Fu ta):=by
 intro pins s σ H R I h
 refine Call_ (cT I hg hm boot_range (PyProof.Rows.callWith_type1 (thn (ha pos pins s σ H _ I h) fun us s1 ⟨vs,H1,I1,r1,q1⟩=>?_) (by rw [hs,hs2]) (by rw [hs2];rfl)))
 obtain ⟨i,j,e,⟨q1,q2,q3,q4⟩,q⟩:=q1
 subst e
 cases r1 with
 | cons r rr=>
  cases rr with
  | cons r' rr=>
   cases rr
   obtain ⟨t,rfl⟩:=r
   obtain ⟨t',rfl⟩:=r'
   exact call_range_2 (qG I1 q1 q2 q3 q4 q)
def Gq (wi:TI) (g:TG) (tb:TS):TS:=fun D σ H=>wi σ H fun J H1=>∃ W:Nat→Nat→St→Hp→Prop,(∃ m,W 0 m σ H1)∧∀ i m σ H,W i m σ H →
 (J.stop i H∧D.nx σ H)∨(J.go i H∧∃ N:St→Hp→Prop,(∀ σ' H',N σ' H'→∃ m',m' < m∧W (i+1) m' σ' H')∧∀ x H',J.yld i H x H'→g x σ H' fun σ2 H2=>tb { D with nx:=N,ct:=N,bk:=D.nx } σ2 H2)
def lx (fp:List Addr) (h:Heap):List (Addr×Obj):=fp.filterMap fun b=>(h.get? b).map fun o=>(b,o)
theorem gg {fp:List Addr} {h:Heap} {b:Addr} {o:Obj} (hb:b∈fp) (e:h.get? b=some o):(b,o)∈lx fp h:=List.mem_filterMap.mpr ⟨b,hb,by rw [e];rfl⟩
theorem wk {fp:List Addr} {h:Heap} {p:Addr×Obj} (hp:p∈lx fp h):p.1∈fp∧h.get? p.1=some p.2:=by
 obtain ⟨b,hb,e⟩:=List.mem_filterMap.mp hp
 cases q:h.get? b with
 | none=>rw [q] at e;cases e
 | some o=>
  rw [q] at e
  have e':(b,o)=p:=Option.some.inj e
  subst e'
  exact ⟨hb,q⟩
theorem Inv.pinned {pins:List (Addr×Obj)} {σ:St} {H:Hp} {s:Shared} {fp:List Addr} (I:Inv X pins σ H s) (hf:∀ b∈fp,fq X pins H b) (ho:∀ b∈fp,∃ o,s.heap.get? b=some o∧∀ v,o.data≠.cell v):Inv X (pins++lx fp s.heap) σ H s:=
 I.n_ fun p hp=>(List.mem_append.mp hp).elim (fun z=>I.pin p (List.mem_append_right _ z)) fun z=>by
  obtain ⟨hb,e⟩:=wk z
  obtain ⟨f0,f1,f2,_⟩:=hf p.1 hb
  obtain ⟨o,e',d⟩:=ho p.1 hb
  rw [e] at e';cases e'
  exact ⟨e,f0,f1,f2,d⟩
theorem Inv.gS {pins pl:List (Addr×Obj)} {σ:St} {H:Hp} {s:Shared} (I:Inv X (pins++pl) σ H s):Inv X pins σ H s:=I.n_ fun p hp=>I.pin p (List.mem_append_right _ (List.mem_append_left _ hp))
theorem BI {iter:Expr} {body:List Stmt} {wi:TI} {g:TG} {tb:TS} {pos:Pos} (hp:PassesOwn (model X.prog X.w) X.A X.env X.xe) (hc:X.calm=true) (hi:PI X tg iter wi) (hg:PG X tg g) (hb:PSs X body tb)
  (hs:∀ x,foldedSetIterable iter X.env x=pure x:=by intro _;rfl):PS X (.For tg iter body [] pos) (Gq wi g tb):=by
 intro pins s σ H D I h
 refine wpAny_For (thn (hi pins s σ H _ I h) fun v s1 h1=>thn h1 fun itv s2 h2=>?_) hs
 obtain ⟨it,fp,tn,J,H2,e,I2,T,st2,f2,W,⟨m0,w0⟩,turn⟩:=h2
 subst e
 have stat:∀ {H':Hp},(∀ b∈fp,H' b=none)→∀ b∈fp,fq X pins H' b:=fun hn b hb=>⟨hn b hb,(f2 b hb).2⟩
 refine codeAny_forLoop_any (fun n s'=>∃ i σ' H',Inv X pins σ' H' s'∧tn i s'.heap∧(∀ b∈fp,H' b=none)∧W i n σ' H') ?_ m0 ⟨0,σ,H2,I2,st2,fun b hb=>(f2 b hb).1,w0⟩
 rintro n s3 ⟨i,σ3,H3,I3,st3,fr3,w3⟩
 rcases turn i n σ3 H3 w3 with ⟨stop,qn⟩ | ⟨go,N,hN,step⟩
 ·refine wpAny_passesOwn hp (thn (T.done X rfl rfl rfl hc i pins s3 σ3 H3 X.xe I3 (stat fr3) st3 stop) fun r s4 ⟨hr,I4⟩=>?_)
  subst hr
  exact wpAny_execs_nil ⟨σ3,H3,I4,qn⟩
 ·refine wpAny_passesOwn hp (thn (T.item X rfl rfl rfl hc i pins s3 σ3 H3 X.xe I3 (stat fr3) st3 go) fun r s4 ⟨u,hr,h4⟩=>?_)
  subst hr
  refine wpAny_passesOwn hp (thn h4 fun _ s5 ⟨x,H5,I5,r5,y5,st5,fr5⟩=>?_)
  have I5':=I5.pinned (stat fr5) (T.obj _ _ st5)
  refine wpAny_passesOwn hp (thn (hg _ s5 σ3 H5 x u _ I5' r5 (step x H5 y5)) fun _ s6 ⟨σ6,H6,I6,q6⟩=>?_)
  refine wpAny_passesOwn hp (thn (hb _ s6 σ6 H6 _ I6 q6) fun f s7 q7=>?_)
  have again:∀ {σ7:St} {H7:Hp},Inv X (pins++lx fp s5.heap) σ7 H7 s7→N σ7 H7→∃ m,m < n∧∃ i σ' H',Inv X pins σ' H' s7∧tn i s7.heap∧(∀ b∈fp,H' b=none)∧W i m σ' H':=fun {σ7 H7} I7 n7=>by
   obtain ⟨m',hm,w7⟩:=hN σ7 H7 n7
   refine ⟨m',hm,i+1,σ7,H7,I7.gS,T.keep _ _ _ st5 fun b hb o e=>(I7.pin (b,o) (List.mem_append_right _ (List.mem_append_right _ (gg hb e)))).1,fun b hb=>?_,w7⟩
   obtain ⟨o,e,d⟩:=T.obj _ _ st5 b hb
   exact (I7.pin (b,o) (List.mem_append_right _ (List.mem_append_right _ (gg hb e)))).2.1
  cases f with
  | next=>obtain ⟨σ7,H7,I7,n7⟩:=q7;exact again I7 n7
  | cont=>obtain ⟨σ7,H7,I7,n7⟩:=q7;exact again I7 n7
  | brk=>obtain ⟨σ7,H7,I7,q7⟩:=q7;exact ⟨σ7,H7,I7.gS,q7⟩
  | ret v=>obtain ⟨x7,σ7,H7,I7,r7,q7⟩:=q7;exact ⟨x7,σ7,H7,I7.gS,r7,q7⟩
end
abbrev R2:=V→V→Hp→VK→Prop
def OpR (X:Cx) (f:Value→Value→Sem Value) (r:R2):Prop:=
 ∀ (pins:List (Addr×Obj)) (s:Shared) (σ:St) (H:Hp) (x y:V) (v u:Value) (Q:VK),Inv X pins σ H s→RelV x v→RelV y u→r x y H Q →
  wpAny (model X.prog X.w) X.A (f v u) (EP X pins σ Q) X.xe s
def UnR (X:Cx) (f:Value→Sem Value) (r:V→Hp→VK→Prop):Prop:=
 ∀ (pins:List (Addr×Obj)) (s:Shared) (σ:St) (H:Hp) (x:V) (v:Value) (Q:VK),Inv X pins σ H s→RelV x v→r x H Q →
  wpAny (model X.prog X.w) X.A (f v) (EP X pins σ Q) X.xe s
def bw (X:Cx) (f:Value) (r:List V→Hp→VK→Prop):Prop:=
 ∀ (pins:List (Addr×Obj)) (s:Shared) (σ:St) (H:Hp) (xs:List V) (us:List Value) (Q:VK),Inv X pins σ H s→Vals xs us→r xs H Q →
  wpAny (model X.prog X.w) X.A (call f us) (EP X pins σ Q) X.xe s
def Ha (X:Cx) (r:V→Hp→(Bool→Hp→Prop)→Prop):Prop:=
 ∀ (pins:List (Addr×Obj)) (s:Shared) (σ:St) (H:Hp) (x:V) (v:Value) (Q:Bool→Hp→Prop),Inv X pins σ H s→RelV x v→r x H Q →
  wpAny (model X.prog X.w) X.A (truthy v) (TP X pins σ Q) X.xe s
def tOp (r:R2) (ta tb:TE):TE:=fun σ H Q=>ta σ H fun x H1=>tb σ H1 fun y H2=>r x y H2 Q
def tUn (r:V→Hp→VK→Prop) (ta:TE):TE:=fun σ H Q=>ta σ H fun x H1=>r x H1 Q
def rI (C:Int→Int→Prop) (g:Int→Int→V):R2:=fun x y H Q=>∃ i j,x=.int i∧y=.int j∧C i j∧Q (g i j) H
def rI0 (g:Int→Int→V):R2:=fun x y H Q=>∃ i j,x=.int i∧y=.int j∧Q (g i j) H
def rU (g:Int→V):V→Hp→VK→Prop:=fun x H Q=>∃ i,x=.int i∧Q (g i) H
section
variable {X:Cx} {a b c:Expr} {ta tb tc:TE} {pos:Pos}
theorem ya (ha:PE X a ta) (hb:PE X b tb) {pins:List (Addr×Obj)} {s:Shared} {σ:St} {H:Hp} {R:V→V→Hp→Prop} (I:Inv X pins σ H s)
  (h:ta σ H fun x H1=>tb σ H1 fun y H2=>R x y H2) {Q:Value→Shared→Prop} {f:Value→Value→Sem Value}
  (hf:∀ v u s2 x y H2,Inv X pins σ H2 s2→RelV x v→RelV y u→R x y H2→wpAny (model X.prog X.w) X.A (f v u) Q X.xe s2) :
  wpAny (model X.prog X.w) X.A (eval a X.env) (fun v s₁=>wpAny (model X.prog X.w) X.A (eval b X.env) (fun u s₂=>wpAny (model X.prog X.w) X.A (f v u) Q X.xe s₂) X.xe s₁) X.xe s:=by
 refine thn (ha pins s σ H _ I h) fun v s1 ⟨x,H1,I1,r1,q1⟩=>?_
 refine thn (hb pins s1 σ H1 _ I1 q1) fun u s2 ⟨y,H2,I2,r2,q2⟩=>?_
 exact hf v u s2 x y H2 I2 r1 r2 q2
theorem FO {op:Operator} {r:R2} (ho:OpR X (binaryOp op) r) (ha:PE X a ta) (hb:PE X b tb):PE X (.BinOp a op b pos) (tOp r ta tb):=by
 intro pins s σ H Q I h
 exact wpAny_BinOp (ya ha hb I h fun v u s2 x y H2 I2 rx ry q=>ho pins s2 σ H2 x y v u Q I2 rx ry q)
theorem E1 {op:UnaryOp} {r:V→Hp→VK→Prop} (ho:UnR X (unaryOp op) r) (ha:PE X a ta):PE X (.UnaryOp op a pos) (tUn r ta):=by
 intro pins s σ H Q I h
 exact UnaryOp_ (thn (ha pins s σ H _ I h) fun v s1 ⟨x,H1,I1,r1,q1⟩=>ho pins s1 σ H1 x v Q I1 r1 q1)
theorem opI {f:Value→Value→Sem Value} {C:Int→Int→Prop} {g:Int→Int→Int}
  (rule:∀ (i j:Int) (t u:Tok) (s:Shared) (Q:Value→Shared→Prop) (E:Value→Shared→Prop),C i j→Q (.int (g i j) s.toks) { s with toks:=s.toks+1 }→wpAny (model X.prog X.w) X.A (f (.int i t) (.int j u)) Q E s) :
  OpR X f (rI C fun i j=>.int (g i j)):=by
 intro pins s σ H x y v u Q I rx ry h
 obtain ⟨i,j,rfl,rfl,hc,q⟩:=h
 obtain ⟨t,rfl⟩:=rx
 obtain ⟨t',rfl⟩:=ry
 exact rule i j t t' s _ _ hc ⟨.int (g i j),H,I.tok _,⟨_,rfl⟩,q⟩
theorem Dq {f:Value→Value→Sem Value} {g:Int→Int→Int}
  (rule:∀ (i j:Int) (t u:Tok) (s:Shared) (Q:Value→Shared→Prop) (E:Value→Shared→Prop),Q (.int (g i j) s.toks) { s with toks:=s.toks+1 }→wpAny (model X.prog X.w) X.A (f (.int i t) (.int j u)) Q E s) :
  OpR X f (rI0 fun i j=>.int (g i j)):=by
 intro pins s σ H x y v u Q I rx ry h
 obtain ⟨i,j,rfl,rfl,q⟩:=h
 obtain ⟨t,rfl⟩:=rx
 obtain ⟨t',rfl⟩:=ry
 exact rule i j t t' s _ _ ⟨.int (g i j),H,I.tok _,⟨_,rfl⟩,q⟩
theorem u3 {f:Value→Value→Sem Value} {g:Int→Int→Bool}
  (rule:∀ (i j:Int) (t u:Tok) (s:Shared) (Q:Value→Shared→Prop) (E:Value→Shared→Prop),Q (.bool (g i j)) s→wpAny (model X.prog X.w) X.A (f (.int i t) (.int j u)) Q E s) :
  OpR X f (rI0 fun i j=>.bl (g i j)):=by
 intro pins s σ H x y v u Q I rx ry h
 obtain ⟨i,j,rfl,rfl,q⟩:=h
 obtain ⟨t,rfl⟩:=rx
 obtain ⟨t',rfl⟩:=ry
 exact rule i j t t' s _ _ ⟨.bl (g i j),H,I,rfl,q⟩
def n6 (i j:Int):Prop:=0 < j∧j < 1073741824
def n8 (i j:Int):Prop:=0≤j∧j≤1000000∧i.natAbs < 2 ^ 64
def jt (i j:Int):Prop:=(-(2 ^ 64) < i∧i < 2 ^ 64)∨(-(2 ^ 64) < j∧j < 2 ^ 64)
theorem jt.ok {i j:Int} (h:jt i j):IntMulOk i j:=by
 rcases h with ⟨h1,h2⟩ | ⟨h1,h2⟩
 ·exact .of_left (intBits_le_64 h1 h2)
 ·exact .of_right (intBits_le_64 h1 h2)
theorem CD:OpR X (binaryOp .Add) (rI0 fun i j=>.int (i+j)):=Dq fun _ _ _ _ _ _ _ q=>add_int q
theorem mY:OpR X (binaryOp .Sub) (rI0 fun i j=>.int (i - j)):=Dq fun _ _ _ _ _ _ _ q=>sub_int q
theorem eW:OpR X (binaryOp .Mult) (rI jt fun i j=>.int (i * j)):=opI fun _ _ _ _ _ _ _ hc q=>mul_int q hc.ok
theorem Bw:OpR X (binaryOp .FloorDiv) (rI n6 fun i j=>.int (i / j)):=opI fun i j _ _ _ _ _ hc q=>by
 have h1:(0:Int) < j:=hc.1
 have h2:j < 1073741824:=hc.2
 exact floordiv_int (by omega) (by rw [Int.fdiv_eq_ediv_of_nonneg i (by omega)];exact q) (.inl (PyProof.noPylong_small (by omega)))
theorem dZ:OpR X (binaryOp .Mod) (rI (fun _ j=>0 < j) fun i j=>.int (i % j)):=opI fun i j _ _ _ _ _ hc q=>by
 have h1:(0:Int) < j:=hc
 exact mod_int' (by omega) (by rw [Int.fmod_eq_emod_of_nonneg i (by omega)];exact q)
theorem wI:OpR X (binaryOp .Pow) (rI n8 fun i j=>.int (i ^ j.toNat)):=opI fun _ _ _ _ _ _ _ hc q=>pow_int_small hc.1 hc.2.1 hc.2.2 q
theorem unI {f:Value→Sem Value} {g:Int→Int}
  (rule:∀ (i:Int) (t:Tok) (s:Shared) (Q:Value→Shared→Prop) (E:Value→Shared→Prop),Q (.int (g i) s.toks) { s with toks:=s.toks+1 }→wpAny (model X.prog X.w) X.A (f (.int i t)) Q E s) :
  UnR X f (rU fun i=>.int (g i)):=by
 intro pins s σ H x v Q I rx h
 obtain ⟨i,rfl,q⟩:=h
 obtain ⟨t,rfl⟩:=rx
 exact rule i t s _ _ ⟨.int (g i),H,I.tok _,⟨_,rfl⟩,q⟩
theorem kE:UnR X (unaryOp .USub) (rU fun i=>.int (-i)):=unI fun _ _ _ _ _ q=>neg_int q
end
def yu:V→V→Bool
 | .non,.non=>true | .non,.int _=>true | .int _,.non=>true | .non,.bl _=>true | .bl _,.non=>true | .non,.str _=>true | .str _,.non=>true
 | .int _,.int _=>true | .bl _,.bl _=>true | .str _,.str _=>true | .byt _,.byt _=>true
 | .int _,.str _=>true | .str _,.int _=>true | .bl _,.str _=>true | .str _,.bl _=>true
 | _,_=>false
def rEq:R2:=fun x y H Q=>yu x y=true∧Q (.bl (decide (x=y))) H
def rNe:R2:=fun x y H Q=>yu x y=true∧Q (.bl (!decide (x=y))) H
theorem tN {i j:Int}:decide (V.int i=V.int j)=(i == j):=by
 rw [Bool.eq_iff_iff]
 simp
theorem wW {i j:Bool}:decide (V.bl i=V.bl j)=(i == j):=by
 rw [Bool.eq_iff_iff]
 simp
theorem tF {i j:Str}:decide (V.str i=V.str j)=(i == j):=by
 rw [Bool.eq_iff_iff]
 simp
theorem tI {i j:Array UInt8}:decide (V.byt i=V.byt j)=(i.toList == j.toList):=by
 rw [Bool.eq_iff_iff]
 cases i
 cases j
 simp
section
variable {X:Cx} {a b c:Expr} {ta tb tc:TE} {pos:Pos}
theorem a7 {pins:List (Addr×Obj)} {σ:St} {H:Hp} {s:Shared} {Q:VK} {k k':Bool} (I:Inv X pins σ H s) (q:Q (.bl k) H) (e:k=k'):EP X pins σ Q (.bool k') s:=by
 subst e
 exact ⟨.bl k,H,I,rfl,q⟩
theorem FK:OpR X (compareOp .Eq) rEq:=by
 intro pins s σ H x y v u Q I rx ry h
 obtain ⟨hs,q⟩:=h
 cases x with
 | non=>
  cases rx
  cases y with
  | non=>cases ry;exact PySem.EqNone.eq_none_none (a7 I q (by simp))
  | bl j=>cases ry;exact PySem.EqNone.eq_none_bool (a7 I q (by simp))
  | int j=>obtain ⟨t',rfl⟩:=ry;exact PySem.EqNone.eq_none_int (a7 I q (by simp))
  | str j=>obtain ⟨t',rfl⟩:=ry;exact PySem.EqNone.eq_none_str (a7 I q (by simp))
  | _=>exact absurd (show false=true from hs) Bool.false_ne_true
 | bl i=>
  cases rx
  cases y with
  | non=>cases ry;exact PySem.EqNone.eq_bool_none (a7 I q (by simp))
  | bl j=>cases ry;exact eq_bool (a7 I q wW)
  | str j=>obtain ⟨t',rfl⟩:=ry;exact PySem.EqMixed.eq_bool_str (a7 I q (by simp))
  | _=>exact absurd (show false=true from hs) Bool.false_ne_true
 | int i=>
  obtain ⟨t,rfl⟩:=rx
  cases y with
  | non=>cases ry;exact PySem.EqNone.eq_int_none (a7 I q (by simp))
  | int j=>obtain ⟨t',rfl⟩:=ry;exact eq_int (a7 I q tN)
  | str j=>obtain ⟨t',rfl⟩:=ry;exact PySem.EqMixed.eq_int_str (a7 I q (by simp))
  | _=>exact absurd (show false=true from hs) Bool.false_ne_true
 | str i=>
  obtain ⟨t,rfl⟩:=rx
  cases y with
  | non=>cases ry;exact PySem.EqNone.eq_str_none (a7 I q (by simp))
  | bl j=>cases ry;exact PySem.EqMixed.eq_str_bool (a7 I q (by simp))
  | int j=>obtain ⟨t',rfl⟩:=ry;exact PySem.EqMixed.eq_str_int (a7 I q (by simp))
  | str j=>obtain ⟨t',rfl⟩:=ry;exact eq_str (a7 I q tF)
  | _=>exact absurd (show false=true from hs) Bool.false_ne_true
 | byt i=>
  obtain ⟨t,rfl⟩:=rx
  cases y with
  | byt j=>obtain ⟨t',rfl⟩:=ry;exact PySem.W.eq_bytes (a7 I q tI)
  | _=>exact absurd (show false=true from hs) Bool.false_ne_true
 | _=>cases y<;>exact absurd (show false=true from hs) Bool.false_ne_true
theorem Fi:OpR X (compareOp .NotEq) rNe:=by
 intro pins s σ H x y v u Q I rx ry h
 obtain ⟨hs,q⟩:=h
 cases x with
 | non=>
  cases rx
  cases y with
  | non=>cases ry;exact PySem.EqNone.ne_none_none (a7 I q (by simp))
  | bl j=>cases ry;exact PySem.EqNone.ne_none_bool (a7 I q (by simp))
  | int j=>obtain ⟨t',rfl⟩:=ry;exact PySem.EqNone.ne_none_int (a7 I q (by simp))
  | str j=>obtain ⟨t',rfl⟩:=ry;exact PySem.EqNone.ne_none_str (a7 I q (by simp))
  | _=>exact absurd (show false=true from hs) Bool.false_ne_true
 | bl i=>
  cases rx
  cases y with
  | non=>cases ry;exact PySem.EqNone.ne_bool_none (a7 I q (by simp))
  | bl j=>cases ry;exact ne_bool (a7 I q (congrArg not wW))
  | str j=>obtain ⟨t',rfl⟩:=ry;exact PySem.EqMixed.ne_bool_str (a7 I q (by simp))
  | _=>exact absurd (show false=true from hs) Bool.false_ne_true
 | int i=>
  obtain ⟨t,rfl⟩:=rx
  cases y with
  | non=>cases ry;exact PySem.EqNone.ne_int_none (a7 I q (by simp))
  | int j=>obtain ⟨t',rfl⟩:=ry;exact ne_int (a7 I q (congrArg not tN))
  | str j=>obtain ⟨t',rfl⟩:=ry;exact PySem.EqMixed.ne_int_str (a7 I q (by simp))
  | _=>exact absurd (show false=true from hs) Bool.false_ne_true
 | str i=>
  obtain ⟨t,rfl⟩:=rx
  cases y with
  | non=>cases ry;exact PySem.EqNone.ne_str_none (a7 I q (by simp))
  | bl j=>cases ry;exact PySem.EqMixed.ne_str_bool (a7 I q (by simp))
  | int j=>obtain ⟨t',rfl⟩:=ry;exact PySem.EqMixed.ne_str_int (a7 I q (by simp))
  | str j=>obtain ⟨t',rfl⟩:=ry;exact ne_str (a7 I q (congrArg not tF))
  | _=>exact absurd (show false=true from hs) Bool.false_ne_true
 | byt i=>
  obtain ⟨t,rfl⟩:=rx
  cases y with
  | byt j=>obtain ⟨t',rfl⟩:=ry;exact PySem.W.ne_bytes (a7 I q (congrArg not tI))
  | _=>exact absurd (show false=true from hs) Bool.false_ne_true
 | _=>cases y<;>exact absurd (show false=true from hs) Bool.false_ne_true
theorem gf:OpR X (compareOp .Lt) (rI0 fun i j=>.bl (decide (i < j))):=u3 fun _ _ _ _ _ _ _ q=>lt_int q
theorem gi:OpR X (compareOp .LtE) (rI0 fun i j=>.bl (decide (i≤j))):=u3 fun _ _ _ _ _ _ _ q=>le_int q
theorem lX:OpR X (compareOp .Gt) (rI0 fun i j=>.bl (decide (j < i))):=u3 fun _ _ _ _ _ _ _ q=>gt_int q
theorem Er:OpR X (compareOp .GtE) (rI0 fun i j=>.bl (decide (j≤i))):=u3 fun _ _ _ _ _ _ _ q=>ge_int q
theorem C6:OpR X (compareOp .Is) (fun x y H Q=>y=.non∧Q (.bl (decide (x=.non))) H):=by
  intro pins s σ H x y v u Q I rx ry h
  obtain ⟨rfl,q⟩:=h
  cases ry
  refine is_none_gen (a7 I q ?_)
  cases x<;>first
    | (cases rx;rfl)
    | (obtain ⟨t,rfl⟩:=rx;rfl)
theorem OpR.or {f:Value→Value→Sem Value} {r r':R2} (h:OpR X f r) (h':OpR X f r'):OpR X f (fun x y H Q=>r x y H Q∨r' x y H Q):=by
 intro pins s σ H x y v u Q I rx ry q
 rcases q with q | q
 ·exact h pins s σ H x y v u Q I rx ry q
 ·exact h' pins s σ H x y v u Q I rx ry q
theorem vq (b:Expr) {op:CmpOp} (h:op≠.In:=by decide) (h2:op≠.NotIn:=by decide):behindInMarks op b=false:=by
  have e1:(op == CmpOp.In)=false:=by cases op<;>first | rfl | exact absurd rfl h
  have e2:(op == CmpOp.NotIn)=false:=by cases op<;>first | rfl | exact absurd rfl h2
  cases b<;>simp [behindInMarks,e1,e2]
theorem Bj {op:CmpOp} {r:R2} (ho:OpR X (compareOp op) r) (ha:PE X a ta) (hb:PE X b tb) (hm:behindInMarks op b=false):PE X (.Compare a [op] [b] pos) (tOp r ta tb):=by
 intro pins s σ H Q I h
 exact wpAny_Compare1 (ya ha hb I h fun v u s2 x y H2 I2 rx ry q=>ho pins s2 σ H2 x y v u Q I2 rx ry q) hm
def zx (t:TE):TT:=fun σ H Q=>t σ H fun x H'=>∃ k,x=.bl k∧Q k H'
theorem Ai {op:CmpOp} {r:R2} (ho:OpR X (compareOp op) r) (ha:PE X a ta) (hb:PE X b tb) (hm:behindInMarks op b=false):PT X (.Compare a [op] [b] pos) (zx (tOp r ta tb)):=by
 intro pins s σ H Q I h
 refine wpAny_isTrue_Compare1 (thn (ha pins s σ H _ I h) fun v s1 ⟨x,H1,I1,r1,q1⟩=>thn (hb pins s1 σ H1 _ I1 q1) fun u s2 ⟨y,H2,I2,r2,q2⟩=>
  thn (ho pins s2 σ H2 x y v u _ I2 r1 r2 q2) fun c s3 ⟨z,H3,I3,r3,k,e,q3⟩=>?_) hm
 subst e
 cases r3
 exact wpAny_truthy_bool ⟨H3,I3,q3⟩
def qf (r r':R2) (ta tb tc:TE):TE:=fun σ H Q=>ta σ H fun x H1=>tb σ H1 fun y H2=>r x y H2 fun z H3=>∃ k,z=.bl k ∧
 (if k=true then tc σ H3 fun w' H4=>r' y w' H4 Q else Q (.bl false) H3)
theorem ye {op op':CmpOp} {r r':R2} (ho:OpR X (compareOp op) r) (ho':OpR X (compareOp op') r') (ha:PE X a ta) (hb:PE X b tb) (hc:PE X c tc)
  (hm:lastMarks [op,op'] [b,c]=false:=by with_unfolding_all rfl):PE X (.Compare a [op,op'] [b,c] pos) (qf r r' ta tb tc):=by
 intro pins s σ H Q I h
 refine Compare_chain (thn (ha pins s σ H _ I h) fun v s1 ⟨x,H1,I1,r1,q1⟩=>chain_link (thn (hb pins s1 σ H1 _ I1 q1) fun u s2 ⟨y,H2,I2,r2,q2⟩=>
  thn (ho pins s2 σ H2 x y v u _ I2 r1 r2 q2) fun d s3 ⟨z,H3,I3,r3,k,e,q3⟩=>?_)) hm
 subst e
 cases r3
 refine wpAny_truthy_bool ?_
 cases k with
 | false=>exact ite_ff ⟨.bl false,H3,I3,rfl,q3⟩
 | true=>exact ite_tt (chain_last (thn (hc pins s3 σ H3 _ I3 q3) fun w' s4 ⟨z',H4,I4,r4,q4⟩=>ho' pins s4 σ H4 y z' u w' Q I4 r2 r4 q4))
theorem yH {op op':CmpOp} {r r':R2} (ho:OpR X (compareOp op) r) (ho':OpR X (compareOp op') r') (ha:PE X a ta) (hb:PE X b tb) (hc:PE X c tc)
  (hm:lastMarks [op,op'] [b,c]=false:=by with_unfolding_all rfl):PT X (.Compare a [op,op'] [b,c] pos) (zx (qf r r' ta tb tc)):=by
 intro pins s σ H Q I h
 refine isTrue_chain (thn (ha pins s σ H _ I h) fun v s1 ⟨x,H1,I1,r1,q1⟩=>test_link (thn (hb pins s1 σ H1 _ I1 q1) fun u s2 ⟨y,H2,I2,r2,q2⟩=>
  thn (ho pins s2 σ H2 x y v u _ I2 r1 r2 q2) fun d s3 ⟨z,H3,I3,r3,k,e,q3⟩=>?_)) hm
 subst e
 cases r3
 refine wpAny_truthy_bool ?_
 cases k with
 | false=>
  obtain ⟨k',e',q'⟩:=q3
  cases e'
  exact ite_ff ⟨H3,I3,q'⟩
 | true=>
  refine ite_tt (test_last (thn (hc pins s3 σ H3 _ I3 q3) fun w' s4 ⟨z',H4,I4,r4,q4⟩=>thn (ho' pins s4 σ H4 y z' u w' _ I4 r2 r4 q4) fun d' s5 ⟨z2,H5,I5,r5,k2,e2,q5⟩=>?_))
  subst e2
  cases r5
  exact wpAny_truthy_bool ⟨H5,I5,q5⟩
def xD (K:PySem.W.Frag) (x:V) (H:Hp) (k:Bool):Prop:=
 match x with
 | .non=>k=false
 | .bl b=>k=b
 | .int i=>k=(i != 0)
 | .str y=>y.length≤sizeLine∧k=((y.length:Int) != 0)
 | .byt y=>y.size≤sizeLine∧k=((y.size:Int) != 0)
 | .ref p=>(∃ xs,SqL K H p xs∧k=!xs.isEmpty)∨(∃ xs,SqT K H p xs∧k=!xs.isEmpty)∨∃ kvs,H p=some (.dK kvs)∧k=!kvs.isEmpty
 | _=>False
theorem u0 {κ:Type} {kvs:List (κ×V)} {vs:List (κ×Value)} (r:KV kvs vs):(!vs.isEmpty)=!kvs.isEmpty:=by
 cases r<;>rfl
theorem mV {xs:List V} {its:List Value} (r:Vals xs its):(!its.toArray.isEmpty)=!xs.isEmpty:=by
 cases r<;>simp
theorem kJ:(sizeLine:Nat) < 2 ^ 63:=by rw [sizeLine_eq];decide
theorem Ct:Ha X (fun x H Q=>∃ k,xD X.K x H k∧Q k H):=by
 intro pins s σ H x v Q I rx h
 obtain ⟨k,e,q⟩:=h
 have hl:=kJ
 have hs:sizeLine=16777216:=sizeLine_eq
 cases x with
 | non=>
  cases rx
  have e':k=false:=e
  subst e'
  exact truthy_none ⟨H,I,q⟩
 | bl b=>
  cases rx
  have e':k=b:=e
  subst e'
  exact wpAny_truthy_bool ⟨H,I,q⟩
 | int i=>
  obtain ⟨t,rfl⟩:=rx
  have e':k=(i != 0):=e
  subst e'
  exact PySem.P.truthy_int ⟨H,I,q⟩
 | str y=>
  obtain ⟨t,rfl⟩:=rx
  obtain ⟨hy,e'⟩:y.length≤sizeLine∧k=((y.length:Int) != 0):=e
  subst e'
  exact PySem.P.truthy_str (by omega) ⟨H,I.tok _,q⟩
 | byt y=>
  obtain ⟨t,rfl⟩:=rx
  obtain ⟨hy,e'⟩:y.size≤sizeLine∧k=((y.size:Int) != 0):=e
  subst e'
  exact PySem.W.truthy_bytes (by omega) ⟨H,I.tok _,q⟩
 | ref p=>
  cases rx
  have e':(∃ xs,SqL X.K H p xs∧k=!xs.isEmpty)∨(∃ xs,SqT X.K H p xs∧k=!xs.isEmpty)∨∃ kvs,H p=some (.dK kvs)∧k=!kvs.isEmpty:=e
  rcases e' with ⟨xs,hx,e'⟩ | ⟨xs,hx,e'⟩ | ⟨kvs,hx,e'⟩
  ·subst e'
   obtain ⟨its,r,pl,hz⟩:=I.list hx
   have hlen:=r.length
   exact wpAny_truthy_list pl.isList (by simp only [List.size_toArray];omega) ⟨H,I.tok _,by rw [mV r];exact q⟩
  ·subst e'
   obtain ⟨its,r,pl,hz⟩:=I.tuple hx
   have hlen:=r.length
   exact truthy_tuple pl (by simp only [List.size_toArray];omega) ⟨H,I.tok _,by rw [mV r];exact q⟩
  ·subst e'
   obtain ⟨hz,hS,vs,r,m⟩:kvs.length≤sizeLine∧(p == sysModules)=false∧∃ vs,KV kvs vs∧s.heap.DictOf (aW X.prog X.w) p vs:=I.hok p _ hx
   have hlen:kvs.length=vs.length:=Paired.length r
   exact wpAny_truthy_dict hS m (by omega) ⟨H,I.tok _,by rw [u0 r];exact q⟩
 | _=>exact (show False from e).elim
theorem yY (ha:PE X a ta) (he:∀ whole,isTrue a X.env whole=(do let v ← whole;standAt a.pos;holding [v] (truthy v))) :
  PT X a (fun σ H Q=>ta σ H fun x H'=>∃ k,xD X.K x H' k∧Q k H'):=by
 intro pins s σ H Q I h
 exact isTrue_plain (thn (ha pins s σ H _ I h) fun v s1 ⟨x,H1,I1,r1,q1⟩=>Ct pins s1 σ H1 x v Q I1 r1 q1) (he _)
theorem uI:OpR X (binaryOp .Add) (fun x y H Q=>∃ i j,x=.str i∧y=.str j∧i.length+j.length≤sizeLine∧Q (.str (i++j)) H):=by
 intro pins s σ H x y v u Q I rx ry h
 obtain ⟨i,j,rfl,rfl,hz,q⟩:=h
 obtain ⟨t,rfl⟩:=rx
 obtain ⟨t',rfl⟩:=ry
 exact add_str (fun t' tk=>⟨.str (i++j),H,I.tok _,⟨_,rfl⟩,q⟩) hz
theorem vals1 {x:V} {us:List Value} (r:Vals [x] us):∃ u,us=[u]∧RelV x u:=by
 cases r with
 | cons r1 r2=>cases r2;exact ⟨_,rfl,r1⟩
theorem vals2 {x y:V} {us:List Value} (r:Vals [x,y] us):∃ u w',us=[u,w']∧RelV x u∧RelV y w':=by
 cases r with
 | cons r1 r2=>
  cases r2 with
  | cons r3 r4=>cases r4;exact ⟨_,_,rfl,r1,r3⟩
theorem vH (hc:X.calm=true):bw X (.builtin "max") (fun xs H Q=>∃ i j,xs=[.int i,.int j]∧Q (.int (if j > i then j else i)) H):=by
 intro pins s σ H xs us Q I r h
 obtain ⟨i,j,rfl,q⟩:=h
 obtain ⟨u,w',rfl,⟨t,rfl⟩,⟨t',rfl⟩⟩:=vals2 r
 refine max_two_ints (I.ok.hd hc) fun h' tk k=>⟨_,H,I.kept k,?_,q⟩
 by_cases hj:j > i
 ·rw [if_pos hj,if_pos hj];exact ⟨_,rfl⟩
 ·rw [if_neg hj,if_neg hj];exact ⟨_,rfl⟩
theorem xy (hc:X.calm=true):bw X (.builtin "min") (fun xs H Q=>∃ i j,xs=[.int i,.int j]∧Q (.int (if j < i then j else i)) H):=by
 intro pins s σ H xs us Q I r h
 obtain ⟨i,j,rfl,q⟩:=h
 obtain ⟨u,w',rfl,⟨t,rfl⟩,⟨t',rfl⟩⟩:=vals2 r
 refine min_two_ints (I.ok.hd hc) fun h' tk k=>⟨_,H,I.kept k,?_,q⟩
 by_cases hj:j < i
 ·rw [if_pos hj,if_pos hj];exact ⟨_,rfl⟩
 ·rw [if_neg hj,if_neg hj];exact ⟨_,rfl⟩
theorem vo:bw X (.type "int") (fun xs H Q=>(∃ i,xs=[.int i]∧Q (.int i) H)∨∃ k,xs=[.bl k]∧Q (.int (if k then 1 else 0)) H):=by
 intro pins s σ H xs us Q I r h
 rcases h with ⟨i,rfl,q⟩ | ⟨k,rfl,q⟩
 ·obtain ⟨u,rfl,t,rfl⟩:=vals1 r
  exact call_int_int ⟨.int i,H,I,⟨_,rfl⟩,q⟩
 ·obtain ⟨u,rfl,r1⟩:=vals1 r
  cases r1
  exact call_int_bool ⟨.int (if k then 1 else 0),H,I.tok _,⟨_,rfl⟩,q⟩
def GS (K:PySem.W.Frag) (x:V) (H:Hp) (n:Nat):Prop:=
 match x with
 | .str y=>y.length≤sizeLine∧n=y.length
 | .byt y=>y.size≤sizeLine∧n=y.size
 | .ref p=>(∃ xs,SqL K H p xs∧n=xs.length)∨∃ xs,SqT K H p xs∧n=xs.length
 | _=>False
theorem qV:bw X (.builtin "len") (fun xs H Q=>∃ x n,xs=[x]∧GS X.K x H n∧Q (.int n) H):=by
 intro pins s σ H xs us Q I r h
 obtain ⟨x,n,rfl,e,q⟩:=h
 obtain ⟨u,rfl,rx⟩:=vals1 r
 have hl:=kJ
 have hs:sizeLine=16777216:=sizeLine_eq
 cases x with
 | str y=>
  obtain ⟨t,rfl⟩:=rx
  obtain ⟨hy,e'⟩:y.length≤sizeLine∧n=y.length:=e
  subst e'
  exact len_str (by omega) ⟨.int _,H,I.tok _,⟨_,rfl⟩,q⟩
 | byt y=>
  obtain ⟨t,rfl⟩:=rx
  obtain ⟨hy,e'⟩:y.size≤sizeLine∧n=y.size:=e
  subst e'
  exact PySem.W.len_bytes (by omega) ⟨.int _,H,I.tok _,⟨_,rfl⟩,q⟩
 | ref p=>
  cases rx
  have e':(∃ xs,SqL X.K H p xs∧n=xs.length)∨∃ xs,SqT X.K H p xs∧n=xs.length:=e
  rcases e' with ⟨xs,hx,e'⟩ | ⟨xs,hx,e'⟩
  ·subst e'
   obtain ⟨its,r',pl,hz⟩:=I.list hx
   have hlen:=r'.length
   exact Calls.call_len_list pl.isList (by simp only [List.size_toArray];omega) ⟨.int xs.length,H,I.tok _,⟨_,by simp only [List.size_toArray];rw [hlen]⟩,q⟩
  ·subst e'
   obtain ⟨its,r',pl,hz⟩:=I.tuple hx
   have hlen:=r'.length
   exact len_tuple pl (by simp only [List.size_toArray];omega) ⟨.int xs.length,H,I.tok _,⟨_,by simp only [List.size_toArray];rw [hlen]⟩,q⟩
 | _=>exact (show False from e).elim
end
structure xR (h:Heap) (x dx C:Addr) (mA:Str→Option Value):Prop where
 obj:h.get? x=some (PySem.W.instObj C dx)
 ns:h.Ns1 dx mA
 ne:dx≠x
theorem vy {h:Heap} {dx:Addr} {mA:Str→Option Value} (n:h.Ns1 dx mA):∃ od,h.get? dx=some od∧∀ name,PySem.W.lookIn name od=some (mA name):=by
 obtain ⟨o,es,ep,ho,hd,hk,_,hm⟩:=n
 refine ⟨o,ho,fun name=>?_⟩
 have e:=hm name
 unfold nsFind findBy at e
 rw [← Array.find?_toList] at e
 unfold PySem.W.lookIn
 rw [hd]
 dsimp only
 split
 ·rename_i y q
  rw [q] at e
  exact congrArg some e
 ·rename_i q
  rw [q] at e
  have a:es.toList.any (·.refKey)=false:=by
   rw [List.any_eq_false]
   intro y hy
   obtain ⟨z,t,hkey⟩:=hk y (Array.mem_toList_iff.mp hy)
   simp [DictEntry.refKey,hkey]
  have a':¬es.toList.any (·.refKey)=true:=by rw [a];exact Bool.false_ne_true
  rw [if_neg a']
  exact congrArg some e
theorem xR.look {h:Heap} {x dx C:Addr} {mA:Str→Option Value} (I:xR h x dx C mA):∃ od,PySem.W.InstAt h x (PySem.W.instObj C dx) C (some od)∧∀ name,PySem.W.lookIn name od=some (mA name):=
 let ⟨od,ho,hl⟩:=vy I.ns
 ⟨od,⟨I.obj,rfl,rfl,ho⟩,hl⟩
section
variable {prog:Program} {w:World} {A:Around} {E:Value→Shared→Prop} {s:Shared} {K:PySem.W.Frag} {x dx C f:Addr} {mA:Str→Option Value} {name:Str} {v:Value}
end
theorem fe.some_of {v:V} {o:Option Value} (r:fe (some v) o):∃ u,o=some u∧RelV v u:=by
 cases o with
 | none=>exact (show False from r).elim
 | some u=>exact ⟨u,rfl,r⟩
section
variable {P:Program} {w:World} {H H':Hp} {h h':Heap} {a C dx:Addr} {fs fs':List (Str×V)}
theorem z9 (hok:HOk P w H h) (e:H a=some (.ins C dx fs)):∃ mA,xR h a dx C mA∧(∀ f,fe (fs.lookup f) (mA f))∧PySem.Within mA (fs.map (·.1))∧fs.length≤1000∧H dx=some (.own a):=by
 obtain ⟨d,z,ne,ob,mA,n,r,q⟩:=(show bj P w H h a (.ins C dx fs) from hok a _ e)
 exact ⟨mA,⟨ob,n,ne⟩,r,q,z,d⟩
end
structure Cls (K:PySem.W.Frag) (C:Addr):Prop where
 pg:PySem.W.plainGet K C Str.empty=true
 hd:PySem.W.hasDictIn K C=true
 po:PySem.W.plainOver K C=true
 sa:PySem.W.findIn K (.ref C) "__setattr__"=some (some (.builtin "object.__setattr__"))
theorem Cls.get {K:PySem.W.Frag} {C:Addr} (c:Cls K C) (f:Str):PySem.W.plainGet K C f=true:=c.pg
structure Con (K:PySem.W.Frag) (C:Addr) (f:Str) (v:V) (u:Value):Prop where
 at_:PySem.W.findIn K (.ref C) f=some (some u)
 rel:RelV v u
 get:PySem.W.specialIn K u "__get__"=some none
 cp:PySem.W.copiedNames.contains f=false
structure Meth (K:PySem.W.Frag) (C:Addr) (m:Str) (f:Addr):Prop where
 at_:PySem.W.findIn K (.ref C) m=some (some (.ref f))
 fn:PySem.W.isFn K (.ref f)=true
 kp:PySem.W.keepIn K (.ref f)=true
section
variable {X:Cx} {pins:List (Addr×Obj)} {σ:St} {H:Hp} {s:Shared} {a C dx:Addr} {fs:List (Str×V)} {f:Str} {v:V} {A:Around} {E:Value→Shared→Prop}
end
section
variable {X:Cx} {o e value:Expr} {f:Str} {pos pos' tpos:Pos} {ta tv:TE}
end
section
variable {X:Cx} {pins:List (Addr×Obj)} {σ:St} {H:Hp} {s:Shared} {A:Around} {E:Value→Shared→Prop} {Q:Value→Shared→Prop} {c:Value} {b:Bool}
inductive fj (K:PySem.W.Frag) (H:Hp):V→Value→Prop where
 | non:fj K H .non (.type "NoneType")
 | bl (x:Bool):fj K H (.bl x) (.type "bool")
 | int (i:Int):fj K H (.int i) (.type "int")
 | str (x:Str):fj K H (.str x) (.type "str")
 | flt (x:UInt64):fj K H (.flt x) (.type "float")
 | lst {a:Addr} {xs:List V} (e:H a=some (.lst xs)):fj K H (.ref a) (.type "list")
 | frz {a:Addr} {o:Obj} {xs:List V} (e:H a=some (.frz o (.lst xs))):fj K H (.ref a) (.type "list")
 | tup {a:Addr} {xs:List V} (e:H a=some (.tup xs)):fj K H (.ref a) (.type "tuple")
 | dK {a:Addr} {kvs:List (Key×V)} (e:H a=some (.dK kvs)):fj K H (.ref a) (.type "dict")
 | dT {a:Addr} {kvs:List (List Key×V)} (e:H a=some (.dT kvs)):fj K H (.ref a) (.type "dict")
 | ins {a C dx:Addr} {fs:List (Str×V)} (e:H a=some (.ins C dx fs)) (cl:Cls K C) (ha:PySem.W.findIn K (.ref C) "__class__"=some (some (.builtin "object.__class__")))
   (hn:PySem.W.specialIn K (.builtin "object.__class__") "__get__"=some (some (.builtin "getset_descriptor.__get__"))) (htk:PySem.W.takesIn K (.builtin "object.__class__")=some true)
   (hm:PySem.W.mroIn K C (.type "object")=some true):fj K H (.ref a) (.ref C)
theorem wJ {x:V} {u t:Value} (I:Inv X pins σ H s) (rx:RelV x u) (ty:fj X.K H x t) (e:PySem.W.kitOne X.K t c=some b) (h:∀ tk,Q (.bool b) { s with toks:=tk }) :
  wpAny (model X.prog X.w) A (call (.builtin "isinstance") [u,c]) Q E s:=by
 cases ty with
 | non=>cases (show u=Value.none from rx);exact PySem.W.kia_one PySem.W.kitx_none I.kIn True.intro e (fun z=>nomatch z) h
 | bl y=>cases (show u=Value.bool y from rx);exact PySem.W.kia_one PySem.W.kitx_bool I.kIn True.intro e (fun z=>nomatch z) h
 | int i=>obtain ⟨t,q⟩:=(show ∃ t,u=Value.int i t from rx);cases q;exact PySem.W.kia_one PySem.W.kitx_int I.kIn True.intro e (fun z=>nomatch z) h
 | str y=>obtain ⟨t,q⟩:=(show ∃ t,u=Value.str y t from rx);cases q;exact PySem.W.kia_one PySem.W.kitx_str I.kIn True.intro e (fun z=>nomatch z) h
 | flt y=>obtain ⟨t,q⟩:=(show ∃ t,u=Value.float y t from rx);cases q;exact PySem.W.kia_one PySem.W.kitx_float I.kIn True.intro e (fun z=>nomatch z) h
 | @lst a xs ea=>
  cases (show u=Value.ref a from rx)
  obtain ⟨_,_,n,_,h1⟩:=(show bj X.prog X.w H s.heap a (.lst xs) from I.hok a _ ea)
  exact PySem.W.kia_one PySem.W.kitx_list I.kIn ⟨_,h1,rfl⟩ e (fun z=>nomatch z) h
 | @frz a ob xs ea=>
  cases (show u=Value.ref a from rx)
  obtain ⟨_,_,_,n,_,h1⟩:=(show bj X.prog X.w H s.heap a (.frz ob (.lst xs)) from I.hok a _ ea)
  exact PySem.W.kia_one PySem.W.kitx_list I.kIn ⟨_,h1,rfl⟩ e (fun z=>nomatch z) h
 | @tup a xs ea=>
  cases (show u=Value.ref a from rx)
  obtain ⟨_,_,_,p⟩:=(show bj X.prog X.w H s.heap a (.tup xs) from I.hok a _ ea)
  obtain ⟨o,h1,h2,_⟩:=p
  exact PySem.W.kia_one PySem.W.kitx_tuple I.kIn ⟨o,h1,h2⟩ e (fun z=>nomatch z) h
 | @dK a kvs ea=>
  cases (show u=Value.ref a from rx)
  obtain ⟨_,_,vs,_,p⟩:=(show bj X.prog X.w H s.heap a (.dK kvs) from I.hok a _ ea)
  obtain ⟨o,es,ep,h1,h2,_⟩:=p
  exact PySem.W.kia_one PySem.W.kitx_dict I.kIn ⟨o,h1,h2.1⟩ e (fun z=>nomatch z) h
 | @dT a kvs ea=>
  cases (show u=Value.ref a from rx)
  obtain ⟨_,_,xs,_,o,es,ep,h1,h2,_⟩:=(show bj X.prog X.w H s.heap a (.dT kvs) from I.hok a _ ea)
  exact PySem.W.kia_one PySem.W.kitx_dict I.kIn ⟨o,h1,h2.1⟩ e (fun z=>nomatch z) h
 | @ins a C dx fs ea cl ha hn htk hm=>
  cases (show u=Value.ref a from rx)
  obtain ⟨mA,O,_⟩:=z9 I.hok ea
  obtain ⟨od,J,_⟩:=O.look
  exact PySem.W.kia_one (PySem.W.kitx_own (cl.get _) cl.hd ha hn htk hm) I.kIn J e (fun z=>nomatch z) h
end
structure c9 (k:Nat) (A:Around):Prop where
 hd:A.handled=none
 dp:A.depth+3 * k+5 < recursionLimit
 un:A.units+16 * k+200 < cLine
theorem c9.mono {j k:Nat} {A:Around} (r:c9 k A) (h:j≤k):c9 j A:=⟨r.hd,by have:=r.dp;omega,by have:=r.un;omega⟩
theorem c9.deeper {k:Nat} {A:Around} (r:c9 (k+1) A) (env:Env):c9 k (A.deeper env):=
 ⟨r.hd,by have:=r.dp;show A.depth+1+3 * k+5 < _;omega,by have:=r.un;show A.units+3+16 * k+200 < _;omega⟩
theorem c9.depth {k:Nat} {A:Around} (r:c9 k A):A.depth < recursionLimit:=by have:=r.dp;omega
theorem c9.units {k:Nat} {A:Around} (r:c9 k A):A.units+64 < cLine:=by have:=r.un;omega
def Gs:TA:=fun _ H Q=>Q [] H
def FD (ta:TE) (tr:TA):TA:=fun σ H Q=>ta σ H fun x H1=>tr σ H1 fun xs H2=>Q (x :: xs) H2
section
variable {X:Cx} {e:Expr} {es:List Expr} {te:TE} {t:TA} {pos:Pos}
theorem fK:PA X [] Gs:=fun _ _ _ _ H Q I h=>Calls.spliced_nil ⟨[],H,I,.nil,h⟩
theorem dH (ha:PE X e te) (hr:PA X es t) (hs:starEach (e :: es) X.env=(false,eval e X.env) :: starEach es X.env:=by rfl):PA X (e :: es) (FD te t):=by
 intro pos pins s σ H Q I h
 rw [hs]
 show wpAny _ _ (spliced ((false,eval e X.env) :: backTo pos (starEach es X.env))) _ _ s
 refine Calls.spliced_cons (thn (ha pins s σ H _ I h) fun u s1 ⟨x,H1,I1,r1,q1⟩=>?_)
 exact thn (hr pos pins s1 σ H1 _ I1 q1) fun us s2 ⟨xs,H2,I2,r2,q2⟩=>⟨x :: xs,H2,I2,.cons r1 r2,q2⟩
def G0 (t:TA):TE:=fun σ H Q=>t σ H fun xs H1=>xs.length≤sizeLine∧∀ p,H1 p=none→Q (.ref p) (upd H1 p (.tup xs))
def GY (t:TA):TE:=fun σ H Q=>t σ H fun xs H1=>xs.length≤sizeLine∧∀ p,H1 p=none→Q (.ref p) (upd H1 p (.lst xs))
theorem CH {x1} (h:PA X es t):PE X (.Tuple es x1 pos) (G0 t):=by
 intro pins s σ H Q I hq
 refine wpAny_Tuple_spliced (thn (h pos pins s σ H _ I hq) fun us s1 ⟨xs,H1,I1,r,z,q⟩=>⟨by rw [← r.length];exact z,?_⟩)
 have hf:H1 s1.heap.objs.size=none:=I1.hok.fresh (Nat.le_refl _)
 refine ⟨.ref s1.heap.objs.size,upd H1 s1.heap.objs.size (.tup xs),I1.laid (t':=s1.toks) (fun b u e=>Heap.get?_push_of_some _ e) (Nat.le_refl _) ?_,rfl,q _ hf⟩
 exact ⟨z,us,r,⟨_,Heap.get?_push_size _ rfl,rfl,_,rfl⟩⟩
theorem vw (h:PA X es t):PE X (.List es pos) (GY t):=by
 intro pins s σ H Q I hq
 refine wpAny_List_spliced (thn (h pos pins s σ H _ I hq) fun us s1 ⟨xs,H1,I1,r,z,q⟩=>⟨by rw [← r.length];exact z,?_⟩)
 have hf:H1 s1.heap.objs.size=none:=I1.hok.fresh (Nat.le_refl _)
 refine ⟨.ref s1.heap.objs.size,upd H1 s1.heap.objs.size (.lst xs),I1.laid (t':=s1.toks) (fun b u e=>Heap.get?_push_of_some _ e) (Nat.le_refl _) ?_,rfl,q _ hf⟩
 exact ⟨z,us,0,r,Heap.get?_push_size _ rfl⟩
end
abbrev Sp:=List V→Hp→VK→XK→Prop
abbrev CXT:=List Env→Hp→Shared→XK→Value→Shared→Prop
structure uE (P:Program) (w:World) (K:PySem.W.Frag) (mg:Str→Option Value) (base:Heap) (A:Around) (outer:List Env) (s:Shared) (H:Hp):Prop where
 frames:A.frames=some outer
 mod:Mod K mg base
 bs:∀ b o,base.get? b=some o→s.heap.get? b=some o∧H b=none
 bsz:base.objs.size≤s.heap.objs.size
 iz:s.heap.FunFrames base outer
 frf:∀ b∈frs outer,H b=none
 hok:HOk P w H s.heap
 bare:AllBare s.gens
def CE (outer:List Env) (P:Program) (w:World) (H:Hp) (s:Shared) (Q:VK) (u:Value) (s':Shared):Prop:=
 ∃ v H',s'.os=s.os∧AllBare s'.gens∧Un (frs outer) [] H H' s.heap s'.heap∧HOk P w H' s'.heap∧RelV v u∧Q v H'
def CR (CX:CXT) (outer:List Env) (P:Program) (w:World) (H:Hp) (s:Shared) (Q:VK) (E:XK) (r:Result) (s':Shared):Prop:=
 match r with
 | .ok (.ret u)=>CE outer P w H s Q u s'
 | .ok _=>False
 | .error e=>CX outer H s E e s'
structure ff (P:Program) (w:World) (K:PySem.W.Frag) (mg:Str→Option Value) (base:Heap) (CX:CXT) (k:Nat) (f:Addr) (fd:FuncData) (ps:List Str) (sp:Sp):Prop where
 len:∀ vs H Q E,sp vs H Q E→vs.length=ps.length
 run:∀ (A:Around) (outer:List Env) (s:Shared) (H:Hp) (args:Args) (us:List Value) (vs:List V) (Q:VK) (E:XK),c9 k A→uE P w K mg base A outer s H→BindsTo s fd args (ps.zip us)→Vals vs us→sp vs H Q E →
  codeAny (model P w) A (.call (.ref f) args) (CR CX outer P w H s Q E) s
theorem ff.imp {P:Program} {w:World} {K:PySem.W.Frag} {mg:Str→Option Value} {base:Heap} {CX:CXT} {k:Nat} {f:Addr} {fd:FuncData} {ps:List Str} {sp sp':Sp} (F:ff P w K mg base CX k f fd ps sp)
  (h:∀ vs H Q E,sp' vs H Q E→sp vs H Q E):ff P w K mg base CX k f fd ps sp':=
 ⟨fun vs H Q E q=>F.len vs H Q E (h _ _ _ _ q),fun A outer s H args us vs Q E hr he hb hv hs=>F.run A outer s H args us vs Q E hr he hb hv (h _ _ _ _ hs)⟩
section
variable {X:Cx} {pins:List (Addr×Obj)} {σ:St} {H:Hp} {s s':Shared}
theorem Inv.Gz (I:Inv X pins σ H s):uE X.prog X.w X.K X.mg X.base X.A X.stack s H:=
 ⟨I.ok.frames,I.ok.mod,I.bs,Nat.le_trans I.ok.bsz I.sz,I.stack,I.tD,I.hok,I.bare⟩
theorem Inv.after {Q:VK} {u:Value} (I:Inv X pins σ H s) (h:CE X.stack X.prog X.w H s Q u s'):EP X pins σ Q u s':=by
 obtain ⟨v,H',os,bare,un,hok,r,q⟩:=h
 obtain ⟨hh,g,d,t,os'⟩:=s'
 obtain rfl:os'=s.os:=os
 exact ⟨v,H',I.call (h':=hh) (g':=g) (d':=d) (t':=t) (ch:=[]) un hok bare (fun b z=>absurd z (by simp)),r,q⟩
end
def EI (sp:Sp) (dvs:List V) (E:XK) (t:TA):TE:=fun σ H Q=>t σ H fun vs H1=>sp (vs++dvs) H1 Q E
def Binds (K:PySem.W.Frag) (fd:FuncData) (ps:List Str) (ds:List Value):Prop:=
 ∀ (s:Shared) (us:List Value),K.In s.heap→(us++ds).length=ps.length→BindsTo s fd ⟨us,[]⟩ (ps.zip (us++ds))
theorem Binds.all {K:PySem.W.Frag} {fd:FuncData} {ps:List Str} (h:∀ us:List Value,us.length=ps.length→bindArgs fd ⟨us,[]⟩=pure (ps.zip us)):Binds K fd ps []:=fun s us _ hl=>by
 rw [List.append_nil] at hl ⊢
 exact .of_eq (h us hl)
def Passes (CX:CXT) (X:Cx) (E:XK):Prop:=∀ (pins:List (Addr×Obj)) (σ:St) (H:Hp) (s:Shared) (e:Value) (s':Shared),Inv X pins σ H s→CX X.stack H s E e s'→X.xe e s'
section
variable {X:Cx} {CX:CXT} {k:Nat} {f C:Addr} {fd:FuncData} {ps:List Str} {sp:Sp} {dvs:List V} {ds:List Value} {E:XK} {x m:Str} {p pos apos:Pos} {e o:Expr} {es:List Expr} {ta:TE} {t:TA}
theorem Ca {pins:List (Addr×Obj)} {σ:St} {H:Hp} {s:Shared} {Q:VK} {us:List Value} {vs:List V} (F:ff X.prog X.w X.K X.mg X.base CX k f fd ps sp) (hr:c9 k X.A) (hb:Binds X.K fd ps ds) (hd:Vals dvs ds) (hx:Passes CX X E)
  (I:Inv X pins σ H s) (r:Vals vs us) (h:sp (vs++dvs) H Q E):wpAny (model X.prog X.w) X.A (call (.ref f) us) (EP X pins σ Q) X.xe s:=by
 have r2:Vals (vs++dvs) (us++ds):=r.append hd
 have hl:(us++ds).length=ps.length:=by rw [← r2.length];exact F.len _ _ _ _ h
 refine wpAny_call (codeAny_mono (F.run X.A X.stack s H ⟨us,[]⟩ (us++ds) (vs++dvs) Q E hr I.Gz (hb s us I.kIn hl) r2 h) fun r s' hq=>?_)
 cases r with
 | error e=>exact hx pins σ H s e s' I hq
 | ok fl=>
  cases fl with
  | ret u=>exact I.after hq
  | next=>exact False.elim hq
  | brk=>exact False.elim hq
  | cont=>exact False.elim hq
theorem AR (F:ff X.prog X.w X.K X.mg X.base CX k f fd ps sp) (hr:c9 k X.A) (hg:Gl X x) (hm:X.mg x=some (.ref f)) (hk:PySem.W.keepIn X.K (.ref f)=true) (hb:Binds X.K fd ps ds) (hd:Vals dvs ds) (hx:Passes CX X E)
  (ha:PA X (e :: es) t) (hdb:(x == ("__debug__":Str))=false:=by decide) (he:starEach (e :: es) X.env=(false,eval e X.env) :: starEach es X.env:=by rfl) (hpl:(backTo pos (starEach es X.env)).any (·.1)=false:=by rfl) :
  PE X (.Call (.Name x p) (e :: es) [] pos) (EI sp dvs E t):=by
 intro pins s σ H Q I h
 refine wpAny_Call_Name_kw (Ae I hg hm ?_ hdb)
 refine PySem.W.callWith_K (h₀:=X.base) I.ok.mod.kin hk (thn (ha pos pins s σ H _ I h) fun us s1 ⟨vs,H1,I1,r,q⟩=>⟨I1.kIn,?_⟩) he hpl
 exact Ca F hr hb hd hx I1 r q
structure Mk (K:PySem.W.Frag) (C f:Addr):Prop where
 makes:PySem.W.makesIn K C=true
 init:PySem.W.findIn K (.ref C) "__init__"=some (some (.ref f))
 fn:PySem.W.isFn K (.ref f)=true
 kp:PySem.W.keepIn K (.ref C)=true
end
section
variable {X:Cx} {CX:CXT} {k:Nat} {f C:Addr} {fd:FuncData} {ps ks:List Str} {sp:Sp} {E:XK} {x m:Str} {p pos apos kpos:Pos} {e o:Expr} {es:List Expr} {kws:List Keyword} {te ta:TE} {t tk:TA} {nm:Option Str}
structure Hc (K:PySem.W.Frag) (fd:FuncData) (ps ks:List Str) (g:List Value→List Value→List Value) (gV:List V→List V→List V):Prop where
 to:∀ (s:Shared) (us ws:List Value),K.In s.heap→(g us ws).length=ps.length→BindsTo s fd ⟨us,ks.zip ws⟩ (ps.zip (g us ws))
 rel:∀ {vs:List V} {us:List Value} {zs:List V} {ws:List Value},Vals vs us→Vals zs ws→Vals (gV vs zs) (g us ws)
variable {g:List Value→List Value→List Value} {gV:List V→List V→List V}
end
structure i9 (N P:List Str) (sc:Scope):Prop where
 kind:sc.kind=.function
 co:sc.isCoroutine=false
 gen:sc.isGenerator=false
 nd:N.Nodup
 pre:N.take P.length=P
 par:∀ x∈P,sc.names.lookup x=some .local∨sc.names.lookup x=some .cell
 nofree:∀ y∈sc.names,y.2≠.free
theorem oQ {kindOf:Str→Option NameKind} {x:Str}:∀ {binds:List (Str×Value)} {m:Str→Option Value},(∀ v,(x,v)∉binds)→bindL kindOf binds m x=m x
 | [],_,_=>rfl
 | (n,v) :: r,m,h=>by
  unfold bindL
  rw [oQ fun w hw=>h w (List.mem_cons_of_mem _ hw)]
  split
  ·have:x≠n:=by rintro rfl;exact h v List.mem_cons_self
   simp [this]
  ·rfl
theorem oJ {kindOf:Str→Option NameKind} {x:Str}:∀ {binds:List (Str×Value)} {m:Str→Option Value},(∀ v,(x,v)∉binds)→bindC kindOf binds m x=m x
 | [],_,_=>rfl
 | (n,v) :: r,m,h=>by
  unfold bindC
  rw [oJ fun w hw=>h w (List.mem_cons_of_mem _ hw)]
  split
  ·rfl
  ·have:x≠n:=by rintro rfl;exact h v List.mem_cons_self
   simp [this]
theorem o9 {kindOf:Str→Option NameKind} {x:Str} {v:Value}:∀ {P:List Str} {vs:List Value} {i:Nat} {m:Str→Option Value},P.Nodup→P[i]?=some x→vs[i]?=some v→kindOf x=some .local →
  bindL kindOf (P.zip vs) m x=some v
 | [],_,_,_,_,h,_,_=>by simp at h
 | _ :: _,[],_,_,_,_,h,_=>by simp at h
 | p :: P,w :: vs,0,m,nd,h1,h2,hk=>by
  simp at h1 h2;subst h1;subst h2
  show bindL kindOf ((p,w) :: P.zip vs) m p=_
  unfold bindL
  rw [oQ fun v hv=>(List.nodup_cons.mp nd).1 (List.of_mem_zip hv).1,if_pos hk]
  simp
 | p :: P,w :: vs,i+1,m,nd,h1,h2,hk=>by
  show bindL kindOf ((p,w) :: P.zip vs) m x=_
  unfold bindL
  exact o9 (i:=i) (List.nodup_cons.mp nd).2 (by simpa using h1) (by simpa using h2) hk
theorem oC {kindOf:Str→Option NameKind} {x:Str} {v:Value}:∀ {P:List Str} {vs:List Value} {i:Nat} {m:Str→Option Value},P.Nodup→P[i]?=some x→vs[i]?=some v→kindOf x≠some .local →
  bindC kindOf (P.zip vs) m x=some v
 | [],_,_,_,_,h,_,_=>by simp at h
 | _ :: _,[],_,_,_,_,h,_=>by simp at h
 | p :: P,w :: vs,0,m,nd,h1,h2,hk=>by
  simp at h1 h2;subst h1;subst h2
  show bindC kindOf ((p,w) :: P.zip vs) m p=_
  unfold bindC
  rw [oJ fun v hv=>(List.nodup_cons.mp nd).1 (List.of_mem_zip hv).1,if_neg hk]
  simp
 | p :: P,w :: vs,i+1,m,nd,h1,h2,hk=>by
  show bindC kindOf ((p,w) :: P.zip vs) m x=_
  unfold bindC
  exact oC (i:=i) (List.nodup_cons.mp nd).2 (by simpa using h1) (by simpa using h2) hk
def start (N:List Str) (vs:List V):St:=vs.map some++List.replicate (N.length - vs.length) none
def kR (CX:CXT) (P:Program) (w:World) (K:PySem.W.Frag) (mg:Str→Option Value) (base:Heap) (N:List Str) (qual:Str) (scope:Scope) (f:Addr) (cd:Value) (A:Around) (outer:List Env) (s:Shared) (H:Hp) (E:XK):Cx where
 prog:=P
 w:=w
 K:=K
 mg:=mg
 base:=base
 A:=A.deeper (envOfC qual scope s.heap.objs.size f cd)
 N:=N
 s₀:=s
 H₀:=H
 env:=envOfC qual scope s.heap.objs.size f cd
 outer:=outer
 stack:=envOfC qual scope s.heap.objs.size f cd :: outer
 ex:=[]
 calm:=true
 fn:=fun _=>true
 pn:=[]
 xe:=fun e s'=>wpAny (model P w) (A.deeper (envOfC qual scope s.heap.objs.size f cd)) (leaving (envOfC qual scope s.heap.objs.size f cd) e) (fun _ s''=>CX outer H s E e s'') (fun e' s''=>CX outer H s E e' s'') s'
theorem sd {sc:Scope} {n:Nat} {x:Str} (h:sc.names.lookup x=some .cell):∃ c,(cellsFrom n sc.names []).lookup x=some c:=by
 have q:=PySem.W.cellsFrom_some sc.names n [] (.inl h)
 exact Option.isSome_iff_exists.mp q
theorem vf {CX:CXT} {P:Program} {w:World} {K:PySem.W.Frag} {mg:Str→Option Value} {base:Heap} {N ps:List Str} {qual:Str} {scope:Scope} {f:Addr} {cd:Value} {A:Around} {outer:List Env} {s s1:Shared} {H:Hp} {E:XK} {us:List Value} {vs:List V}
  (S:i9 N ps scope) (hd:A.handled=none) (e0:uE P w K mg base A outer s H) (hl:vs.length=ps.length) (r:Vals vs us)
  (x:InCallC s s.heap.objs.size (bindL (envOfC qual scope s.heap.objs.size f cd).kindOf (ps.zip us) fun _=>none) (cellsFrom (s.heap.objs.size+1) scope.names []) (bindC (envOfC qual scope s.heap.objs.size f cd).kindOf (ps.zip us) fun _=>none) s1) :
  Inv (kR CX P w K mg base N qual scope f cd A outer s H E) [] (start N vs) H s1:=by
 have hpl:ps.length≤N.length:=by have:=congrArg List.length S.pre;rw [List.length_take] at this;omega
 obtain ⟨h1,tk,rfl,hk⟩:=x.done
 have noA:∀ b:Addr,b∉(kR CX P w K mg base N qual scope f cd A outer s H E).ex:=fun b z=>absurd (show b∈([]:List Addr) from z) (by simp)
 refine ⟨⟨e0.mod,S.kind,rfl,rfl,Nat.le_refl _,fun y z c h1 h2=>?_,fun y hy=>?_,fun y c _ h=>?_,fun _=>hd,Around.frames_deeper e0.frames,.inr ⟨rfl,rfl⟩,fun b z=>absurd z (noA b),e0.bs,e0.bsz,fun b _ _=>noA b,fun b z=>absurd z (noA b),e0.iz,e0.frf⟩,
  rfl,e0.bare,Un.kept hk,⟨_,x.toInCall.ns,fun i y v h1 h2 h3=>?_⟩,fun y c h=>⟨_,x.cell y c h⟩,e0.hok.fresh (Nat.le_refl _),fun y c h=>?_,fun p hp=>absurd (show p∈([]:List (Addr×Obj)) from hp) (by simp),e0.hok.kept hk,?_⟩
 ·exact name_of_addr x.apart (PySem.mem_of_lookup h1) (PySem.mem_of_lookup h2)
 ·have hy:scope.names.lookup y=some .cell∨scope.names.lookup y=some .free:=hy
  rcases hy with hy | hy
  ·exact sd hy
  ·exact absurd rfl (S.nofree _ (PySem.mem_of_lookup hy))
 ·exact Nat.le_of_lt (x.above y c (PySem.mem_of_lookup h))
 ·have hi:i < vs.length:=by
   unfold start at h2
   by_cases hi:i < vs.length
   ·exact hi
   ·rw [List.getElem?_append_right (by simpa using hi)] at h2
    rw [List.getElem?_replicate] at h2
    split at h2<;>cases h2
  have ha:vs[i]?=some v:=by
   unfold start at h2
   rw [List.getElem?_append_left (by simpa using hi),List.getElem?_map] at h2
   cases e:vs[i]? with
   | none=>rw [e] at h2;cases h2
   | some a=>rw [e] at h2;cases h2;rfl
  obtain ⟨u,hu,rv⟩:=r.get ha
  have hp:ps[i]?=some y:=by
   rw [← S.pre,List.getElem?_take_of_lt (by omega)];exact h1
  have ndP:ps.Nodup:=by rw [← S.pre];exact S.nd.sublist (List.take_sublist _ _)
  refine ⟨u,rv,?_⟩
  rcases S.par y (List.mem_of_getElem? hp) with k | k
  ·exact .inl ⟨k,o9 ndP hp hu k⟩
  ·obtain ⟨c,e⟩:=sd (n:=s.heap.objs.size+1) k
   refine .inr ⟨.inl k,c,e,?_⟩
   have q:=x.cell y c e
   rw [oC ndP hp hu (by show scope.names.lookup y≠_;rw [k];decide)] at q
   exact q
 ·exact e0.hok.fresh (Nat.le_of_lt (x.above y c (PySem.mem_of_lookup h)))
 ·unfold start
  show _=N.length
  rw [List.length_append,List.length_map,List.length_replicate]
  omega
theorem Fv {CX:CXT} {P:Program} {w:World} {K:PySem.W.Frag} {mg:Str→Option Value} {base:Heap} {k:Nat} {f:Addr} {name qual:Str} {params:Arguments} {body:List Stmt} {scope:Scope} {dV kV doc pm cdv ct oc:Value} {an od:Option Addr}
  {osl:Array (Option Value)} {N ps:List Str} {sp:Sp} (lk:K.lookup f=some ⟨oc,od,.func (PySem.W.fnOf name qual params body scope dV kV doc pm an cdv ct),osl⟩) (hcd:PySem.W.codeIn K cdv qual=true) (S:i9 N ps scope)
  (len:∀ vs H Q E,sp vs H Q E→vs.length=ps.length)
  (hbody:∀ (A:Around) (outer:List Env) (s:Shared) (H:Hp) (vs:List V) (Q:VK) (E:XK),c9 k (A.deeper (envOfC qual scope s.heap.objs.size f cdv))→sp vs H Q E →
   ∃ t,PSs (kR CX P w K mg base N qual scope f cdv A outer s H E) body t∧t { nx:=fun _ H'=>Q .non H',rt:=Q } (start N vs) H) :
  ff P w K mg base CX (k+1) f (PySem.W.fnOf name qual params body scope dV kV doc pm an cdv ct) ps sp:=by
 refine ⟨len,fun A outer s H args us vs Q E hr e0 hb r hsp=>?_⟩
 have hl:=len _ _ _ _ hsp
 have KX:K.In s.heap:=e0.mod.kin.keeps fun b o e=>(e0.bs b o e).1
 have lim:s.heap.NoLimit:=e0.mod.nolimit.keeps fun b o e=>(e0.bs b o e).1
 have hkind:∀ y∈ps.zip us,scope.names.lookup y.1=some .local∨(scope.names.lookup y.1=some .cell∧((cellsFrom (s.heap.objs.size+1) scope.names []).lookup y.1).isSome=true):=fun ⟨n,v⟩ hy=>by
  rcases S.par n (List.of_mem_zip hy).1 with q | q
  ·exact .inl q
  ·exact .inr ⟨q,PySem.W.cellsFrom_some _ _ _ (.inl q)⟩
 refine codeAny_call_function hr.depth (KX _ _ lk) rfl S.co S.gen rfl (PySem.W.codeRec_of KX hcd) (hb _ _ _ _ ?_)
 refine wpAny_newFunctionEnv_cells S.kind hkind fun env he s1 x=>?_
 subst he
 refine ⟨lim.keeps x.toInCall.keep,codeAny_func ?_⟩
 obtain ⟨t,ht,hq⟩:=hbody A outer s H vs Q E (hr.deeper _) hsp
 have I:Inv (kR CX P w K mg base N qual scope f cdv A outer s H E) [] (start N vs) H s1:=vf S hr.hd e0 hl r x
 refine wpAny_mono (ht [] s1 (start N vs) H _ I hq) (fun fl s' hs=>?_) fun e s' hs=>hs
 have fin:∀ {σ':St} {H':Hp} {v:V} {u:Value},Inv (kR CX P w K mg base N qual scope f cdv A outer s H E) [] σ' H' s'→RelV v u→Q v H'→CE outer P w H s Q u s':=
  fun {σ' H' v u} J rv q=>⟨v,H',J.os,J.bare,J.base,J.hok,rv,q⟩
 cases fl with
 | ret u=>
  obtain ⟨v,σ',H',J,rv,q⟩:=hs
  exact fin J rv q
 | next=>
  obtain ⟨σ',H',J,q⟩:=hs
  exact fin (v:=V.non) (u:=Value.none) J rfl q
 | brk=>
  obtain ⟨_,_,_,q⟩:=hs
  exact False.elim q
 | cont=>
  obtain ⟨_,_,_,q⟩:=hs
  exact False.elim q
section
variable {X:Cx} {x:Str} {p pos:Pos} {e:Expr} {es:List Expr} {t:TA} {id T:String} {r:List V→Hp→VK→Prop}
def tCB (r:List V→Hp→VK→Prop) (t:TA):TE:=fun σ H Q=>t σ H fun vs H1=>r vs H1 Q
theorem zk (hc:bw X (.builtin id) r) (hg:Gl X x) (hm:X.mg x=none) (hv:bootBuiltins x=some (.builtin id)) (ha:PA X (e :: es) t) (hn:x≠"__name__":=by decide) (hdb:(x == ("__debug__":Str))=false:=by decide)
  (he:starEach (e :: es) X.env=(false,eval e X.env) :: starEach es X.env:=by rfl) (hpl:(backTo pos (starEach es X.env)).any (·.1)=false:=by rfl):PE X (.Call (.Name x p) (e :: es) [] pos) (tCB r t):=by
 intro pins s σ H Q I h
 refine wpAny_Call_Name_kw (cT I hg hm hv ?_ hn hdb)
 exact PyProof.Rows.callWith_builtin1 (thn (ha pos pins s σ H _ I h) fun us s1 ⟨vs,H1,I1,r1,q1⟩=>hc pins s1 σ H1 vs us Q I1 r1 q1) he hpl
theorem xr (hc:bw X (.type T) r) (hg:Gl X x) (hm:X.mg x=none) (hv:bootBuiltins x=some (.type T)) (ha:PA X (e :: es) t) (hn:x≠"__name__":=by decide) (hdb:(x == ("__debug__":Str))=false:=by decide)
  (he:starEach (e :: es) X.env=(false,eval e X.env) :: starEach es X.env:=by rfl) (hpl:(backTo pos (starEach es X.env)).any (·.1)=false:=by rfl):PE X (.Call (.Name x p) (e :: es) [] pos) (tCB r t):=by
 intro pins s σ H Q I h
 refine wpAny_Call_Name_kw (cT I hg hm hv ?_ hn hdb)
 exact PyProof.Rows.callWith_type1 (thn (ha pos pins s σ H _ I h) fun us s1 ⟨vs,H1,I1,r1,q1⟩=>hc pins s1 σ H1 vs us Q I1 r1 q1) he hpl
end
end L2
namespace HT
open PySem PyProof.Rows
section
open PySem.SeqAt
open PySem.AutoSeq1 (wpAny_loadPart')
open PySem.MeetsSeq PySem.MeetsSeq2 PySem.MeetsSeq3
end
section
variable {prog:Program} {w:World} {A:Around} {E:Value→Shared→Prop} {s:Shared}
theorem AE {t b:Addr} {vs ws:List Value} {Q:Value→Shared→Prop} (ht:IsTup s.heap t vs.toArray) (hb:IsTup s.heap b ws.toArray) (hv:vs≠[])
  (h1:ws=[]→Q (.ref t) s) (h2:ws≠[]→Q (.ref s.heap.objs.size) { s with heap:=s.heap.push { cls:=.type "tuple",data:=.seq (vs++ws).toArray } })
  (hsz:vs.length+ws.length≤sizeLine):wpAny (model prog w) A (binaryOp .Add (.ref t) (.ref b)) Q E s:=by
 obtain ⟨⟨cls,dd,data,sl⟩,ho,hc,n,hd⟩:=id ht
 obtain ⟨⟨cls2,dd2,data2,sl2⟩,ho2,hc2,n2,hd2⟩:=id hb
 simp only at hc hd hc2 hd2
 subst hc hd hc2 hd2
 have e:vs.toArray++ws.toArray=(vs++ws).toArray:=by simp
 by_cases hw:ws=[]
 ·exact concat_meets ⟨_,ho,rfl⟩ ⟨_,ho2,rfl⟩ noFill_tuple_add seq_tuple_add PySem.F.slot_tuple_add PySem.F.entry_tuple_add (PySem.F.args_tuple_add_2 _ _)
   (tuple_addW1 t b vs.toArray ws.toArray n n2 dd dd2 sl sl2 (by simpa using hv) (by simp [hw])) ⟨ho,ho2,h1 hw⟩
 ·refine concat_meets ⟨_,ho,rfl⟩ ⟨_,ho2,rfl⟩ noFill_tuple_add seq_tuple_add PySem.F.slot_tuple_add PySem.F.entry_tuple_add (PySem.F.args_tuple_add_2 _ _)
   (tuple_addW2 t b vs.toArray ws.toArray n n2 dd dd2 sl sl2 (by simpa using hv) (by simpa using hw) (by rw [List.size_toArray,List.size_toArray];exact hsz)) ⟨ho,ho2,?_⟩
  rw [e]
  exact h2 hw
def sIx (n d:Nat):Option Int→Nat
 | none=>d
 | some v=>if v < 0 then (v+(n:Int)).toNat else min v.toNat n
theorem qR (n d:Nat):sIx n d none=d:=rfl
theorem lU (n d k:Nat):sIx n d (some (k:Int))=min k n:=by
 show (if (k:Int) < 0 then ((k:Int)+(n:Int)).toNat else min (k:Int).toNat n)=min k n
 rw [if_neg (by omega),Int.toNat_natCast]
end
end HT
namespace L2
open PySem PySem.Spec PyProof.Rows
abbrev TO:=St→Hp→(Option Int→Hp→Prop)→Prop
def PO (X:Cx) (e:Option Expr) (t:TO):Prop:=
 ∀ (pins:List (Addr×Obj)) (s:Shared) (σ:St) (H:Hp) (Q:Option Int→Hp→Prop),Inv X pins σ H s→t σ H Q →
  wpAny (model X.prog X.w) X.A (evalPart e X.env) (fun u s'=>∃ o H',Inv X pins σ H' s'∧IsPart u o∧Q o H') X.xe s
def AF:TO:=fun _ H Q=>Q none H
def Gm (t:TE):TO:=fun σ H Q=>t σ H fun x H1=>∃ i,x=.int i∧Q (some i) H1
theorem intsAre_of {ns:List Int}:∀ {us:List Value},Vals (ns.map V.int) us→IntsAre us ns:=by
 induction ns with
 | nil=>intro us r;rw [List.map_nil] at r;cases r;exact .nil
 | cons n ns ih=>
  intro us r
  rw [List.map_cons] at r
  cases r with
  | cons r1 r2=>
   obtain ⟨t,e⟩:=r1
   subst e
   exact .cons n t (ih r2)
section
variable {X:Cx} {e:Expr} {te:TE} {lo hi:Option Expr} {tl th:TO} {pos p2:Pos}
theorem A6:PO X none AF:=by
 intro pins s σ H Q I h
 rw [evalPart_none]
 exact wpAny_pure ⟨none,H,I,.none,h⟩
theorem Az (h:PE X e te):PO X (some e) (Gm te):=by
 intro pins s σ H Q I hw
 rw [evalPart_some]
 refine thn (h pins s σ H _ I hw) fun u s1 ⟨x,H1,I1,r1,q1⟩=>?_
 obtain ⟨i,rfl,q⟩:=q1
 obtain ⟨t,rfl⟩:=r1
 exact ⟨some i,H1,I1,.int i t,q⟩
def SlR (X:Cx) (r:V→Option Int→Option Int→Hp→VK→Prop):Prop:=
 ∀ (pins:List (Addr×Obj)) (s:Shared) (σ:St) (H:Hp) (x:V) (v vl vu:Value) (lo hi:Option Int) (sl:Addr) (Q:VK),Inv X pins σ H s→RelV x v→s.heap.IsSliceOf sl vl vu .none→IsPart vl lo→IsPart vu hi→r x lo hi H Q →
  ∃ T id,typeLookup (.type T) "__getitem__"=pure (some (.builtin id))∧s.TypeIs v T∧wpAny (model X.prog X.w) X.A (getItem v (.ref sl)) (EP X pins σ Q) X.xe s
def tSl (r:V→Option Int→Option Int→Hp→VK→Prop) (te:TE) (tl th:TO):TE:=fun σ H Q=>te σ H fun x H1=>tl σ H1 fun l H2=>th σ H2 fun u H3=>r x l u H3 Q
theorem xM {r:V→Option Int→Option Int→Hp→VK→Prop} (hr:SlR X r) (he:PE X e te) (hl:PO X lo tl) (hu:PO X hi th):PE X (.Subscript e (.Slice lo hi none p2) pos) (tSl r te tl th):=by
 intro pins s σ H Q I h
 refine Subscript_ (thn (he pins s σ H _ I h) fun v s1 ⟨x,H1,I1,r1,q1⟩=>?_)
 refine wpAny_Slice (thn (hl pins s1 σ H1 _ I1 q1) fun vl s2 ⟨l,H2,I2,pl,q2⟩=>thn (hu pins s2 σ H2 _ I2 q2) fun vu s3 ⟨u,H3,I3,pu,q3⟩=>?_)
 rw [evalPart_none]
 refine wpAny_pure ?_
 have I4:Inv X pins σ H3 { s3 with heap:=s3.heap.push { cls:=.type "slice",data:=.fields #[vl,vu,.none] } }:=I3.kept (t':=s3.toks) fun b ob q=>Heap.get?_push_of_some _ q
 obtain ⟨T,id,hT,ht,hg⟩:=hr pins { s3 with heap:=s3.heap.push { cls:=.type "slice",data:=.fields #[vl,vu,.none] } } σ H3 x v vl vu l u s3.heap.objs.size Q I4 r1 (Heap.IsSliceOf.new ..) pl pu q3
 show wpAny (model X.prog X.w) X.A (subscriptTail e (.Slice lo hi none p2) v (.ref s3.heap.objs.size)) (EP X pins σ Q) X.xe { s3 with heap:=s3.heap.push { cls:=.type "slice",data:=.fields #[vl,vu,.none] } }
 exact tail_any (ops:=[.ref s3.heap.objs.size,v]) ht hT hg (by with_unfolding_all rfl)
def oe (xs:List V) (lo hi:Option Int):List V:=(xs.drop (HT.sIx xs.length 0 lo)).take (HT.sIx xs.length xs.length hi - HT.sIx xs.length 0 lo)
theorem su (xs:List V) (lo hi:Option Int):(oe xs lo hi).length≤xs.length:=by
 unfold oe
 rw [List.length_take,List.length_drop]
 omega
def EU (K:PySem.W.Frag):R2:=fun x y H Q=>∃ a b xs ys,x=.ref a∧y=.ref b∧SqT K H a xs∧SqT K H b ys∧xs≠[]∧xs.length+ys.length≤sizeLine ∧
 (ys=[]→Q (.ref a) H)∧(ys≠[]→∀ p,H p=none→Q (.ref p) (upd H p (.tup (xs++ys))))
theorem Vals.lZ {xs:List V} {us:List Value} (r:Vals xs us):us=[]↔xs=[]:=by
 cases r with
 | nil=>simp
 | cons _ _=>simp
theorem An:OpR X (binaryOp .Add) (EU X.K):=by
 intro pins s σ H x y v u Q I rx ry h
 obtain ⟨a,b,xs,ys,rfl,rfl,ha,hb,hx,hz,q1,q2⟩:=h
 cases rx
 cases ry
 obtain ⟨its,r1,p1,_⟩:=I.tuple ha
 obtain ⟨its2,r2,p2,_⟩:=I.tuple hb
 refine HT.AE p1 p2 (fun z=>hx (r1.lZ.mp z)) (fun z=>⟨.ref a,H,I,rfl,q1 (r2.lZ.mp z)⟩) (fun z=>?_) (by rw [← r1.length,← r2.length];exact hz)
 refine ⟨.ref s.heap.objs.size,_,I.laid (t':=s.toks) (o:=.tup (xs++ys)) (fun b ob q=>Heap.get?_push_of_some _ q) (Nat.le_refl _) ?_,rfl,q2 (fun w=>z (r2.lZ.mpr w)) _ (I.hok.fresh (Nat.le_refl _))⟩
 exact ⟨by rw [List.length_append];exact hz,_,r1.append r2,IsTup.new _ _⟩
end
def ixN (n:Nat) (i:Int):Option Nat:=if 0≤i then (if i < n then some i.toNat else none) else if -(n:Int)≤i then some (i+n).toNat else none
def atI {α:Type} (xs:List α) (i:Int):Option α:=(ixN xs.length i).bind fun j=>xs[j]?
theorem tJ {n:Nat} {i:Int} {j:Nat} (h:ixN n i=some j):seqIndex? i n=some j∧j < n∧-(n:Int)≤i∧i < n:=by
 unfold ixN at h
 by_cases h0:0≤i
 ·rw [if_pos h0] at h
  by_cases h1:i < n
  ·rw [if_pos h1] at h
   have e:i.toNat=j:=Option.some.inj h
   exact ⟨by rw [seqIndex_of h0 h1,e],by omega,by omega,h1⟩
  ·rw [if_neg h1] at h;cases h
 ·rw [if_neg h0] at h
  by_cases h1:-(n:Int)≤i
  ·rw [if_pos h1] at h
   have e:(i+n).toNat=j:=Option.some.inj h
   exact ⟨by rw [seqIndex_neg (by omega) h1,e],by omega,h1,by omega⟩
  ·rw [if_neg h1] at h;cases h
theorem s_ {α:Type} {xs:List α} {i:Int} {v:α} (h:atI xs i=some v):∃ j,seqIndex? i xs.length=some j∧xs[j]?=some v∧j < xs.length∧-(xs.length:Int)≤i∧i < xs.length:=by
 unfold atI at h
 cases e:ixN xs.length i with
 | none=>rw [e] at h;cases h
 | some j=>
  rw [e] at h
  obtain ⟨h1,h2,h3,h4⟩:=tJ e
  exact ⟨j,h1,h,h2,h3,h4⟩
def sZ (b:Expr):Prop:=∀ o i,subscripted b false o i=operate [o,i] (getItem o i)
def IxR (X:Cx) (r:R2):Prop:=
 ∀ (value slice:Expr) (pins:List (Addr×Obj)) (s:Shared) (σ:St) (H:Hp) (x y:V) (v u:Value) (Q:VK),Inv X pins σ H s→RelV x v→RelV y u→r x y H Q →
  subscripted slice false v u=operate [v,u] (getItem v u)→wpAny (model X.prog X.w) X.A (subscriptTail value slice v u) (EP X pins σ Q) X.xe s
section
variable {X:Cx} {a b:Expr} {ta tb:TE} {pos:Pos}
theorem F8 {r:R2} (hr:IxR X r) (ha:PE X a ta) (hb:PE X b tb) (hs:sZ b):PE X (.Subscript a b pos) (tOp r ta tb):=by
 intro pins s σ H Q I h
 exact Subscript_ (ya ha hb I h fun v u s2 x y H2 I2 rx ry q=>hr a b pins s2 σ H2 x y v u Q I2 rx ry q (hs _ _))
def Gw (K:PySem.W.Frag):R2:=fun x y H Q=>∃ p xs i v,x=.ref p∧y=.int i∧SqL K H p xs∧atI xs i=some v∧Q v H
def GG (K:PySem.W.Frag):R2:=fun x y H Q=>∃ p xs i v,x=.ref p∧y=.int i∧SqT K H p xs∧atI xs i=some v∧Q v H
theorem AB:IxR X (Gw X.K):=by
 intro value slice pins s σ H x y v u Q I rx ry h hs
 obtain ⟨p,xs,i,z,rfl,rfl,hq,he,q⟩:=h
 cases rx
 obtain ⟨t,rfl⟩:=ry
 obtain ⟨its,r,pl,hz⟩:=I.list hq
 obtain ⟨j,h1,h2,h3,h4,h5⟩:=s_ he
 obtain ⟨w,ew,rw'⟩:=r.get h2
 have hl:=r.length
 have hn:=kJ
 have fin:EP X pins σ Q w s:=⟨z,H,I,rw',q⟩
 by_cases h0:0≤i
 ·have hj:i.toNat=j:=by
   rw [seqIndex_of h0 h5] at h1
   exact Option.some.inj h1
  exact item_listR pl.isList h0 (by omega) (by rw [hj];simpa using ew) fin hs
 ·have hj:(i+(its.toArray.size:Int)).toNat=j:=by
   rw [seqIndex_neg (by omega) h4] at h1
   rw [List.size_toArray,← hl]
   exact Option.some.inj h1
  exact subscriptTail_builtinR (x:=w) pl.isList.typeIs slot_list_getitem.lookup
   (wpAny_getItem_list_neg (Q:=fun r s'=>r=w∧EP X pins σ Q r s') pl.isList (by omega) (by rw [List.size_toArray]<;>omega) (by omega) (by rw [hj];simpa using ew) ⟨rfl,fin⟩) hs
theorem Cv:IxR X (GG X.K):=by
 intro value slice pins s σ H x y v u Q I rx ry h hs
 obtain ⟨p,xs,i,z,rfl,rfl,hq,he,q⟩:=h
 cases rx
 obtain ⟨t,rfl⟩:=ry
 obtain ⟨its,r,pl,hz⟩:=I.tuple hq
 obtain ⟨j,h1,h2,h3,h4,h5⟩:=s_ he
 obtain ⟨w,ew,rw'⟩:=r.get h2
 have hl:=r.length
 have hn:=kJ
 have fin:EP X pins σ Q w s:=⟨z,H,I,rw',q⟩
 exact subscriptTail_builtinR (x:=w) pl.typeIs slot_tuple_getitem.lookup
  (getItem_tuple (j:=j) (Q:=fun r s'=>r=w∧EP X pins σ Q r s') pl (by omega) (by omega) (by rw [List.size_toArray,← hl];exact h1) (by simpa using ew) ⟨rfl,fin⟩) hs
theorem uy (its:List Value) (n j:Nat) (u:Value):Obj.mapSeq (·.setIfInBounds j u) { cls:=.type "list",data:=.seq its.toArray n }={ cls:=.type "list",data:=.seq (its.set j u).toArray n }:=by
 simp [Obj.mapSeq]
theorem Inv.lst {pins:List (Addr×Obj)} {σ:St} {H:Hp} {s:Shared} {p:Addr} {xs:List V} (I:Inv X pins σ H s) (h:H p=some (.lst xs)) :
  ∃ (its:List Value) (n:Nat),Vals xs its∧s.heap.get? p=some { cls:=.type "list",data:=.seq its.toArray n }∧xs.length≤sizeLine:=by
 obtain ⟨z,its,n,r,e⟩:=I.hok p _ h
 exact ⟨its,n,r,e,z⟩
theorem Inv.Cj {pins:List (Addr×Obj)} {σ:St} {H:Hp} {s:Shared} {p:Addr} {xs ys:List V} {its its':List Value} {n n':Nat} {f:Obj→Obj} (I:Inv X pins σ H s) (h:H p=some (.lst xs))
  (ho:s.heap.get? p=some { cls:=.type "list",data:=.seq its.toArray n }) (hf:f { cls:=.type "list",data:=.seq its.toArray n }={ cls:=.type "list",data:=.seq its'.toArray n' }) (r:Vals ys its') (hz:ys.length≤sizeLine) (t:Nat) :
  Inv X pins σ (upd H p (.lst ys)) { s with heap:=s.heap.update p f,toks:=t }:=by
 have e:(s.heap.update p f).get? p=some { cls:=.type "list",data:=.seq its'.toArray n' }:=by
  rw [Heap.get?_update_self f ho (by rw [hf]<;>rfl),hf]
 refine I.write (x:=p) (e:=p) (by rw [h];trivial) (.inl rfl) (fun b u hb q=>(Heap.get?_update_other _ _ (Ne.symm hb)).trans q) ⟨_,e⟩ ?_
 exact ⟨hz,its',n',r,e⟩
def uK:V→V→V→Hp→(Hp→Prop)→Prop:=fun o i v H Q=>∃ p xs k j,o=.ref p∧i=.int k∧H p=some (.lst xs)∧ixN xs.length k=some j∧Q (upd H p (.lst (xs.set j v)))
theorem set_list:uL X uK:=by
 intro pins s σ H o i v ov iv u Q I ro ri rv h
 obtain ⟨p,xs,k,j,rfl,rfl,hp,hj,q⟩:=h
 cases ro
 obtain ⟨t,rfl⟩:=ri
 obtain ⟨its,n,r,ho,hz⟩:=I.lst hp
 obtain ⟨h1,h2,h3,h4⟩:=tJ hj
 have hl:=r.length
 have hn:=kJ
 have I':Inv X pins σ (upd H p (.lst (xs.set j v))) { s with heap:=s.heap.update p (Obj.mapSeq (·.setIfInBounds j u)) }:=
  I.Cj hp ho (uy its n j u) (r.set rv j) (by rw [List.length_set];exact hz) s.toks
 by_cases h0:0≤k
 ·have hk:k.toNat=j:=by
   rw [seqIndex_of h0 h4] at h1
   exact Option.some.inj h1
  exact PySem.W.ki_setAt ho h0 (by omega) (by rw [List.size_toArray,← hl];exact h4) (by rw [hk];exact ⟨_,I',q⟩)
 ·have hk:(k+(its.toArray.size:Int)).toNat=j:=by
   rw [seqIndex_neg (by omega) h3] at h1
   rw [List.size_toArray,← hl]
   exact Option.some.inj h1
  exact PySem.W.ki_setBack ho (by omega) (by rw [List.size_toArray,← hl];exact h3) (by omega) (by rw [hk];exact ⟨_,I',q⟩)
theorem rm (lo hi:Option Int) (n:Nat):(sliceBounds lo hi none n).1=((HT.sIx n 0 lo:Nat):Int)∧(sliceBounds lo hi none n).2.1=((HT.sIx n n hi:Nat):Int)∧(sliceBounds lo hi none n).2.2=1:=by
 refine ⟨?_,?_,rfl⟩
 ·cases lo with
  | none=>simp [sliceBounds,HT.sIx]
  | some i=>
   simp only [sliceBounds,HT.sIx,Option.getD_none,show (1:Int) > 0 by decide,if_true]
   by_cases h:i < 0
   ·simp only [h,if_true]<;>omega
   ·simp only [h,if_false]<;>omega
 ·cases hi with
  | none=>simp [sliceBounds,HT.sIx]
  | some i=>
   simp only [sliceBounds,HT.sIx,Option.getD_none,show (1:Int) > 0 by decide,if_true]
   by_cases h:i < 0
   ·simp only [h,if_true]<;>omega
   ·simp only [h,if_false]<;>omega
theorem pC (its:List Value) (lo hi:Option Int):slicePick its.toArray lo hi none=((its.drop (HT.sIx its.length 0 lo)).take (HT.sIx its.length its.length hi - HT.sIx its.length 0 lo)).toArray:=by
 obtain ⟨h1,h2,h3⟩:=rm lo hi its.toArray.size
 unfold slicePick
 rw [h1,h2,h3]
 simp only [sliceRange_one,pick_run,List.size_toArray]<;>rfl
def GR (K:PySem.W.Frag):V→Option Int→Option Int→Hp→VK→Prop:=fun x lo hi H Q=>∃ a xs,x=.ref a∧SqL K H a xs∧∀ p,H p=none→Q (.ref p) (upd H p (.lst (oe xs lo hi)))
theorem AA:SlR X (GR X.K):=by
 intro pins s σ H x v vl vu lo hi sl Q I rx hs pl pu h
 obtain ⟨a,xs,rfl,hx,q⟩:=h
 cases rx
 obtain ⟨its,r,ht,hz⟩:=I.list hx
 have hlen:=r.length
 refine ⟨"list",_,slot_list_getitem.lookup,ht.isList.typeIs,?_⟩
 refine wpAny_getItem_list_slice ht.isList hs pl pu .none (by simp) ?_ (by rw [List.size_toArray]<;>omega)
 rw [pC,← hlen]
 refine ⟨.ref s.heap.objs.size,_,I.laid (t':=s.toks) (o:=.lst (oe xs lo hi)) (fun b ob q=>Heap.get?_push_of_some _ q) (Nat.le_refl _) ?_,rfl,q _ (I.hok.fresh (Nat.le_refl _))⟩
 exact ⟨Nat.le_trans (su xs lo hi) hz,_,0,(r.drop (HT.sIx xs.length 0 lo)).take (HT.sIx xs.length xs.length hi - HT.sIx xs.length 0 lo),Heap.get?_push_size _ rfl⟩
def d_:V→Bool
 | .non=>true
 | .bl _=>true
 | .int _=>true
 | .str _=>true
 | _=>false
def eqV:V→V→Bool
 | .non,.non=>true
 | .bl a,.bl b=>a == b
 | .bl a,.int b=>(if a then 1 else 0) == b
 | .int a,.bl b=>a == (if b then 1 else 0)
 | .int a,.int b=>a == b
 | .str a,.str b=>a == b
 | _,_=>false
theorem kC {A:Around} {s:Shared} {y x:V} {u v:Value} (ry:RelV y u) (rx:RelV x v) (fy:d_ y=true) (fx:d_ x=true):SeqAt.EqAt A s u v (eqV y x):=by
 cases y with
 | non=>
  cases ry
  cases x with
  | non=>cases rx;exact SeqAt.EqAt.same _
  | bl b=>cases rx;exact SeqAt.EqAt.none_bool b
  | int b=>obtain ⟨t,rfl⟩:=rx;exact SeqAt.EqAt.none_int b t
  | str b=>obtain ⟨t,rfl⟩:=rx;exact SeqAt.EqAt.none_str b t
  | _=>exact absurd (show false=true from fx) Bool.false_ne_true
 | bl a=>
  cases ry
  cases x with
  | non=>cases rx;exact SeqAt.EqAt.bool_none a
  | bl b=>cases rx;exact SeqAt.EqAt.bool_bool a b
  | int b=>obtain ⟨t,rfl⟩:=rx;exact SeqAt.EqAt.bool_int a b t
  | str b=>obtain ⟨t,rfl⟩:=rx;exact SeqAt.EqAt.bool_str a b t
  | _=>exact absurd (show false=true from fx) Bool.false_ne_true
 | int a=>
  obtain ⟨t',rfl⟩:=ry
  cases x with
  | non=>cases rx;exact SeqAt.EqAt.int_none a t'
  | bl b=>cases rx;exact SeqAt.EqAt.int_bool a t' b
  | int b=>obtain ⟨t,rfl⟩:=rx;exact SeqAt.EqAt.int_int a t' b t
  | str b=>obtain ⟨t,rfl⟩:=rx;exact SeqAt.EqAt.int_str a t' b t
  | _=>exact absurd (show false=true from fx) Bool.false_ne_true
 | str a=>
  obtain ⟨t',rfl⟩:=ry
  cases x with
  | non=>cases rx;exact SeqAt.EqAt.str_none a t'
  | bl b=>cases rx;exact SeqAt.EqAt.str_bool a t' b
  | int b=>obtain ⟨t,rfl⟩:=rx;exact SeqAt.EqAt.str_int a t' b t
  | str b=>obtain ⟨t,rfl⟩:=rx;exact SeqAt.EqAt.str_str a t' b t
  | _=>exact absurd (show false=true from fx) Bool.false_ne_true
 | _=>exact absurd (show false=true from fy) Bool.false_ne_true
def eqU (x:V) (u:Value):Bool:=match u with
 | .none=>eqV .non x
 | .bool b=>eqV (.bl b) x
 | .int i _=>eqV (.int i) x
 | .str z _=>eqV (.str z) x
 | _=>false
theorem xg {x y:V} {u:Value} (r:RelV y u) (f:d_ y=true):eqU x u=eqV y x:=by
 cases y with
 | non=>cases r;rfl
 | bl b=>cases r;rfl
 | int i=>obtain ⟨t,rfl⟩:=r;rfl
 | str z=>obtain ⟨t,rfl⟩:=r;rfl
 | _=>exact absurd (show false=true from f) Bool.false_ne_true
theorem jc {x:V}:∀ {xs:List V} {us:List Value},Vals xs us→xs.all d_=true→us.any (eqU x)=xs.any fun y=>eqV y x
 | _,_,.nil,_=>rfl
 | y :: xs,u :: us,.cons r t,f=>by
  rw [List.all_cons,Bool.and_eq_true] at f
  rw [List.any_cons,List.any_cons,xg r f.1,jc t f.2]
theorem iq {A:Around} {s:Shared} {x:V} {v:Value} (rx:RelV x v) (fx:d_ x=true):∀ {xs:List V} {us:List Value},Vals xs us→xs.all d_=true→∀ u∈us,SeqAt.EqAt A s u v (eqU x u)
 | _,_,.nil,_=>fun u hu=>by cases hu
 | y :: xs,u :: us,.cons r t,f=>fun u' hu=>by
  rw [List.all_cons,Bool.and_eq_true] at f
  rcases List.mem_cons.mp hu with rfl | hu
  ·rw [xg r f.1];exact kC r rx f.1 fx
  ·exact iq rx fx t f.2 u' hu
def inV (x:V) (xs:List V):Bool:=xs.any fun y=>eqV y x
def rIn (K:PySem.W.Frag) (neg:Bool):R2:=fun x y H Q=>∃ p xs,y=.ref p∧(SqL K H p xs∨SqT K H p xs)∧d_ x=true∧xs.all d_=true∧Q (.bl (if neg then !inV x xs else inV x xs)) H
theorem oH:OpR X (compareOp .In) (rIn X.K false):=by
 intro pins s σ H x y v u Q I rx ry h
 obtain ⟨p,xs,rfl,hq,fx,fs,q⟩:=h
 cases ry
 rcases hq with hq | hq
 ·obtain ⟨its,r,pl,hz⟩:=I.list hq
  refine SeqAt.in_listAt (eqU x) pl.isList (fun w hw=>iq rx fx r fs w (by simpa using hw)) ⟨.bl _,H,I,rfl,?_⟩
  rw [show its.toArray.any (eqU x)=its.any (eqU x) by simp,jc r fs]
  exact q
 ·obtain ⟨its,r,pl,hz⟩:=I.tuple hq
  refine SeqAt.in_tupleAt (eqU x) pl (fun w hw=>iq rx fx r fs w (by simpa using hw)) ⟨.bl _,H,I,rfl,?_⟩
  rw [show its.toArray.any (eqU x)=its.any (eqU x) by simp,jc r fs]
  exact q
theorem k9:OpR X (compareOp .NotIn) (rIn X.K true):=by
 intro pins s σ H x y v u Q I rx ry h
 obtain ⟨p,xs,rfl,hq,fx,fs,q⟩:=h
 cases ry
 rcases hq with hq | hq
 ·obtain ⟨its,r,pl,hz⟩:=I.list hq
  refine SeqAt.notIn_listAt (eqU x) pl.isList (fun w hw=>iq rx fx r fs w (by simpa using hw)) ⟨.bl _,H,I,rfl,?_⟩
  rw [show its.toArray.any (eqU x)=its.any (eqU x) by simp,jc r fs]
  exact q
 ·obtain ⟨its,r,pl,hz⟩:=I.tuple hq
  refine SeqAt.notIn_tupleAt (eqU x) pl (fun w hw=>iq rx fx r fs w (by simpa using hw)) ⟨.bl _,H,I,rfl,?_⟩
  rw [show its.toArray.any (eqU x)=its.any (eqU x) by simp,jc r fs]
  exact q
theorem bw.or {f:Value} {r r':List V→Hp→VK→Prop} (h:bw X f r) (h':bw X f r'):bw X f (fun xs H Q=>r xs H Q∨r' xs H Q):=by
 intro pins s σ H xs us Q I rs q
 rcases q with q | q
 ·exact h pins s σ H xs us Q I rs q
 ·exact h' pins s σ H xs us Q I rs q
theorem kG:bw X (.type "list") (fun xs H Q=>∃ p ys,xs=[.ref p]∧(SqL X.K H p ys∨SqT X.K H p ys)∧∀ l,H l=none→Q (.ref l) (upd H l (.lst ys))):=by
 intro pins s σ H xs us Q I r h
 obtain ⟨p,ys,rfl,hq,q⟩:=h
 obtain ⟨u,rfl,rx⟩:=vals1 r
 cases rx
 have fin:∀ (its:List Value),Vals ys its→ys.length≤sizeLine→∀ (h':Heap) (c':Nat),(∀ b o',s.heap.get? b=some o'→h'.get? b=some o') →
   h'.get? s.heap.objs.size=some { cls:=.type "list",dict:=none,data:=.seq its.toArray c',slots:=#[] }→EP X pins σ Q (.ref s.heap.objs.size) { s with heap:=h' }:=fun its r' hz h' c' kp e=>
  ⟨.ref s.heap.objs.size,_,I.laid (t':=s.toks) kp (Nat.le_refl _) (show bj X.prog X.w _ h' _ (.lst ys) from ⟨hz,its,c',r',e⟩),rfl,q _ (I.hok.fresh (Nat.le_refl _))⟩
 rcases hq with hq | hq
 ·obtain ⟨its,r',pl,hz⟩:=I.list hq
  have hlen:=r'.length
  obtain ⟨o,ho,hc,n,hd⟩:=pl.isList
  exact call_list_seq p (.inl rfl) ho hc hd (fun h' c' kp e=>fin its r' hz h' c' kp e) (by simp only [List.size_toArray]<;>omega)
 ·obtain ⟨its,r',pl,hz⟩:=I.tuple hq
  have hlen:=r'.length
  obtain ⟨o,ho,hc,n,hd⟩:=pl
  exact call_list_seq p (.inr rfl) ho hc hd (fun h' c' kp e=>fin its r' hz h' c' kp e) (by simp only [List.size_toArray]<;>omega)
theorem kf:bw X (.type "tuple") (fun xs H Q=>∃ p ys,xs=[.ref p]∧((SqL X.K H p ys∧∀ l,H l=none→Q (.ref l) (upd H l (.tup ys)))∨(SqT X.K H p ys∧Q (.ref p) H))):=by
 intro pins s σ H xs us Q I r h
 obtain ⟨p,ys,rfl,h⟩:=h
 obtain ⟨u,rfl,rx⟩:=vals1 r
 cases rx
 rcases h with ⟨hq,q⟩ | ⟨hq,q⟩
 ·obtain ⟨its,r',pl,hz⟩:=I.list hq
  have hlen:=r'.length
  refine call_tuple_list pl.isList (fun h' kp=>?_) (by simp only [List.size_toArray]<;>omega)
  have I1:Inv X pins σ H { s with heap:=h' }:=I.kept (t':=s.toks) kp
  have I2:Inv X pins σ (upd H h'.objs.size (.tup ys)) { s with heap:=h'.push { cls:=.type "tuple",data:=.seq its.toArray } }:=
   I1.laid (t':=s.toks) (fun b o e=>Heap.get?_push_of_some _ e) (Nat.le_refl _) (show bj X.prog X.w _ _ _ (.tup ys) from ⟨hz,its,r',IsTup.new _ _⟩)
  exact ⟨.ref h'.objs.size,_,I2,rfl,q _ (I1.hok.fresh (Nat.le_refl _))⟩
 ·obtain ⟨its,r',pl,hz⟩:=I.tuple hq
  exact call_tuple_same pl ⟨.ref p,H,I,rfl,q⟩
def tyV (K:PySem.W.Frag) (T:String) (x:V) (H:Hp):Prop:=match x with
 | .str _=>T="str"
 | .int _=>T="int"
 | .ref p=>(T="list"∧∃ xs,SqL K H p xs)∨(T="tuple"∧∃ o,K.lookup p=some o∧o.cls=.type "tuple"∧o.dict=none) ∨
   (T="dict"∧((∃ kvs,H p=some (.dK kvs))∨∃ kvs,H p=some (.dT kvs)))∨(T="set"∧∃ S n,H p=some (.set S n))
 | _=>False
theorem w_ {pins:List (Addr×Obj)} {σ:St} {H:Hp} {s:Shared} {T:String} {x:V} {v:Value} (I:Inv X pins σ H s) (r:RelV x v) (ty:tyV X.K T x H) :
  s.TypeIs v T∧∀ a,v=.ref a→∃ ob,s.heap.get? a=some ob∧ob.dict=none:=by
 cases x with
 | str z=>
  obtain ⟨t,rfl⟩:=r
  cases (show T="str" from ty)
  exact ⟨typeIs_str s z t,fun _ e=>nomatch e⟩
 | int i=>
  obtain ⟨t,rfl⟩:=r
  cases (show T="int" from ty)
  exact ⟨typeIs_int s i t,fun _ e=>nomatch e⟩
 | ref p=>
  cases r
  rcases ty with ⟨rfl,xs,hq⟩ | ⟨rfl,o,hk,hc,hd⟩ | ⟨rfl,hk⟩ | ⟨rfl,S,n,hk⟩
  ·obtain ⟨its,_,pl,_⟩:=I.list hq
   refine ⟨pl.isList.typeIs,fun a e=>?_⟩
   cases e
   obtain ⟨o,n,e,c,hd,_⟩:=pl
   exact ⟨o,e,hd⟩
  ·refine ⟨⟨o,I.kIn p o hk,hc⟩,fun a e=>?_⟩
   cases e
   exact ⟨o,I.kIn _ o hk,hd⟩
  ·have z:∃ o,s.heap.get? p=some o∧o.ExactDict:=by
    rcases hk with ⟨kvs,hk⟩ | ⟨kvs,hk⟩
    ·obtain ⟨_,_,_,_,o,_,_,e,ex,_⟩:=I.hok p _ hk
     exact ⟨o,e,ex⟩
    ·obtain ⟨_,_,_,_,o,_,_,e,ex,_⟩:=I.hok p _ hk
     exact ⟨o,e,ex⟩
   obtain ⟨o,e,ex⟩:=z
   refine ⟨⟨o,e,ex.1⟩,fun a e2=>?_⟩
   cases e2
   exact ⟨o,e,ex.2.1⟩
  ·obtain ⟨o,_,_,_,e,ex,_⟩:=I.hok p _ hk
   refine ⟨⟨o,e,ex.1⟩,fun a e2=>?_⟩
   cases e2
   exact ⟨o,e,ex.2.1⟩
 | _=>exact False.elim ty
variable {o e:Expr} {es:List Expr} {to:TE} {t:TA} {name:Str} {apos cpos:Pos} {T id:String} {r:V→List V→Hp→VK→Prop}
end
def MtM (X:Cx) (id:String) (r:V→List V→Hp→VK→Prop):Prop:=
 ∀ (pins:List (Addr×Obj)) (s:Shared) (σ:St) (H:Hp) (x:V) (xs:List V) (v:Value) (us:List Value) (Q:VK),Inv X pins σ H s→RelV x v→Vals xs us→r x xs H Q →
  wpAny (model X.prog X.w) X.A (call (.builtin id) (v :: us)) (EP X pins σ Q) X.xe s
theorem Vals.one:∀ {x:V} {us:List Value},Vals [x] us→∃ u,us=[u]∧RelV x u
 | _,_,.cons r .nil=>⟨_,rfl,r⟩
theorem Vals.two:∀ {x y:V} {us:List Value},Vals [x,y] us→∃ u v,us=[u,v]∧RelV x u∧RelV y v
 | _,_,_,.cons r (.cons q .nil)=>⟨_,_,rfl,r,q⟩
theorem Vals.eraseIdx:∀ {xs:List V} {us:List Value} (i:Nat),Vals xs us→Vals (xs.eraseIdx i) (us.eraseIdx i)
 | _,_,_,.nil=>.nil
 | _,_,0,.cons _ t=>t
 | _,_,i+1,.cons r t=>.cons r (Vals.eraseIdx i t)
theorem Vals.reverse {xs:List V} {us:List Value} (h:Vals xs us):Vals xs.reverse us.reverse:=by
 induction h with
 | nil=>exact .nil
 | cons r t ih=>rw [List.reverse_cons,List.reverse_cons];exact Vals.append ih (.cons r .nil)
theorem oU {α:Type}:∀ (l:List α) (i:Nat),(l.eraseIdx i).length≤l.length
 | [],_=>Nat.le_refl _
 | _ :: _,0=>Nat.le_succ _
 | _ :: r,i+1=>Nat.succ_le_succ (oU r i)
section
variable {X:Cx} {pins:List (Addr×Obj)} {σ:St} {H:Hp} {s:Shared} {l b:Addr} {xs ys zs:List V}
theorem Inv.uU {its its':List Value} {n:Nat} {f:Array Value→Array Value} {t':Nat} (I:Inv X pins σ H s) (hH:H l=some (.lst xs))
  (e:s.heap.get? l=some { cls:=.type "list",data:=.seq its.toArray n }) (hf:f its.toArray=its'.toArray) (hv:Vals ys its') (hz:ys.length≤sizeLine) :
  Inv X pins σ (upd H l (.lst ys)) { s with heap:=s.heap.update l (Obj.mapSeq f),toks:=t' }:=by
 have q:=PySem.IsL.update e f
 rw [hf] at q
 refine I.write (x:=l) (e:=l) (by rw [hH];exact trivial) (.inl rfl) (fun b' u hb hu=>(Heap.get?_update_other s.heap (Obj.mapSeq f) (Ne.symm hb)).trans hu) ⟨_,q⟩ ?_
 exact ⟨hz,its',_,hv,q⟩
theorem Inv.G_ {its:List Value} {t':Nat} (I:Inv X pins σ H s) (hv:Vals ys its) (hz:ys.length≤sizeLine) :
  Inv X pins σ (upd H s.heap.objs.size (.lst ys)) { s with heap:=s.heap.push { cls:=.type "list",data:=.seq its.toArray },toks:=t' }:=
 I.laid (fun _ _ q=>Heap.get?_push_of_some _ q) (Nat.le_refl _) ⟨hz,its,0,hv,Heap.get?_push_size _ rfl⟩
theorem Inv.fresh (I:Inv X pins σ H s):H s.heap.objs.size=none:=I.hok.fresh (Nat.le_refl _)
theorem Inv.mK (I:Inv X pins σ H s) (hH:H l=some (.lst xs)):xs.length≤sizeLine∧∃ (its:List Value) (n:Nat),Vals xs its∧xs.length=its.length∧s.heap.get? l=some { cls:=.type "list",data:=.seq its.toArray n }:=by
 obtain ⟨z,its,n,r,e⟩:=I.hok l _ hH
 exact ⟨z,its,n,r,r.length,e⟩
theorem jW {n:Nat} (h:n≤sizeLine):Builtin.List.listTooLong n=false:=by
 unfold Builtin.List.listTooLong
 exact decide_eq_false (by omega)
end
section
variable {X:Cx}
def Bg:V→List V→Hp→VK→Prop:=fun x vs H Q=>∃ l xs y,x=.ref l∧vs=[y]∧H l=some (.lst xs)∧xs.length < sizeLine∧Q .non (upd H l (.lst (xs++[y])))
theorem o_:MtM X "list.append" Bg:=by
 intro pins s σ H x vs v us Q I rx rv h
 obtain ⟨l,xs,y,rfl,rfl,hH,hz,q⟩:=h
 cases rx
 obtain ⟨u,rfl,ru⟩:=rv.one
 obtain ⟨z,its,n,r,hl,e⟩:=I.mK hH
 refine call_meets F.slot_list_append ⟨_,e,rfl⟩ F.entry_list_append (F.args_list_append_2 _ _) (PySem.list_append l its.toArray n u (by rw [List.size_toArray];omega)) ⟨e,?_⟩
 refine ⟨.non,_,I.uU (its':=its++[u]) hH e (by simp) (r.append (.cons ru .nil)) ?_,rfl,q⟩
 rw [List.length_append,List.length_singleton]
 omega
def tm:V→List V→Hp→VK→Prop:=fun x vs H Q=>∃ l b xs zs,x=.ref l∧vs=[.ref b]∧H l=some (.lst xs)∧H b=some (.lst zs)∧xs.length+zs.length≤sizeLine∧Q .non (upd H l (.lst (xs++zs)))
theorem wU:MtM X "list.extend" tm:=by
 intro pins s σ H x vs v us Q I rx rv h
 obtain ⟨l,b,xs,zs,rfl,rfl,hH,hB,hz,q⟩:=h
 cases rx
 obtain ⟨u,rfl,ru⟩:=rv.one
 cases ru
 obtain ⟨z,its,n,r,hl,e⟩:=I.mK hH
 obtain ⟨z2,its2,n2,r2,hl2,e2⟩:=I.mK hB
 have hsz:its.toArray.size+its2.toArray.size≤sizeLine:=by rw [List.size_toArray,List.size_toArray];omega
 have hlong:¬(!its.toArray.isEmpty && Builtin.List.listTooLong (its.toArray.size+its2.toArray.size))=true:=by
  rw [jW hsz,Bool.and_false]
  exact Bool.false_ne_true
 refine call_meets F.slot_list_extend ⟨_,e,rfl⟩ F.entry_list_extend (F.args_list_extend_2 _ _)
  (AutoSeq1.list_extend_list_list_0 l its.toArray n b its2.toArray n2 hlong (by rw [List.size_toArray];omega) (by omega)) ⟨e,e2,?_⟩
 refine ⟨.non,_,I.uU (its':=its++its2) hH e (by simp) (r.append r2) ?_,rfl,q⟩
 rw [List.length_append]
 omega
def wZ:V→List V→Hp→VK→Prop:=fun x vs H Q=>∃ l xs i k y,x=.ref l∧vs=[.int i]∧H l=some (.lst xs)∧-(2 ^ 63)≤i∧i < 2 ^ 63∧seqIndex? i xs.length=some k∧xs[k]?=some y∧Q y (upd H l (.lst (xs.eraseIdx k)))
theorem yL:MtM X "list.pop" wZ:=by
 intro pins s σ H x vs v us Q I rx rv h
 obtain ⟨l,xs,i,k,y,rfl,rfl,hH,h1,h2,hk,hy,q⟩:=h
 cases rx
 obtain ⟨u,rfl,ru⟩:=rv.one
 obtain ⟨t,rfl⟩:=ru
 obtain ⟨z,its,n,r,hl,e⟩:=I.mK hH
 obtain ⟨w,hw,rw'⟩:=r.get hy
 refine call_meets F.slot_list_pop ⟨_,e,rfl⟩ F.entry_list_pop (F.args_list_pop_2 _ _)
  (MeetsSeq.list_pop_at l its.toArray n i t k w (fitsIndex_both h1 h2) (by rw [List.size_toArray,← hl];exact hk) (by rw [← Array.getElem?_toList];exact hw) (by rw [List.size_toArray];omega)) ⟨e,?_⟩
 refine ⟨y,_,I.uU (its':=its.eraseIdx k) hH e ?_ (r.eraseIdx k) ?_,rw',q⟩
 ·show its.toArray.eraseIdxIfInBounds k=(its.eraseIdx k).toArray
  rw [List.eraseIdxIfInBounds_toArray]
 ·have:=oU xs k
  omega
def GH:R2:=fun x y H Q=>∃ l b xs zs,x=.ref l∧y=.ref b∧H l=some (.lst xs)∧H b=some (.lst zs)∧xs.length+zs.length≤sizeLine∧∀ p,H p=none→Q (.ref p) (upd H p (.lst (xs++zs)))
theorem BW:OpR X (binaryOp .Add) GH:=by
 intro pins s σ H x y v u Q I rx ry h
 obtain ⟨l,b,xs,zs,rfl,rfl,hH,hB,hz,q⟩:=h
 cases rx
 cases ry
 obtain ⟨z,its,n,r,hl,e⟩:=I.mK hH
 obtain ⟨z2,its2,n2,r2,hl2,e2⟩:=I.mK hB
 refine PySem.P.add_list e e2 ?_ (by rw [List.size_toArray,List.size_toArray];omega)
 have ea:its.toArray++its2.toArray=(its++its2).toArray:=by simp
 rw [ea]
 exact ⟨.ref _,_,I.G_ (t':=s.toks) (r.append r2) (by rw [List.length_append];omega),rfl,q _ I.fresh⟩
end
section
variable {prog:Program} {w:World} {A:Around} {E:Value→Shared→Prop} {s:Shared}
theorem uR {a c n:Nat} (hac:a≤c) (hc:c≤n):sliceBounds (some (a:Int)) (some (c:Int)) none n=((a:Int),(c:Int),1):=by
 simp only [sliceBounds,Option.getD_none]
 have h1:¬((a:Int) < 0):=by omega
 have h2:¬((c:Int) < 0):=by omega
 simp only [h1,h2,if_false,show (1:Int) > 0 by decide,if_true]
 congr 1
 ·omega
 ·congr 1;omega
set_option maxRecDepth 100000 in
theorem BC {l b sl : Addr} {items new : Array Value} {n n2 : Nat} {vl vu : Value} {a c : Nat} {Q : Unit → Shared → Prop}
    (e : s.heap.get? l = some { cls := .type "list", data := .seq items n }) (e2 : s.heap.get? b = some { cls := .type "list", data := .seq new n2 }) (hne : l ≠ b)
    (hs : s.heap.IsSliceOf sl vl vu .none) (pl : IsPart vl (some (a : Int))) (pu : IsPart vu (some (c : Int))) (hac : a ≤ c) (hc : c ≤ items.size)
    (hsz : items.size + new.size ≤ sizeLine) (h : Q () { s with heap := s.heap.update l (Obj.mapSeq fun xs => xs.extract 0 a ++ new ++ xs.extract c xs.size) }) :
    wpAny (model prog w) A (setItem (.ref l) (.ref sl) (.ref b)) Q E s := by
  have hl : s.heap.IsList l items := PySem.IsL.isList e
  have hb : s.heap.IsList b new := PySem.IsL.isList e2
  obtain ⟨os, hos, hcs, hds⟩ := id hs
  have hTs : s.TypeIs (.ref sl) "slice" := ⟨os, hos, hcs⟩
  have hstep : ¬ ((rawPart none == rawInt 0) = true) := Bool.false_ne_true
  have hsame : Builtin.List.listSameRef (.ref l) (.ref b) = false := by
    unfold Builtin.List.listSameRef
    exact beq_eq_false_iff_ne.mpr hne
  have hmax : (max (a : Int) (c : Int)).toNat = c := by omega
  have hz' : ((fun xs : Array Value => xs.extract 0 a ++ new ++ xs.extract c xs.size) items).size ≤ sizeLine + 1 := by
    simp only [Array.size_append, Array.size_extract]
    omega
  unfold setItem
  try with_reducible refine wpAny_holding ?_
  first | refine wpAny_bind (wpAny_pure ?_) | skip
  refine wpAny_bind (wpAny_sequenceKey hl.typeIs (by decide) ?_)
  refine wpAny_bind (wpAny_callSpecial?_slot (name := Str.ofString "__setitem__") hl.typeIs slot_list_setitem
    (wpAny_call_entry slot_list_setitem hl.typeIs entry_list_setitem ?_ (args_list_setitem _ _ _)))
  show wpAny _ _ (Builtin.List.listSubscript? (.ref sl) >>= _) _ _ s
  refine wpAny_bind ?_
  unfold Builtin.List.listSubscript?
  refine wpAny_bind (wpAny_specialOf hTs slice_no_index ?_)
  simp only [Option.isNone_none, if_true]
  refine wpAny_pure ?_
  show wpAny _ _ (typeOf (.ref sl) >>= _) _ _ s
  refine wpAny_bind (wpAny_typeOf hTs ?_)
  first
    | rw [if_neg (by decide)]
    | refine PySem.W.KFB.if_not (by decide) ?_
  rw [listSliceParts_eq]
  refine wpAny_bind (wpAny_bind (wpAny_field hos hds (x := .none) rfl (wpAny_bind (wpAny_listPart .none ?_))))
  rw [if_neg hstep]
  refine wpAny_bind (wpAny_field hos hds (x := vl) rfl (wpAny_bind (wpAny_listPart pl ?_)))
  refine wpAny_bind (wpAny_field hos hds (x := vu) rfl (wpAny_bind (wpAny_listPart pu (wpAny_pure ?_))))
  first
    | simp only [hsame, Bool.false_eq_true, if_false]
    | refine PySem.W.KFB.if_not hsame ?_
    | (dsimp only
       rw [if_neg (by rw [hsame]; exact Bool.false_ne_true)])
  refine wpAny_bind (m := Builtin.List.listAllItems (.ref b) "must assign iterable to extended slice") ?_
  unfold Builtin.List.listAllItems
  refine wpAny_bind (wpAny_typeOf hb.typeIs ?_)
  first
    | refine PySem.W.KFB.if_so (by decide) ?_
    | rw [if_pos (by decide)]
    | simp only [beq_self_eq_true, Bool.true_or, if_true]
  unfold Builtin.List.listItems
  refine wpAny_bind (wpAny_seqItems e2 rfl (wpAny_pure ?_))
  refine wpAny_bind (wpAny_bind (wpAny_seqItems e rfl (wpAny_pure ?_)))
  refine wpAny_bind (wpAny_of_eq ((sliceIndices_raw (some (a : Int)) (some (c : Int)) none items.size (by simp)).trans (congrArg (pure : Int × Int × Int → Sem (Int × Int × Int)) (uR hac hc))) ?_)
  show wpAny _ _ (if ((1 : Int) == 1) = true then _ else _) _ _ s
  rw [if_pos (by decide)]
  refine wpAny_bind (wpAny_rule ?_)
  first
    | simp only [jW hsz, Bool.false_eq_true, if_false]
    | refine PySem.W.KFB.if_not (jW hsz) ?_
  first | refine wpAny_bind (wpAny_pure ?_) | skip
  show wpAny _ _ (updateSeq l (fun xs => xs.extract 0 ((a : Int)).toNat ++ new ++ xs.extract (max (a : Int) (c : Int)).toNat xs.size) >>= _) _ _ s
  rw [hmax, Int.toNat_natCast]
  refine wpAny_bind (wpAny_updateSeq (hz := Nat.le_trans (Nat.le_add_right _ _) hsz) (_hz' := hz') e rfl ?_)
  refine wpAny_bind (wpAny_letGo ?_)
  first
    | exact wpAny_bind (wpAny_pure (wpAny_pure ⟨.none, rfl, wpAny_pure h⟩))
    | exact wpAny_pure ⟨.none, rfl, wpAny_pure h⟩
end
section
variable {X:Cx}
end
end L2
namespace Att
open PySem PySem.W PySem.Calls PyProof.Rows
theorem ni {P:Params} {h:Heap}:∀ (ns:List Int) (vs:List Value),WellAll P h vs (ns.map WData.int)→IntsAre vs ns:=by
 intro ns
 induction ns with
 | nil=>
  intro vs w
  rw [List.map_nil] at w
  cases w
  exact .nil
 | cons n ns ih=>
  intro vs w
  rw [List.map_cons] at w
  cases w with
  | cons a b=>
   cases a
   exact .cons _ _ (ih _ b)
theorem vW {l:OpenLaw} {n:Nat} (hn:l.most=some n) {P:Params} {h:Heap} {args:List WData} {vals:List Value}
    (hpre:l.row.toRowW.claim.pre args=true) (hwl:WellAll P h vals args) :
    ∃ a vs ns,vals=[Value.ref a]∧args=[WData.list (ns.map WData.int)]∧h.get? a=some { cls:=.type "list",data:=.seq vs.toArray }∧IntsAre vs ns∧ns.length≤n:=by
  have hsh:WShape.hasAll [] args [.list .int]=true:=(pre_splitW hpre).1
  have hc:l.pre.holds [] { args:=args }=true:=(pre_splitW hpre).2
  obtain ⟨d,r,rfl,h1,h2⟩:=hasAllW_cons hsh
  obtain rfl:=hasAllW_nil h2
  obtain ⟨xs,rfl,h3⟩:=hasW_list h1
  obtain ⟨ns,rfl⟩:=items_int h3
  have hlen:ns.length≤n:=by
    unfold OpenLaw.pre at hc
    have h4:(WTm.not (.lt (.lit (.int (n:Int))) (.len (.arg 0)))).holds [] { args:=[.list (ns.map .int)] }=true:=by
      have h4:=(holds_andW hc).1
      rw [hn] at h4
      exact h4
    have h5:=condW_of h4 (w_not (w_lt w_lit (w_len_list (w_arg rfl))))
    rw [List.length_map] at h5
    refine Nat.le_of_not_lt fun q=>?_
    have q':(n:Int) < ((ns.length:Nat):Int):=by omega
    first
      | (rw [decide_eq_true q'] at h5;exact absurd h5 (by decide))
      | (simp at h5;omega)
  cases hwl with
  | cons w1 w2=>
    cases w2
    cases w1 with
    | list ho hall=>exact ⟨_,_,ns,rfl,rfl,ho,ni ns _ hall,hlen⟩
theorem vj (l:OpenLaw) (args:List WData):l.row.toRowW.claim.post args (.bool true) args=true:=
 postW_of (r:=l.row.toRowW) (X:=(true == true))
  (show WShape.has [] (.bool true) .bool=true by first | rfl | decide | simp [WShape.has,WShape.arms,WShape.armsAll])
  (show (WTm.eq .res (.lit (.bool true))).value [] { args:=args,res:=some (.bool true),after:=args }=some (.bool (true == true)) from w_eq_bool (w_res rfl) w_lit) rfl
theorem sh {l:OpenLaw} {n:Nat} {q:Program} {loose:List Str} {XP:(Str→Option Value)→Heap→Prop} {YP:World→Heap→Prop} {d:DefRec}
  (hn:l.most=some n) (hdf:d.params.defaults=[])
  (call:∀ (w:World) (s₀ s₁:Shared) (mg mb:Str→Option Value) (fa:Addr) (o:Obj) (pm cd doc:Value) (a:Addr) (vs:List Value) (ns:List Int),
   Ground q loose [] XP w s₀ mg mb s₁.heap→YP w s₁.heap →
   s₁.heap.get? fa=some o→o.data=.func (docDef d.name d.params d.body d.scope pm cd doc)→s₁.heap.CodeRec cd d.name→mg d.name=some (.ref fa) →
   s₁.heap.get? a=some { cls:=.type "list",data:=.seq vs.toArray }→IntsAre vs ns→ns.length≤n→s₁.gens=#[] →
   codeAny (model l.prog w) callerA (.call (.ref fa) ⟨[.ref a],[]⟩) (fun r s'=>r=.ok (.ret (.bool true))∧OldK s₁.heap s'.heap∧s'.os=s₁.os∧AllBare s'.gens) s₁) :
  WalkO q loose XP YP l.row.toRowW d [] (fun f vs=>PySem.call f vs):=by
 intro w s₀ s₁ mg mb G Y fa o pm cd doc dV kV ho hd hcd hD hmg hg args vals as hpre hlay hrd hwl hlo
 obtain rfl:dV=.none:=Dflts.none hD hdf
 obtain rfl:kV=.none:=Dflts.noKw hD
 obtain ⟨a,vs,ns,rfl,rfl,hobj,hints,hlen⟩:=vW hn hpre hwl
 refine enter_call (codeAny_mono (call w s₀ s₁ mg mb fa o pm cd doc a vs ns G Y ho (fd_plain hd) hcd hmg hobj hints hlen hg) fun r s' hq=>?_)
 obtain ⟨rfl,h2,h3,h4⟩:=hq
 exact ⟨.inl ⟨.bool true,.bool true,[],rfl,fun _=>rfl,.bool true,vj l _,fun _=>⟨List.Pairwise.nil,fun _ hm=>(nomatch hm)⟩⟩,h2,h3,h4⟩
section
variable {prog:Program} {w:World} {A:Around} {E:Value→Shared→Prop} {s:Shared} {K:Frag}
end
end Att
namespace L2
open PySem PySem.Spec PyProof.Rows
theorem eD:∀ {vs:List Value} {ns:List Int},IntsAre vs ns→Vals (ns.map V.int) vs
 | _,_,.nil=>.nil
 | _,_,.cons n t h=>.cons ⟨t,rfl⟩ (eD h)
def yy (H:Hp):Prop:=∀ b,H b=none∨∃ o xs,H b=some (.frz o (.lst xs))
theorem x_ {P:Program} {w:World} {K:PySem.W.Frag} {mg mb:Str→Option Value} {CX:CXT} {k:Nat} {fa a:Addr} {fd:FuncData} {x:Str} {sp:Sp} {s₁:Shared} {vs:List Value} {ns:List Int}
  (KX:K.In s₁.heap) (hns:s₁.heap.Ns mainGlobals mg) (hb:s₁.heap.Ns builtinsNs mb) (hbb:∀ x:Str,x≠"__name__"→mb x=bootBuiltins x) (hlim:s₁.heap.NoLimit) (hg:s₁.gens=#[])
  (ha:s₁.heap.get? a=some { cls:=.type "list",data:=.seq vs.toArray }) (hi:IntsAre vs ns) (hl:ns.length≤sizeLine) (hr:c9 k callerA)
  (F:∀ base:Heap,K.In base→base.Ns mainGlobals mg→ff P w K mg base CX k fa fd [x] sp) (hbind:∀ (s:Shared) (u:Value),BindsTo s fd ⟨[u],[]⟩ [(x,u)])
  (hsp:∀ H:Hp,yy H→SqL K H a (ns.map V.int)→sp [.ref a] H (fun v _=>v=.bl true) fun _ _ _=>False)
  (hCX:∀ H e s',CX [] H s₁ (fun _ _ _=>False) e s'→False) :
  codeAny (model P w) callerA (.call (.ref fa) ⟨[.ref a],[]⟩) (fun r s'=>r=.ok (.ret (.bool true))∧OldK s₁.heap s'.heap∧s'.os=s₁.os∧AllBare s'.gens) s₁:=by
 have rv:=eD hi
 have lenV:=hi.length
 have core:∀ H:Hp,yy H→SqL K H a (ns.map V.int)→HOk P w H s₁.heap→(∀ b,H b≠none→b=a)→(H a≠none→K.lookup a=none) →
   codeAny (model P w) callerA (.call (.ref fa) ⟨[.ref a],[]⟩) (fun r s'=>r=.ok (.ret (.bool true))∧OldK s₁.heap s'.heap∧s'.os=s₁.os∧AllBare s'.gens) s₁:=by
  intro H hO hS hok hA hK
  have base_of:∀ {b:Addr} {o:Obj},s₁.heap.get? b=some o→H b=none→(jo s₁.heap H).get? b=some o:=fun e n=>yQ e n
  have noA:∀ {b:Addr} {o:Obj} {es:Array DictEntry} {ep:Nat},s₁.heap.get? b=some o→o.data=.dict es ep→H b=none:=fun {b o es ep} e d=>by
   cases q:H b with
   | none=>rfl
   | some u=>
    have e':b=a:=hA b (by rw [q];simp)
    subst e'
    rw [ha] at e;cases e
    have d':Data.seq vs.toArray _=Data.dict es ep:=d
    cases d'
  have nsK:∀ {b:Addr} {m:Str→Option Value},s₁.heap.Ns b m→(jo s₁.heap H).Ns b m:=fun {b m} ⟨o,es,ep,e,d,r⟩=>⟨o,es,ep,base_of e (noA e d),d,r⟩
  have hKb:K.In (jo s₁.heap H):=fun b o e=>base_of (KX b o e) (by
   cases q:H b with
   | none=>rfl
   | some u=>
    have e':b=a:=hA b (by rw [q];simp)
    subst e'
    rw [hK (by rw [q];simp)] at e;cases e)
  have hM:Mod K mg (jo s₁.heap H):=⟨hKb,nsK hns,⟨mb,nsK hb,hbb⟩,let ⟨mc,h1,h2⟩:=hlim;⟨mc,nsK h1,h2⟩⟩
  have e0:uE P w K mg (jo s₁.heap H) callerA [] s₁ H:=⟨rfl,hM,fun b o e=>AZ e,Nat.le_of_eq (vB _ _),trivial,fun b hb=>absurd (show b∈([]:List Addr) from hb) (by simp),hok,.of_eq hg⟩
  refine codeAny_mono ((F _ hKb (nsK hns)).run callerA [] s₁ H ⟨[.ref a],[]⟩ [.ref a] [.ref a] _ _ hr e0 (hbind s₁ (.ref a)) (.cons rfl .nil) (hsp H hO hS)) fun r s' h=>?_
  cases r with
  | error e=>exact (hCX H e s' h).elim
  | ok fl=>
   cases fl with
   | next=>exact False.elim h
   | brk=>exact False.elim h
   | cont=>exact False.elim h
   | ret u=>
    obtain ⟨v,H',os,bare,un,hok',r',q⟩:=h
    have q':v=.bl true:=q
    subst q'
    obtain rfl:u=Value.bool true:=r'
    refine ⟨rfl,OldK.of_keep fun b o e=>?_,os,bare⟩
    cases q:H b with
    | none=>exact un.keep b o e q (by intro z;exact absurd (show b∈([]:List Addr) from z) (by simp)) (by simp)
    | some u=>
     rcases hO b with z | ⟨ob,xs,z⟩
     ·rw [q] at z;cases z
     ·have z2:=un.frzs b ob _ z
      obtain ⟨e1,_⟩:=hok b _ z
      obtain ⟨e2,_⟩:=hok' b _ z2
      rw [e] at e1;cases e1
      exact e2
 cases hk:K.lookup a with
 | some o=>
  have e:=KX a o hk
  rw [ha] at e
  cases e
  refine core (fun _=>none) (fun _=>.inl rfl) (.inr ⟨_,vs.toArray,_,hk,rfl,rfl,rfl,by rw [List.size_toArray,lenV];exact hl,by simpa using rv⟩) (fun b u z=>by have z':(none:Option HO)=some u:=z;cases z') (fun b z=>absurd rfl z) fun z=>absurd rfl z
 | none=>
  refine core (fun b=>if b=a then some (.frz { cls:=.type "list",data:=.seq vs.toArray } (.lst (ns.map V.int))) else none) (fun b=>?_) (.inl (.inr ⟨{ cls:=.type "list",data:=.seq vs.toArray },if_pos rfl⟩)) (fun b u z=>?_) (fun b z=>?_) fun _=>hk
  ·by_cases hb:b=a
   ·exact .inr ⟨_,_,if_pos hb⟩
   ·exact .inl (if_neg hb)
  ·by_cases hb:b=a
   ·have z':=(if_pos hb).symm.trans z
    cases z'
    subst hb
    exact ⟨ha,by rw [List.length_map];exact hl,vs,_,rv,ha⟩
   ·have z':=(if_neg hb).symm.trans z
    cases z'
  ·by_cases hb:b=a
   ·exact hb
   ·exact absurd (if_neg hb) z
theorem Ay {l:PySem.W.OpenLaw} {n k:Nat} {q:Program} {loose:List Str} {XP:(Str→Option Value)→Heap→Prop} {YP:World→Heap→Prop} {d:DefRec} {K:Params→PySem.W.Frag} {CX:World→CXT} {sp:World→Sp} {x:Str}
  (hn:l.most=some n) (hn2:n≤sizeLine) (hdf:d.params.defaults=[]) (hr:c9 k callerA)
  (hY:∀ (w:World) (h:Heap),YP w h→(K w.params).In h)
  (F:∀ (w:World) (mg:Str→Option Value) (fa:Addr) (h:Heap),(K w.params).In h→h.Ns mainGlobals mg→mg d.name=some (.ref fa) →
   ∃ fd:FuncData,(∀ (s:Shared) (u:Value),BindsTo s fd ⟨[u],[]⟩ [(x,u)]) ∧
    ∀ base:Heap,(K w.params).In base→base.Ns mainGlobals mg→ff l.prog w (K w.params) mg base (CX w) k fa fd [x] (sp w))
  (hsp:∀ (w:World) (H:Hp) (a:Addr) (ns:List Int),ns.length≤n→yy H→SqL (K w.params) H a (ns.map V.int)→sp w [.ref a] H (fun v _=>v=.bl true) fun _ _ _=>False)
  (hCX:∀ (w:World) (H:Hp) (s:Shared) (e:Value) (s':Shared),CX w [] H s (fun _ _ _=>False) e s'→False) :
  PySem.W.WalkO q loose XP YP l.row.toRowW d [] (fun f vs=>PySem.call f vs):=by
 refine Att.sh hn hdf fun w s₀ s₁ mg mb fa o pm cd doc a vs ns G Y ho hd hcd hmg hobj hints hlen hg=>?_
 have KX:=hY w _ Y
 obtain ⟨fd,hb,hF⟩:=F w mg fa _ KX G.T.g hmg
 exact x_ KX G.T.g G.T.b G.T.builtins G.T.nolimit hg hobj hints (Nat.le_trans hlen hn2) hr hF hb (fun H hO hS=>hsp w H a ns hlen hO hS) fun H e s'=>hCX w H s₁ e s'
def jm (s:Stmt):Arguments:=match s with
 | .FunctionDef _ a _ _ _ _ _ _ _ _=>a
 | _=>{ posonlyargs:=[],args:=[],vararg:=none,kwonlyargs:=[],kw_defaults:=[],kwarg:=none,defaults:=[] }
def eE (s:Stmt):List Stmt:=match s with
 | .FunctionDef _ _ b _ _ _ _ _ _ _=>b
 | _=>[]
def bQ (s:Stmt):Scope:=match s with
 | .FunctionDef _ _ _ _ _ _ sc _ _ _=>sc
 | _=>{ kind:=.function,names:=[],isGenerator:=false,isCoroutine:=false }
abbrev CX0:CXT:=fun _ _ _ _ _ _=>False
abbrev E0:XK:=fun _ _ _=>False
theorem E3 {X:Cx}:Passes CX0 X E0:=fun _ _ _ _ _ _ _ h=>h.elim
structure Fun (K:PySem.W.Frag) (x qual:Str) (st:Stmt) (f:Addr) (fd:FuncData):Prop where
 ex:∃ (oc:Value) (od:Option Addr) (kV doc pm:Value) (an:Option Addr) (cdv ct:Value) (osl:Array (Option Value)),
  fd=PySem.W.fnOf x qual (jm st) (eE st) (bQ st) .none kV doc pm an cdv ct∧K.lookup f=some ⟨oc,od,.func fd,osl⟩∧PySem.W.codeIn K cdv qual=true
 kp:PySem.W.keepIn K (.ref f)=true
section
variable {P:Program} {w:World} {K:PySem.W.Frag} {mg:Str→Option Value} {base:Heap}
theorem Fun.ok {x qual:Str} {st:Stmt} {f:Addr} {fd:FuncData} {N ps:List Str} {k:Nat} {sp:Sp} (F:Fun K x qual st f fd) (S:i9 N ps (bQ st)) (len:∀ vs H Q E,sp vs H Q E→vs.length=ps.length)
  (hbody:∀ (cdv:Value) (A:Around) (outer:List Env) (s:Shared) (H:Hp) (vs:List V) (Q:VK) (E:XK),c9 k (A.deeper (envOfC qual (bQ st) s.heap.objs.size f cdv))→sp vs H Q E →
   ∃ t,PSs (kR CX0 P w K mg base N qual (bQ st) f cdv A outer s H E).nox (eE st) t∧t { nx:=fun _ H'=>Q .non H',rt:=Q } (start N vs) H):ff P w K mg base CX0 (k+1) f fd ps sp:=by
 obtain ⟨oc,od,kV,doc,pm,an,cdv,ct,osl,rfl,lk,hcd⟩:=F.ex
 refine Fv lk hcd S len fun A outer s H vs Q E hr hsp=>?_
 obtain ⟨t,h,q⟩:=hbody cdv A outer s H vs Q E hr hsp
 exact ⟨t,h.nox,q⟩
theorem C8 {x qual:Str} {st:Stmt} {f:Addr} {oc:Value} {od an:Option Addr} {osl:Array (Option Value)} {kV doc pm cdv ct:Value} (l:K.lookup f=some ⟨oc,od,.func (PySem.W.fnOf x qual (jm st) (eE st) (bQ st) .none kV doc pm an cdv ct),osl⟩)
  (c:PySem.W.codeIn K cdv qual=true) (k:PySem.W.keepIn K (.ref f)=true):Fun K x qual st f (PySem.W.fnOf x qual (jm st) (eE st) (bQ st) .none kV doc pm an cdv ct):=⟨⟨oc,od,kV,doc,pm,an,cdv,ct,osl,rfl,l,c⟩,k⟩
end
theorem dA {n:Nat} (h:n≤1000):n < sizeLine:=Nat.lt_of_le_of_lt h (by decide)
section
variable {X:Cx}
end
def dE (H H':Hp):Prop:=∀ b o,H b=some o→H' b=some o
def gO (env:Env):List (Str×NameKind)→List (Str×Addr)→List (Str×Addr)
 | [],acc=>acc
 | (n,k) :: r,acc=>gO env r (if k == .free then (n,(env.cells.lookup n).getD 0) :: acc else acc)
theorem iK {scope:Scope} {env:Env} (h:∀ y∈scope.names,y.2=.free→∃ c,env.cells.lookup y.1=some c):closureFor scope env=pure (gO env scope.names []):=by
 have all:∀ (l:List (Str×NameKind)) (acc:List (Str×Addr)),(∀ y∈l,y.2=.free→∃ c,env.cells.lookup y.1=some c) →
   (forIn l acc fun (x:Str×NameKind) (r:List (Str×Addr))=>match x with
    | (name,kind)=>if (kind == NameKind.free)=true then (do let a ← cellOf env name;pure (ForInStep.yield ((name,a) :: r))) else pure (ForInStep.yield r):Sem (List (Str×Addr)))=pure (gO env l acc):=by
  intro l
  induction l with
  | nil=>intro acc _;rfl
  | cons y r ih=>
   intro acc hl
   obtain ⟨n,k⟩:=y
   have hr:∀ y∈r,y.2=.free→∃ c,env.cells.lookup y.1=some c:=fun y hy=>hl y (List.mem_cons_of_mem _ hy)
   rw [List.forIn_cons]
   by_cases hk:k=.free
   ·subst hk
    obtain ⟨c,hc⟩:=hl _ List.mem_cons_self rfl
    have e:cellOf env n=pure c:=by unfold cellOf;rw [show env.cells.lookup n=some c from hc]
    simp only [beq_self_eq_true,if_true,e,pure_bind]
    rw [ih _ hr]
    simp only [gO,beq_self_eq_true,if_true,show env.cells.lookup n=some c from hc,Option.getD_some]
   ·have hb:(k == NameKind.free)=false:=by simpa using hk
    simp only [hb,Bool.false_eq_true,if_false,pure_bind]
    rw [ih _ hr]
    simp only [gO,hb,Bool.false_eq_true,if_false]
 have q:=all scope.names [] h
 unfold closureFor
 simp only [bind_pure] at q ⊢
 exact q
theorem p9 {env:Env}:∀ {l:List (Str×NameKind)} {acc:List (Str×Addr)} {x:Str} {c:Addr},(∀ y∈l,y.2=.free→∃ c,env.cells.lookup y.1=some c) →
  (∀ x c,(x,c)∈acc→env.cells.lookup x=some c)→(x,c)∈gO env l acc→env.cells.lookup x=some c
 | [],_,_,_,_,ha,h=>ha _ _ h
 | (n,k) :: r,acc,x,c,hl,ha,h=>by
  refine p9 (l:=r) (fun y hy=>hl y (List.mem_cons_of_mem _ hy)) (fun x c hm=>?_) h
  by_cases hk:(k == NameKind.free)=true
  ·rw [if_pos hk] at hm
   rcases List.mem_cons.mp hm with e | e
   ·cases e
    obtain ⟨c',hc⟩:=hl _ List.mem_cons_self (by simpa using hk)
    have hc':env.cells.lookup n=some c':=hc
    rw [hc'];rfl
   ·exact ha _ _ e
  ·rw [if_neg hk] at hm;exact ha _ _ hm
theorem dB {env:Env} {l:List (Str×NameKind)} {x:Str} {c:Addr} (hl:∀ y∈l,y.2=.free→∃ c,env.cells.lookup y.1=some c) (h:(gO env l []).lookup x=some c):env.cells.lookup x=some c:=
 p9 hl (fun _ _ z=>absurd z (by simp)) (PySem.mem_of_lookup h)
theorem mL {env:Env}:∀ {l:List (Str×NameKind)} {acc:List (Str×Addr)} {x:Str},((x,NameKind.free)∈l∨∃ c,(x,c)∈acc)→∃ c,(x,c)∈gO env l acc
 | [],_,_,h=>h.elim (fun z=>absurd z (by simp)) fun z=>z
 | (n,k) :: r,acc,x,h=>by
  refine mL (l:=r) ?_
  rcases h with h | ⟨c,h⟩
  ·rcases List.mem_cons.mp h with e | e
   ·cases e
    exact .inr ⟨_,by rw [if_pos (by simp)];exact List.mem_cons_self⟩
   ·exact .inl e
  ·by_cases hk:(k == NameKind.free)=true
   ·exact .inr ⟨c,by rw [if_pos hk];exact List.mem_cons_of_mem _ h⟩
   ·exact .inr ⟨c,by rw [if_neg hk];exact h⟩
theorem dX {β:Type}:∀ {l:List (Str×β)} {x:Str} {c:β},(x,c)∈l→∃ c',l.lookup x=some c'
 | [],_,_,h=>nomatch h
 | (n,d) :: r,x,c,h=>by
  rw [List.lookup_cons]
  cases e:x == n with
  | true=>exact ⟨d,rfl⟩
  | false=>
   rcases List.mem_cons.mp h with q | q
   ·cases q;simp at e
   ·exact dX q
def cn (X:Cx) (scope:Scope) (N:List Str) (C:Addr) (s:Shared) (H:Hp) (fp:List Addr):Cx:=
 { X with N:=N,s₀:=s,H₀:=H,env:=compEnvC scope (gO X.env scope.names []) C X.env,outer:=X.stack,ex:=fp,fn:=fun _=>false,pn:=[],xe:=fun _ _=>False }
structure eG (esc scope:Scope) (EN N:List Str) (k:Nat):Prop where
 kind:scope.kind=.function
 nocell:∀ y∈scope.names,y.2≠.cell
 names:∀ y∈scope.names,y.2=.local→scope.names.lookup y.1=some .local
 frees:∀ y∈scope.names,y.2=.free→esc.names.lookup y.1=some .cell∨esc.names.lookup y.1=some .free
 len:N.length=k+EN.length
 nm:(((N.drop k).zip EN).all fun p=>(decide (p.1=p.2) && decide (scope.names.lookup p.1=some .free)) || decide (scope.names.lookup p.1=none))=true
theorem cI {scope:Scope} {env:Env} {x:Str} {k:NameKind}:∀ {l:List (Str×NameKind)},
  (l.map fun (n,k)=>if (k == NameKind.free && env.scope.kind == .function && env.kindOf n == some .cell) then (n,NameKind.cell) else (n,k)).lookup x=some k →
  l.lookup x=some k∨(l.lookup x=some .free∧k=.cell∧env.kindOf x=some .cell)
 | [],h=>by simp at h
 | (n,k') :: r,h=>by
  have ih:=@cI scope env x k r
  cases hx:x == n with
  | true=>
   have e:x=n:=by simpa using hx
   subst e
   by_cases hc:(k' == NameKind.free && env.scope.kind == .function && env.kindOf x == some .cell)=true
   ·simp only [List.map_cons,if_pos hc,List.lookup_cons,hx] at h
    cases h
    have hc2:(k'=.free∧env.scope.kind=.function)∧env.kindOf x=some .cell:=by simpa using hc
    exact .inr ⟨by simp [List.lookup_cons,hc2.1.1],rfl,hc2.2⟩
   ·simp only [List.map_cons,if_neg hc,List.lookup_cons,hx] at h
    exact .inl (by simpa [List.lookup_cons] using h)
  | false=>
   have h':(r.map fun (n,k)=>if (k == NameKind.free && env.scope.kind == .function && env.kindOf n == some .cell) then (n,NameKind.cell) else (n,k)).lookup x=some k:=by
    by_cases hc:(k' == NameKind.free && env.scope.kind == .function && env.kindOf n == some .cell)=true
    ·simpa only [List.map_cons,if_pos hc,List.lookup_cons,hx] using h
    ·simpa only [List.map_cons,if_neg hc,List.lookup_cons,hx] using h
   rw [List.lookup_cons,hx]
   exact ih h'
theorem lH {scope:Scope} {env:Env} {x:Str}:∀ {l:List (Str×NameKind)},l.lookup x=some .free →
  (l.map fun (n,k)=>if (k == NameKind.free && env.scope.kind == .function && env.kindOf n == some .cell) then (n,NameKind.cell) else (n,k)).lookup x=some .cell ∨
  (l.map fun (n,k)=>if (k == NameKind.free && env.scope.kind == .function && env.kindOf n == some .cell) then (n,NameKind.cell) else (n,k)).lookup x=some .free
 | [],h=>by simp at h
 | (n,k') :: r,h=>by
  have ih:=@lH scope env x r
  cases hx:x == n with
  | true=>
   by_cases hc:(k' == NameKind.free && env.scope.kind == .function && env.kindOf n == some .cell)=true
   ·exact .inl (by simp only [List.map_cons,if_pos hc,List.lookup_cons,hx])
   ·refine .inr ?_
    simp only [List.map_cons,if_neg hc,List.lookup_cons,hx]
    simpa only [List.lookup_cons,hx] using h
  | false=>
   have h':r.lookup x=some .free:=by simpa only [List.lookup_cons,hx] using h
   by_cases hc:(k' == NameKind.free && env.scope.kind == .function && env.kindOf n == some .cell)=true
   ·simpa only [List.map_cons,if_pos hc,List.lookup_cons,hx] using ih h'
   ·simpa only [List.map_cons,if_neg hc,List.lookup_cons,hx] using ih h'
section
variable {X:Cx} {pins:List (Addr×Obj)} {σ:St} {H:Hp} {s:Shared} {scope:Scope} {N:List Str} {k:Nat} {fp:List Addr}
theorem eG.cells (S:eG X.env.scope scope X.N N k) (ok:X.Ok):∀ y∈scope.names,y.2=.free→∃ c,X.env.cells.lookup y.1=some c:=fun y hy hf=>ok.has y.1 (S.frees y hy hf)
theorem Inv.Aq {h4:Heap} {tk:Nat} (I:Inv X pins σ H s) (S:eG X.env.scope scope X.N N k) (hf:∀ b∈fp,fq X pins H b) (hlt:∀ b∈fp,b < s.heap.objs.size) (hn:h4.Ns s.heap.objs.size fun _=>none) (hk:∀ b o,s.heap.get? b=some o→h4.get? b=some o) :
  Inv (cn X scope N s.heap.objs.size s H fp) [] (List.replicate k none++σ) H { s with heap:=h4,toks:=tk }:=by
 have hcells:=S.cells I.ok
 have noA:∀ p:Addr×Obj,p∈(cn X scope N s.heap.objs.size s H fp).pn++[]→False:=fun p hp=>absurd (show p∈([]:List (Addr×Obj)) from hp) (by simp)
 refine ⟨⟨I.ok.mod,S.kind,I.ok.glob,I.ok.blt,Nat.le_refl _,fun y z c h1 h2=>?_,fun y hy=>?_,fun y c h=>?_,I.ok.hd,I.ok.frames,.inl rfl,fun b hb=>?_,I.bs,Nat.le_trans I.ok.bsz I.sz,fun b o e hb=>?_,fun b hb hz=>?_,I.stack,I.tD⟩,
  rfl,I.bare,Un.kept hk,⟨_,hn,fun i y v h1 h2 h3=>?_⟩,fun y c h=>?_,I.hok.fresh (Nat.le_refl _),fun y c h=>?_,fun p hp=>(noA p hp).elim,I.hok.kept hk,?_⟩
 ·exact I.ok.inj y z c (dB hcells h1) (dB hcells h2)
 ·have hy:(relabel scope X.env).names.lookup y=some .cell∨(relabel scope X.env).names.lookup y=some .free:=hy
  have hfree:scope.names.lookup y=some .free:=by
   rcases hy with q | q
   ·rcases cI (scope:=scope) q with q | ⟨q,_⟩
    ·exact absurd rfl (S.nocell _ (PySem.mem_of_lookup q))
    ·exact q
   ·rcases cI (scope:=scope) q with q | ⟨q,z,_⟩
    ·exact q
    ·cases z
  obtain ⟨c,hc⟩:=mL (env:=X.env) (l:=scope.names) (acc:=[]) (.inl (PySem.mem_of_lookup hfree))
  exact dX hc
 ·exact absurd h (by show ¬(false=true);decide)
 ·obtain ⟨f0,f1,f2,f3,f4,f5⟩:=hf b hb
  exact ⟨Nat.ne_of_lt (hlt b hb),fun x c h=>f4 x c (dB hcells h)⟩
 ·obtain ⟨f0,f1,f2,f3,f4,f5⟩:=hf b hb
  rcases f3 with q | q
  ·exact I.ok.noex b o e q
  ·exact absurd (Nat.lt_of_lt_of_le (Heap.lt_size (I.ok.bs b o e).1) q) (Nat.lt_irrefl _)
 ·obtain ⟨f0,f1,f2,f3,f4,f5⟩:=hf b hb
  rcases List.mem_cons.mp (I.nE b hz) with z | z
  ·exact f1 z
  ·exact f2 z
 ·
  have hi:k≤i:=by
   refine Nat.le_of_not_lt fun q=>?_
   rw [List.getElem?_append_left (by simpa using q),List.getElem?_replicate] at h2
   split at h2<;>cases h2
  obtain ⟨j,rfl⟩:=Nat.exists_eq_add_of_le hi
  have h2':σ[j]?=some (some v):=by
   rw [List.getElem?_append_right (by simp)] at h2
   simpa using h2
  have hy:(relabel scope X.env).names.lookup y=some .local∨(relabel scope X.env).names.lookup y=some .cell∨(relabel scope X.env).names.lookup y=some .free:=h3
  have hjn:j < X.N.length:=by
   have:=(List.getElem?_eq_some_iff.mp h2').1
   rw [I.len] at this
   exact this
  have hyn:N[k+j]?=some y:=h1
  have hnm:=List.all_eq_true.mp S.nm (y,X.N[j]) (by
   refine List.mem_iff_getElem?.mpr ⟨j,?_⟩
   rw [List.getElem?_zip_eq_some]
   exact ⟨by rw [List.getElem?_drop];exact hyn,by simp [hjn]⟩)
  have hvis:scope.names.lookup y≠none:=by
   rcases hy with q | q | q
   ·rcases cI (scope:=scope) q with q | ⟨q,_⟩<;>rw [q]<;>simp
   ·rcases cI (scope:=scope) q with q | ⟨q,_⟩<;>rw [q]<;>simp
   ·rcases cI (scope:=scope) q with q | ⟨q,_⟩<;>rw [q]<;>simp
  have hnm2:y=X.N[j]∧scope.names.lookup y=some .free:=by
   rcases (Bool.or_eq_true _ _).mp hnm with q | q
   ·exact ⟨of_decide_eq_true ((Bool.and_eq_true _ _).mp q).1,of_decide_eq_true ((Bool.and_eq_true _ _).mp q).2⟩
   ·exact absurd (of_decide_eq_true q) hvis
  obtain ⟨hyj,hfree⟩:=hnm2
  have hk2:=S.frees _ (PySem.mem_of_lookup hfree) rfl
  have hvis2:Vis X.env.scope y:=.inr hk2
  obtain ⟨m,hm,hl⟩:=I.loc
  obtain ⟨u,ru,lk⟩:=hl j y v (by rw [hyj];simp [hjn]) h2' hvis2
  refine ⟨u,ru,?_⟩
  rcases lk with ⟨q,_⟩ | ⟨_,c,hc,hcell⟩
  ·rcases hk2 with z | z
   ·exact absurd (q.symm.trans (show X.env.kindOf y=some .cell from z)) (by simp)
   ·exact absurd (q.symm.trans (show X.env.kindOf y=some .free from z)) (by simp)
  ·refine .inr ⟨lH (scope:=scope) hfree,c,?_,hcell.keeps hk⟩
   obtain ⟨c',hc'⟩:=mL (env:=X.env) (l:=scope.names) (acc:=[]) (.inl (PySem.mem_of_lookup hfree))
   obtain ⟨c2,hc2⟩:=dX hc'
   have q:=dB hcells hc2
   rw [hc] at q;cases q
   exact hc2
 ·obtain ⟨v,q⟩:=I.cell y c (dB hcells h)
  exact ⟨v,q.keeps hk⟩
 ·exact I.freeC y c (dB hcells h)
 ·show (List.replicate k none++σ).length=N.length
  rw [List.length_append,List.length_replicate,S.len,I.len]
end
section
variable {prog:Program} {w:World} {A:Around} {R:Result→Shared→Prop} {s:Shared}
theorem gI {env:Env} {R:Value→Shared→Prop}:∀ (x:Value) (s':Shared),False→notedBy (model prog w) A env R x s':=fun _ _ h=>h.elim
theorem qB {elt target iter:Expr} {ifs:List Expr} {scope:Scope} {pos:Pos} {it acc:Value} {env:Env} (I:Nat→Shared→Prop)
  (turn:∀ n s,I n s→wpAny (model prog w) A (pyNext it) (fun r s₁=>match r with
   | none=>R (.ok .next) s₁
   | some v=>wpAny (model prog w) A (letOwnedTupleGo target it v) (fun _ s₁'=>wpAny (model prog w) A (assign target env v) (fun _ s₂=>
     wpAny (model prog w) A (forIn ifs true fun c r=>if r=true then do let ok ← isTrue c env (eval c env);pure (ForInStep.yield ok) else pure (ForInStep.yield r)) (fun ok s₃=>
      if ok=true then wpAny (model prog w) A (eval elt env) (fun x s₄=>
       wpAny (model prog w) A (call (.builtin "list.append") [acc,x]) (fun _ s₅=>∃ m,m < n∧I m s₅) (fun _ _=>False) s₄) (fun _ _=>False) s₃
      else ∃ m,m < n∧I m s₃) (fun _ _=>False) s₂) (fun _ _=>False) s₁') (fun _ _=>False) s₁) (fun _ _=>False) s)
  (n:Nat) (h:I n s) :
  codeAny (model prog w) A (.compLoop (.ListComp elt [⟨target,iter,ifs,0⟩] scope pos) 0 it acc env) R s:=by
 refine codeAny_loop rfl I (fun n s hI=>?_) n h
 show wpAny _ A ((compTurn (.ListComp elt [⟨target,iter,ifs,0⟩] scope pos) 0 it acc env).onRaise (fun x=>do noteFrame x env;theTreesLotGoes x)) _ _ s
 refine wpAny_noted ?_
 rw [compTurn_list]
 refine wpAny_bind (wpAny_standAt (wpAny_bind (wpAny_mono (turn n s hI) (fun r s₁ h₁=>?_) gI)))
 cases r with
 | none=>exact wpAny_pure h₁
 | some v=>
  refine wpAny_bind (wpAny_mono h₁ (fun _ s₁' h₁'=>?_) gI)
  refine wpAny_bind (wpAny_mono h₁' (fun _ s₂ h₂=>wpAny_bind (wpAny_mono h₂ (fun ok s₃ h₃=>?_) gI)) gI)
  cases ok with
  | false=>exact wpAny_pure ⟨rfl,h₃⟩
  | true=>
   exact wpAny_bind (wpAny_bind (wpAny_mono h₃ (fun x s₄ h₄=>wpAny_bind (wpAny_mono h₄ (fun _ s₅ h₅=>wpAny_pure (wpAny_pure ⟨rfl,h₅⟩)) gI)) gI))
end
def PTs (X:Cx) (ifs:List Expr) (t:TT):Prop:=
 ∀ (pins:List (Addr×Obj)) (s:Shared) (σ:St) (H:Hp) (Q:Bool→Hp→Prop),Inv X pins σ H s→t σ H Q →
  wpAny (model X.prog X.w) X.A (forIn ifs true fun c r=>if r=true then do let ok ← isTrue c X.env (eval c X.env);pure (ForInStep.yield ok) else pure (ForInStep.yield r)) (TP X pins σ Q) X.xe s
def GO:TT:=fun _ H Q=>Q true H
theorem Au {X:Cx}:PTs X [] GO:=fun _ _ _ H _ I h=>wpAny_tests_nil ⟨H,I,h⟩
theorem Ap {X:Cx} {c:Expr} {t:TT} (h:PT X c t):PTs X [c] t:=fun pins s σ H Q I q=>wpAny_tests_one (h pins s σ H Q I q)
def LCW (J:It) (g:TG) (tt:TT) (te:TE) (k:Nat) (D:Addr) (σ:St) (H1:Hp) (Q:Hp→Prop):Prop:=
 ∃ W:Nat→Nat→St→Hp→Prop,(∃ m,W 0 m (List.replicate k none++σ) (upd H1 D (.lst [])))∧∀ i m σ' H',W i m σ' H' →
  (J.stop i H'∧Q H')∨(J.go i H'∧∃ N:St→Hp→Prop,(∀ σ2 H2,N σ2 H2→∃ m',m' < m∧W (i+1) m' σ2 H2) ∧
   ∀ x H2,J.yld i H' x H2→g x σ' H2 fun σ3 H3=>tt σ3 H3 fun b H4=>if b=true then te σ3 H4 fun v H5=>∃ xs,H5 D=some (.lst xs)∧xs.length < sizeLine∧N σ3 (upd H5 D (.lst (xs++[v]))) else N σ3 H4)
def tLC (wi:TI) (g:TG) (tt:TT) (te:TE) (k:Nat):TE:=fun σ H Q=>wi σ H fun J H1=>∀ D,H1 D=none→LCW J g tt te k D σ H1 fun H2=>Q (.ref D) H2
section
variable {X:Cx} {tg elt iter:Expr} {ifs:List Expr} {scope:Scope} {pos:Pos} {wi:TI} {g:TG} {tt:TT} {te:TE} {N:List Str} {k:Nat}
theorem qE {pins:List (Addr×Obj)} {σ:St} {H2:Hp} {s2:Shared} {it:Addr} {fp:List Addr} {tn:Nat→Heap→Prop} {J:It} {E:Value→Shared→Prop} {QD:Addr→Hp→Prop} {RR:Value→Addr→Result→Shared→Prop}
  (hc:X.calm=true) (S:eG X.env.scope scope X.N N k) (hg:∀ C s H fp,PG (cn X scope N C s H fp) tg g) (ht:∀ C s H fp,PTs (cn X scope N C s H fp) ifs tt) (he:∀ C s H fp,PE (cn X scope N C s H fp) elt te)
  (I2:Inv X pins σ H2 s2) (T:Turn X.prog X.w X.K tg J fp it tn) (st2:tn 0 s2.heap) (f2:∀ b∈fp,fq X pins H2 b) (q:∀ D,H2 D=none→LCW J g tt te k D σ H2 (QD D))
  (hRR:∀ (D C:Addr) (s':Shared) (H':Hp) (m:Str→Option Value),s2.heap.objs.size < C→Inv X pins σ H' s'→s'.heap.Ns C m→H' C=none→C≠X.env.locals→C∉X.fs→X.s₀.heap.objs.size≤C→(∀ x c,X.env.cells.lookup x=some c→c≠C)→(∀ p∈X.pn++pins,p.1≠C)→QD D H'→RR (.ref D) C (.ok .next) s') :
  wpAny (model X.prog X.w) X.A (newList []) (fun acc s₃=>wpAny (model X.prog X.w) X.A (newFunctionEnv scope X.env.globals (gO X.env scope.names []) [] X.env.qual none .none (some X.env)) (fun cenv s₄=>
   codeAny (model X.prog X.w) X.A (.compStart (.ListComp elt [⟨tg,iter,ifs,0⟩] scope pos) 0 (.ref it) acc { cenv with scope:=relabel scope X.env }) (RR acc cenv.locals) s₄) E s₃) E s2:=by
 have hD:H2 s2.heap.objs.size=none:=I2.hok.fresh (Nat.le_refl _)
 obtain ⟨W,⟨m0,w0⟩,turn⟩:=q _ hD
 refine wpAny_newObj_type ?_
 have I3:Inv X pins σ (upd H2 s2.heap.objs.size (.lst [])) { s2 with heap:=s2.heap.push { cls:=.type "list",dict:=none,data:=.seq ([]:List Value).toArray } }:=by
  refine I2.laid (t':=s2.toks) (fun b u e=>Heap.get?_push_of_some _ e) (Nat.le_refl _) ?_
  exact ⟨Nat.zero_le _,[],0,.nil,Heap.get?_push_size _ rfl⟩
 have k3:∀ b o,s2.heap.get? b=some o→(s2.heap.push { cls:=.type "list",dict:=none,data:=.seq ([]:List Value).toArray }).get? b=some o:=fun b o e=>Heap.get?_push_of_some _ e
 generalize hs3:({ s2 with heap:=s2.heap.push { cls:=.type "list",dict:=none,data:=.seq ([]:List Value).toArray } }:Shared)=s3 at I3 ⊢
 have hsz:s3.heap.objs.size=s2.heap.objs.size+1:=by rw [← hs3];exact Heap.size_push ..
 have k3':∀ b o,s2.heap.get? b=some o→s3.heap.get? b=some o:=by rw [← hs3];exact k3
 generalize hDe:s2.heap.objs.size=D at *
 have fpD:∀ b∈fp,b < D:=fun b hb=>by
  obtain ⟨o,e,_⟩:=T.obj _ _ st2 b hb
  rw [← hDe];exact Heap.lt_size e
 have f3:∀ b∈fp,fq X pins (upd H2 D (.lst [])) b:=fun b hb=>by
  refine ⟨?_,(f2 b hb).2⟩
  rw [aB (Nat.ne_of_lt (fpD b hb))]
  exact (f2 b hb).1
 refine wpAny_newFunctionEnv S.nocell (by intro y hy;simp at hy) (fun h4 hn4 hs4=>?_) S.kind
 try dsimp only at hn4 hs4 ⊢
 have k4:∀ b o,s3.heap.get? b=some o→h4.get? b=some o:=fun b o e=>hs4.extBut b o (Nat.ne_of_lt (Heap.lt_size e)) (Heap.get?_push_of_some _ e)
 have I4:=I3.Aq (h4:=h4) (tk:=s3.toks+0) S f3 (fun b hb=>by rw [hsz];exact Nat.lt_succ_of_lt (fpD b hb)) hn4 k4
 have st4:tn 0 h4:=T.keep _ _ _ st2 fun b hb o e=>k4 b o (k3' b o e)
 have fr4:∀ b∈fp,(upd H2 D (.lst [])) b=none:=fun b hb=>(f3 b hb).1
 generalize hC:s3.heap.objs.size=C at *
 have hX:∀ (H':Hp),(∀ b∈fp,H' b=none)→∀ b∈fp,fq (cn X scope N C s3 (upd H2 D (.lst [])) fp) [] H' b:=fun H' hn b hb=>by
  obtain ⟨g0,g1,g2,g3,g4,g5⟩:=f3 b hb
  refine ⟨hn b hb,?_,?_,.inl hb,?_,fun p hp=>absurd (show p∈([]:List (Addr×Obj)) from hp) (by simp)⟩
  ·exact Nat.ne_of_lt (Nat.lt_of_lt_of_eq (Nat.lt_succ_of_lt (fpD b hb)) hsz.symm)
  ·intro z
   rcases List.mem_cons.mp (I3.nE b z) with z | z
   ·exact g1 z
   ·exact g2 z
  ·intro x c h
   exact g4 x c (dB (S.cells I3.ok) h)
 have fin:∀ (s':Shared) (σ':St) (H':Hp),Inv (cn X scope N C s3 (upd H2 D (.lst [])) fp) [] σ' H' s'→QD D H'→RR (.ref D) C (.ok .next) s':=by
  intro s' σ' H' I' qd
  obtain ⟨m,hm,_⟩:=id I'.loc
  have IX:Inv X pins σ H' s':=by
   refine I3.Gd (s':=s') (ch:=fp) I'.os I'.base I'.hok I'.bare fun b hb=>?_
   obtain ⟨g0,g1,g2,g3,g4,g5⟩:=f3 b hb
   exact ⟨g3,g1,g4,g5⟩
  have hlt:=I3.lt
  rw [hC] at hlt
  refine hRR D C s' H' m (Nat.lt_of_lt_of_eq (Nat.lt_succ_self D) hsz.symm) IX hm I'.free (Nat.ne_of_gt hlt) (I3.BG (Nat.le_of_eq hC)) (Nat.le_trans I3.sz (Nat.le_of_eq hC)) (fun x c e z=>?_) (fun p hp z=>?_) qd
  ·obtain ⟨v,hv⟩:=I3.cell x c e
   have q:=hv.lt
   rw [hC,z] at q
   exact Nat.lt_irrefl _ q
  ·have q:=Heap.lt_size (I3.pin p hp).1
   rw [hC,z] at q
   exact Nat.lt_irrefl _ q
 have loop:∀ s₀:Shared,s₀={ s3 with heap:=h4,toks:=s3.toks+([]:List (Str×Value)).length } →
   codeAny (model X.prog X.w) X.A (.compLoop (.ListComp elt [⟨tg,iter,ifs,0⟩] scope pos) 0 (.ref it) (.ref D) (compEnvC scope (gO X.env scope.names []) C X.env)) (RR (.ref D) C) s₀:=by
  rintro s₀ rfl
  refine qB (fun n s'=>∃ i σ' H',Inv (cn X scope N C s3 (upd H2 D (.lst [])) fp) [] σ' H' s'∧tn i s'.heap∧(∀ b∈fp,H' b=none)∧W i n σ' H') ?_ m0 ⟨0,_,_,I4,st4,fr4,w0⟩
  rintro n s5 ⟨i,σ5,H5,I5,st5,fr5,w5⟩
  rcases turn i n σ5 H5 w5 with ⟨stop,qn⟩ | ⟨go,NN,hN,step⟩
  ·refine thn (T.done (cn X scope N C s3 (upd H2 D (.lst [])) fp) rfl rfl rfl hc i [] s5 σ5 H5 _ I5 (hX _ fr5) st5 stop) fun r s6 ⟨hr,I6⟩=>?_
   subst hr
   exact fin s6 σ5 H5 I6 qn
  ·refine thn (T.item (cn X scope N C s3 (upd H2 D (.lst [])) fp) rfl rfl rfl hc i [] s5 σ5 H5 _ I5 (hX _ fr5) st5 go) fun r s6 ⟨u,hr,h6⟩=>?_
   subst hr
   refine thn h6 fun _ s7 ⟨x,H7,I7,r7,y7,st7,fr7⟩=>?_
   have I7':=I7.pinned (hX _ fr7) (T.obj _ _ st7)
   have back:∀ {s9:Shared} {σ9:St} {H9:Hp},Inv (cn X scope N C s3 (upd H2 D (.lst [])) fp) ([]++lx fp s7.heap) σ9 H9 s9→NN σ9 H9→∃ m,m < n∧∃ i σ' H',Inv (cn X scope N C s3 (upd H2 D (.lst [])) fp) [] σ' H' s9∧tn i s9.heap∧(∀ b∈fp,H' b=none)∧W i m σ' H':=fun {s9 σ9 H9} I9 n9=>by
    obtain ⟨m',hm,w9⟩:=hN σ9 H9 n9
    refine ⟨m',hm,i+1,σ9,H9,I9.gS,T.keep _ _ _ st7 fun b hb o e=>(I9.pin (b,o) (List.mem_append_right _ (List.mem_append_right _ (gg hb e)))).1,fun b hb=>?_,w9⟩
    obtain ⟨o,e,d⟩:=T.obj _ _ st7 b hb
    exact (I9.pin (b,o) (List.mem_append_right _ (List.mem_append_right _ (gg hb e)))).2.1
   refine thn (hg C s3 _ fp _ s7 σ5 H7 x u _ I7' r7 (step x H7 y7)) fun _ s8 ⟨σ8,H8,I8,q8⟩=>?_
   refine thn (ht C s3 _ fp _ s8 σ8 H8 _ I8 q8) fun ok s9 ⟨H9,I9,q9⟩=>?_
   cases ok with
   | false=>
    rw [if_neg Bool.false_ne_true] at q9
    rw [if_neg Bool.false_ne_true]
    exact back I9 q9
   | true=>
    rw [if_pos rfl] at q9
    rw [if_pos rfl]
    refine thn (he C s3 _ fp _ s9 σ8 H9 _ I9 q9) fun y s10 ⟨v,H10,I10,r10,q10⟩=>?_
    obtain ⟨xs,hD10,hz,qN⟩:=q10
    refine thn (o_ (X:=cn X scope N C s3 (upd H2 D (.lst [])) fp) _ s10 σ8 H10 (.ref D) [v] (.ref D) [y] (fun _ H'=>NN σ8 H') I10 rfl (.cons r10 .nil) ⟨D,xs,v,rfl,rfl,hD10,hz,qN⟩) fun _ s11 ⟨_,H11,I11,_,q11⟩=>?_
    exact back I11 q11
 exact codeAny_compStart_list (loop _ rfl) (T.self _ 0 _ _ _ st4 (loop _ rfl))
theorem EK {esc:Scope} {EN:List Str} (hc:X.calm=true) (S:eG esc scope EN N k) (h1:X.env.scope=esc) (h2:X.N=EN) (hi:PI X tg iter wi) (hg:∀ C s H fp,PG (cn X scope N C s H fp) tg g) (ht:∀ C s H fp,PTs (cn X scope N C s H fp) ifs tt) (he:∀ C s H fp,PE (cn X scope N C s H fp) elt te)
  (hs:∀ x,foldedSetIterable iter X.env x=pure x:=by intro _;rfl):PE X (.ListComp elt [⟨tg,iter,ifs,0⟩] scope pos) (tLC wi g tt te k):=by
 subst h1 h2
 intro pins s σ H Q I h
 rw [eval_ListComp]
 refine wpAny_comprehension_free (use:=none) rfl hs (iK (S.cells I.ok)) S.kind S.names (thn (hi pins s σ H _ I h) fun v s1 h1=>thn h1 fun itv s2 h2=>?_)
 obtain ⟨it,fp,tn,J,H2,e,I2,T,st2,f2,q⟩:=h2
 subst e
 refine qE (RR:=fun acc C=>compPost (model X.prog X.w) X.A X.xe none (EP X pins σ Q) acc C) hc S hg ht he I2 T st2 f2 q ?_
 intro D C s' H' m hC IX hm hn hL hF hS hcell hp qd
 refine ⟨m,hm,fun h' sb=>?_⟩
 exact ⟨.ref D,H',IX.turned (t':=s'.toks) (fun b o hb e=>sb.extBut b o hb e) hn hL (.inr hS) hcell hp,rfl,qd⟩
def sLC (wi:TI) (g:TG) (tt:TT) (te:TE) (k i:Nat):TS:=fun D σ H=>tLC wi g tt te k σ H fun v H1=>D.nx (σ.set i (some v)) H1
theorem FV {esc:Scope} {EN:List Str} {i:Nat} {y:Str} {py spos:Pos} (hN:X.N.Nodup) (hi':X.N[i]?=some y) (hy:Loc X.env.scope y) (hc:X.calm=true) (S:eG esc scope EN N k) (h1:X.env.scope=esc) (h2:X.N=EN) (hi:PI X tg iter wi) (hg:∀ C s H fp,PG (cn X scope N C s H fp) tg g) (ht:∀ C s H fp,PTs (cn X scope N C s H fp) ifs tt) (he:∀ C s H fp,PE (cn X scope N C s H fp) elt te)
  (hsw:swapsWith (.ListComp elt [⟨tg,iter,ifs,0⟩] scope pos) (some (.Name y py)) spos.line X.env=pure true:=by rfl)
  (hs:∀ x,foldedSetIterable iter X.env x=pure x:=by intro _;rfl) (hf:X.fn y=true∨X.env.scope.names.lookup y=some .local:=by first | exact .inl rfl | exact .inr rfl | assumption) :
  PS X (.Assign [.Name y py] (.ListComp elt [⟨tg,iter,ifs,0⟩] scope pos) spos) (sLC wi g tt te k i):=by
 subst h1 h2
 intro pins s σ H D0 I h
 rw [exec_Assign_Name_used _ _ _ _ hsw]
 refine wpAny_bind (wpAny_standAt (wpAny_bind ?_))
 show wpAny _ X.A (do let _ ← comprehension (.ListComp elt [⟨tg,iter,ifs,0⟩] scope pos) scope X.env _ (newList []) false (eval iter X.env) (some (assign (.Name y py) X.env))) _ _ s
 refine wpAny_bind (wpAny_mono (wpAny_comprehension_free (use:=some (assign (.Name y py) X.env)) (Q:=fun _ s'=>SP X pins D0 .next s') rfl hs (iK (S.cells I.ok)) S.kind S.names
  (thn (hi pins s σ H _ I h) fun v s1 h1=>thn h1 fun itv s2 h2=>?_)) (fun _ s' hq=>wpAny_pure (wpAny_pure hq)) fun _ _ e=>e)
 obtain ⟨it,fp,tn,J,H2,e,I2,T,st2,f2,q⟩:=h2
 subst e
 refine qE (RR:=fun acc C=>compPost (model X.prog X.w) X.A X.xe (some (assign (.Name y py) X.env)) (fun _ s'=>SP X pins D0 .next s') acc C) hc S hg ht he I2 T st2 f2 q ?_
 intro D C s' H' m hC IX hm hn hL hF hS hcell hp qd
 show wpAny _ X.A (assign (.Name y py) X.env (.ref D)) _ _ _
 obtain ⟨o,es,ep,ho,hd,hr⟩:=id hm
 have IP:Inv X (pins++[(C,o)]) σ H' s':=IX.n_ fun p hp=>by
  rcases List.mem_append.mp hp with z | z
  ·exact IX.pin p (List.mem_append_right _ z)
  ·obtain rfl:p=(C,o):=List.mem_singleton.mp z
   exact ⟨ho,hn,hL,hF,fun v z=>by rw [hd] at z;cases z⟩
 refine wpAny_assign_Name (mO IP hN hi' hy (v:=.ref D) (u:=.ref D) rfl (fun s'' I''=>?_) hf)
 have hC2:=(I''.pin (C,o) (List.mem_append_right _ (List.mem_append_right _ (List.mem_singleton.mpr rfl)))).1
 refine ⟨m,⟨o,es,ep,hC2,hd,hr⟩,fun h' sb=>?_⟩
 exact ⟨_,H',(I''.gS).turned (t':=s''.toks) (fun b o hb e=>sb.extBut b o hb e) hn hL (.inr hS) hcell hp,qd⟩
end
inductive D where
 | non | bl (b:Bool) | int (i:Int) | str (x:Str) | tup (xs:List D) | lst (xs:List D)
mutual
def D.eqv:D→D→Bool
 | .non,.non=>true
 | .bl a,.bl b=>a == b
 | .bl a,.int b=>(if a then 1 else 0) == b
 | .int a,.bl b=>a == (if b then 1 else 0)
 | .int a,.int b=>a == b
 | .str a,.str b=>a == b
 | .tup xs,.tup ys=>D.bG xs ys
 | .lst xs,.lst ys=>D.bG xs ys
 | _,_=>false
def D.bG:List D→List D→Bool
 | [],[]=>true
 | x :: xs,y :: ys=>D.eqv x y && D.bG xs ys
 | _,_=>false
end
mutual
theorem D.eqv_refl:∀ d:D,D.eqv d d=true
 | .non=>rfl
 | .bl a=>by simp [D.eqv]
 | .int a=>by simp [D.eqv]
 | .str a=>by simp [D.eqv]
 | .tup xs=>by simp only [D.eqv];exact D.ll xs
 | .lst xs=>by simp only [D.eqv];exact D.ll xs
theorem D.ll:∀ ds:List D,D.bG ds ds=true
 | []=>rfl
 | d :: ds=>by simp only [D.bG,D.eqv_refl d,D.ll ds,Bool.and_self]
end
mutual
def D.depth:D→Nat
 | .tup xs=>D.cA xs+1
 | .lst xs=>D.cA xs+1
 | _=>0
def D.cA:List D→Nat
 | []=>0
 | x :: xs=>max (D.depth x) (D.cA xs)
end
mutual
inductive Rep (H:Hp):V→D→Prop
 | non:Rep H .non .non
 | bl (b:Bool):Rep H (.bl b) (.bl b)
 | int (i:Int):Rep H (.int i) (.int i)
 | str (x:Str):Rep H (.str x) (.str x)
 | tup {a:Addr} {vs:List V} {ds:List D}:H a=some (.tup vs)→aw H vs ds→Rep H (.ref a) (.tup ds)
 | lst {a:Addr} {vs:List V} {ds:List D}:H a=some (.lst vs)→aw H vs ds→Rep H (.ref a) (.lst ds)
inductive aw (H:Hp):List V→List D→Prop
 | nil:aw H [] []
 | cons {v:V} {d:D} {vs:List V} {ds:List D}:Rep H v d→aw H vs ds→aw H (v :: vs) (d :: ds)
end
theorem aw.length {H:Hp}:∀ {vs:List V} {ds:List D},aw H vs ds→vs.length=ds.length
 | _,_,.nil=>rfl
 | _,_,.cons _ t=>by simp [aw.length t]
theorem aw.get {H:Hp}:∀ {vs:List V} {ds:List D} {i:Nat} {v:V},aw H vs ds→vs[i]?=some v→∃ d,ds[i]?=some d∧Rep H v d
 | _,_,_,_,.nil,e=>by simp at e
 | _,_,0,_,.cons r _,e=>by simp at e;subst e;exact ⟨_,rfl,r⟩
 | _,_,i+1,v,.cons _ t,e=>by
  obtain ⟨d,h1,h2⟩:=aw.get (i:=i) (v:=v) t (by simpa using e)
  exact ⟨d,by simpa using h1,h2⟩
theorem aw.get' {H:Hp}:∀ {vs:List V} {ds:List D} {i:Nat} {d:D},aw H vs ds→ds[i]?=some d→∃ v,vs[i]?=some v∧Rep H v d
 | _,_,_,_,.nil,e=>by simp at e
 | _,_,0,_,.cons r _,e=>by simp at e;subst e;exact ⟨_,rfl,r⟩
 | _,_,i+1,v,.cons _ t,e=>by
  obtain ⟨d,h1,h2⟩:=aw.get' (i:=i) (d:=v) t (by simpa using e)
  exact ⟨d,by simpa using h1,h2⟩
theorem aw.append {H:Hp}:∀ {vs us:List V} {ds es:List D},aw H vs ds→aw H us es→aw H (vs++us) (ds++es)
 | _,_,_,_,.nil,s=>s
 | _,_,_,_,.cons r t,s=>.cons r (aw.append t s)
theorem aw.take {H:Hp}:∀ {vs:List V} {ds:List D} (n:Nat),aw H vs ds→aw H (vs.take n) (ds.take n)
 | _,_,0,_=>.nil
 | _,_,_+1,.nil=>.nil
 | _,_,n+1,.cons r t=>.cons r (aw.take n t)
theorem aw.drop {H:Hp}:∀ {vs:List V} {ds:List D} (n:Nat),aw H vs ds→aw H (vs.drop n) (ds.drop n)
 | _,_,0,r=>r
 | _,_,_+1,.nil=>.nil
 | _,_,n+1,.cons _ t=>aw.drop n t
theorem aw.reverse {H:Hp}:∀ {vs:List V} {ds:List D},aw H vs ds→aw H vs.reverse ds.reverse
 | _,_,.nil=>.nil
 | _,_,.cons r t=>by rw [List.reverse_cons,List.reverse_cons];exact (aw.reverse t).append (.cons r .nil)
mutual
theorem Rep.mono {H H':Hp} (e:dE H H'):∀ {v:V} {d:D},Rep H v d→Rep H' v d
 | _,_,.non=>.non
 | _,_,.bl b=>.bl b
 | _,_,.int i=>.int i
 | _,_,.str x=>.str x
 | _,_,.tup h r=>.tup (e _ _ h) (aw.mono e r)
 | _,_,.lst h r=>.lst (e _ _ h) (aw.mono e r)
theorem aw.mono {H H':Hp} (e:dE H H'):∀ {vs:List V} {ds:List D},aw H vs ds→aw H' vs ds
 | _,_,.nil=>.nil
 | _,_,.cons r t=>.cons (Rep.mono e r) (aw.mono e t)
end
mutual
theorem Rep.inj {H:Hp}:∀ {v:V} {d e:D},Rep H v d→Rep H v e→d=e
 | _,_,_,.non,.non=>rfl
 | _,_,_,.bl _,.bl _=>rfl
 | _,_,_,.int _,.int _=>rfl
 | _,_,_,.str _,.str _=>rfl
 | _,_,_,.tup h r,.tup h' r'=>by rw [h] at h';cases h';rw [aw.inj r r']
 | _,_,_,.tup h r,.lst h' r'=>by rw [h] at h';cases h'
 | _,_,_,.lst h r,.tup h' r'=>by rw [h] at h';cases h'
 | _,_,_,.lst h r,.lst h' r'=>by rw [h] at h';cases h';rw [aw.inj r r']
theorem aw.inj {H:Hp}:∀ {vs:List V} {ds es:List D},aw H vs ds→aw H vs es→ds=es
 | _,_,_,.nil,.nil=>rfl
 | _,_,_,.cons r t,.cons r' t'=>by rw [Rep.inj r r',aw.inj t t']
end
theorem aw.ints {H:Hp}:∀ (ns:List Int),aw H (ns.map V.int) (ns.map D.int)
 | []=>.nil
 | n :: ns=>.cons (.int n) (aw.ints ns)
theorem aw.i6 {H:Hp}:∀ {vs:List V} {ns:List Int},aw H vs (ns.map D.int)→vs=ns.map V.int
 | [],[],.nil=>rfl
 | v :: vs,n :: ns,.cons r t=>by
  cases r
  rw [List.map_cons,aw.i6 t]
theorem D.cg:∀ (ds es:List D),D.bG ds es=((List.range (min ds.length es.length)).all (fun j=>D.eqv (ds.getD j .non) (es.getD j .non)) && ds.length == es.length)
 | [],[]=>rfl
 | [],e :: es=>by simp [D.bG]
 | d :: ds,[]=>by simp [D.bG]
 | d :: ds,e :: es=>by
  have ih:=D.cg ds es
  have q:min (d :: ds).length (e :: es).length=min ds.length es.length+1:=by simp only [List.length_cons];omega
  rw [q,List.range_succ_eq_map,List.all_cons,List.all_map]
  have z:((d :: ds).length == (e :: es).length)=(ds.length == es.length):=by
   rw [Bool.eq_iff_iff];simp
  rw [z,D.bG,ih,Bool.and_assoc]
  rfl
theorem D.gv:∀ {ds:List D} {i:Nat} {d:D},ds[i]?=some d→D.depth d≤D.cA ds
 | [],_,_,e=>by simp at e
 | x :: xs,0,d,e=>by
  simp at e;subst e
  exact Nat.le_max_left _ _
 | x :: xs,i+1,d,e=>Nat.le_trans (D.gv (ds:=xs) (i:=i) (by simpa using e)) (Nat.le_max_right _ _)
section
variable {X:Cx}
theorem v9 {pins:List (Addr×Obj)} {σ:St} {H:Hp} {s:Shared} (I:Inv X pins σ H s):∀ (n:Nat) (A:Around) (x y:V) (u v:Value) (d e:D),A.units+n < cLine→D.depth d≤n→RelV x u→RelV y v→Rep H x d→Rep H y e →
  SeqAt.EqAt A s u v (D.eqv d e):=by
 intro n
 induction n with
 | zero=>
  intro A x y u v d e hu hd ru rv rx ry
  have hu':A.units < cLine:=by omega
  cases rx with
  | tup h r=>simp [D.depth] at hd
  | lst h r=>simp [D.depth] at hd
  | non=>
   cases ry with
   | tup h r=>
    cases ru;cases rv
    obtain ⟨its,rv,p,hz⟩:=I.tuple (SqT.of h)
    exact SeqAt.EqAt.none_tuple p hu'
   | lst h r=>
    cases ru;cases rv
    obtain ⟨its,rv,p,hz⟩:=I.list (SqL.of h)
    exact SeqAt.EqAt.none_list p.isList hu'
   | _=>simp only [D.eqv];exact kC ru rv rfl rfl
  | bl a=>
   cases ry with
   | tup h r=>
    cases ru;cases rv
    obtain ⟨its,rv,p,hz⟩:=I.tuple (SqT.of h)
    exact SeqAt.EqAt.bool_tuple a p hu'
   | lst h r=>
    cases ru;cases rv
    obtain ⟨its,rv,p,hz⟩:=I.list (SqL.of h)
    exact SeqAt.EqAt.bool_list a p.isList hu'
   | _=>simp only [D.eqv];exact kC ru rv rfl rfl
  | int a=>
   cases ry with
   | tup h r=>
    obtain ⟨t,rfl⟩:=ru;cases rv
    obtain ⟨its,rv,p,hz⟩:=I.tuple (SqT.of h)
    exact SeqAt.EqAt.int_tuple a t p hu'
   | lst h r=>
    obtain ⟨t,rfl⟩:=ru;cases rv
    obtain ⟨its,rv,p,hz⟩:=I.list (SqL.of h)
    exact SeqAt.EqAt.int_list a t p.isList hu'
   | _=>simp only [D.eqv];exact kC ru rv rfl rfl
  | str a=>
   cases ry with
   | tup h r=>
    obtain ⟨t,rfl⟩:=ru;cases rv
    obtain ⟨its,rv,p,hz⟩:=I.tuple (SqT.of h)
    exact SeqAt.EqAt.str_tuple a t p hu'
   | lst h r=>
    obtain ⟨t,rfl⟩:=ru;cases rv
    obtain ⟨its,rv,p,hz⟩:=I.list (SqL.of h)
    exact SeqAt.EqAt.str_list a t p.isList hu'
   | _=>simp only [D.eqv];exact kC ru rv rfl rfl
 | succ n ih=>
  intro A x y u v d e hu hd ru rv rx ry
  have hu':A.units < cLine:=by omega
  have items:∀ {vs us:List V} {ds es:List D} {its its2:List Value},D.cA ds≤n→Vals vs its→Vals us its2→aw H vs ds→aw H us es →
    ∀ j (h1:j < its.toArray.size) (h2:j < its2.toArray.size),SeqAt.EqAt A.in1 s its.toArray[j] its2.toArray[j] (D.eqv (ds.getD j .non) (es.getD j .non)):=by
   intro vs us ds es its its2 hdd r1 r2 q1 q2 j h1 h2
   have h1':j < its.length:=by simpa using h1
   have h2':j < its2.length:=by simpa using h2
   have l1:=r1.length
   have l2:=r2.length
   have m1:=q1.length
   have m2:=q2.length
   have e1:vs[j]?=some (vs[j]'(by omega)):=List.getElem?_eq_getElem _
   have e2:us[j]?=some (us[j]'(by omega)):=List.getElem?_eq_getElem _
   obtain ⟨a1,b1,c1⟩:=r1.get e1
   obtain ⟨a2,b2,c2⟩:=r2.get e2
   obtain ⟨f1,g1,k1⟩:=q1.get e1
   obtain ⟨f2,g2,k2⟩:=q2.get e2
   have z1:its.toArray[j]=a1:=by
    have:its[j]?=some its[j]:=List.getElem?_eq_getElem h1'
    rw [b1] at this
    simpa using (Option.some.inj this).symm
   have z2:its2.toArray[j]=a2:=by
    have:its2[j]?=some its2[j]:=List.getElem?_eq_getElem h2'
    rw [b2] at this
    simpa using (Option.some.inj this).symm
   rw [z1,z2,List.getD_eq_getElem?_getD,List.getD_eq_getElem?_getD,g1,g2]
   refine ih A.in1 _ _ _ _ _ _ ?_ (Nat.le_trans (D.gv g1) hdd) c1 c2 k1 k2
   show A.units+1+n < cLine
   omega
  cases rx with
  | @tup a vs ds h r=>
   obtain ⟨its,rv1,p,hz⟩:=I.tuple (SqT.of h)
   cases ry with
   | @tup b us es h' r'=>
    cases ru;cases rv
    obtain ⟨its2,rv2,p2,hz2⟩:=I.tuple (SqT.of h')
    by_cases hab:a=b
    ·subst hab
     rw [h] at h';cases h'
     rw [aw.inj r' r,D.eqv_refl]
     exact SeqAt.EqAt.same _
    ·have hdd:D.cA ds≤n:=by simp only [D.depth] at hd;omega
     have q:=SeqAt.EqAt.of_refs hab (SeqAt.RcAt.tuples (e:=fun j=>D.eqv (ds.getD j .non) (es.getD j .non)) p p2 hu' (items hdd rv1 rv2 r r'))
     rw [List.size_toArray,List.size_toArray,← rv1.length,← rv2.length,r.length,r'.length,← D.cg] at q
     simp only [D.eqv]
     exact q
   | @lst b us es h' r'=>
    cases ru;cases rv
    obtain ⟨its2,rv2,p2,hz2⟩:=I.list (SqL.of h')
    simp only [D.eqv]
    exact SeqAt.EqAt.tuple_list p p2.isList hu'
   | non=>cases ru;cases rv;simp only [D.eqv];exact SeqAt.EqAt.tuple_none p hu'
   | bl c=>cases ru;cases rv;simp only [D.eqv];exact SeqAt.EqAt.tuple_bool c p hu'
   | int c=>cases ru;obtain ⟨t,rfl⟩:=rv;simp only [D.eqv];exact SeqAt.EqAt.tuple_int c t p hu'
   | str c=>cases ru;obtain ⟨t,rfl⟩:=rv;simp only [D.eqv];exact SeqAt.EqAt.tuple_str c t p hu'
  | @lst a vs ds h r=>
   obtain ⟨its,rv1,p,hz⟩:=I.list (SqL.of h)
   cases ry with
   | @lst b us es h' r'=>
    cases ru;cases rv
    obtain ⟨its2,rv2,p2,hz2⟩:=I.list (SqL.of h')
    by_cases hab:a=b
    ·subst hab
     rw [h] at h';cases h'
     rw [aw.inj r' r,D.eqv_refl]
     exact SeqAt.EqAt.same _
    ·have hdd:D.cA ds≤n:=by simp only [D.depth] at hd;omega
     have l1:=rv1.length
     have l2:=rv2.length
     have m1:=r.length
     have m2:=r'.length
     by_cases hl:ds.length=es.length
     ·have q:=SeqAt.EqAt.of_refs hab (SeqAt.RcAt.lists (e:=fun j=>D.eqv (ds.getD j .non) (es.getD j .non)) p.isList p2.isList (by simp;omega) hu' (items hdd rv1 rv2 r r'))
      have z:D.bG ds es=(List.range its.toArray.size).all fun j=>D.eqv (ds.getD j .non) (es.getD j .non):=by
       rw [D.cg,← hl,Nat.min_self,List.size_toArray,← l1,m1]
       simp
      simp only [D.eqv]
      rw [z]
      exact q
     ·have q:=SeqAt.EqAt.of_refs hab (SeqAt.RcAt.lists_lengths p.isList p2.isList (by simp;omega) hu')
      have z:D.bG ds es=false:=by
       rw [D.cg]
       simp [hl]
      simp only [D.eqv]
      rw [z]
      exact q
   | @tup b us es h' r'=>
    cases ru;cases rv
    obtain ⟨its2,rv2,p2,hz2⟩:=I.tuple (SqT.of h')
    simp only [D.eqv]
    exact SeqAt.EqAt.list_tuple p.isList p2 hu'
   | non=>cases ru;cases rv;simp only [D.eqv];exact SeqAt.EqAt.list_none p.isList hu'
   | bl c=>cases ru;cases rv;simp only [D.eqv];exact SeqAt.EqAt.list_bool c p.isList hu'
   | int c=>cases ru;obtain ⟨t,rfl⟩:=rv;simp only [D.eqv];exact SeqAt.EqAt.list_int c t p.isList hu'
   | str c=>cases ru;obtain ⟨t,rfl⟩:=rv;simp only [D.eqv];exact SeqAt.EqAt.list_str c t p.isList hu'
  | non=>exact SeqAt.EqAt.of_in1 (ih A.in1 _ y u v _ e (by show A.units+1+n < cLine;omega) (by simp [D.depth]) ru rv .non ry)
  | bl c=>exact SeqAt.EqAt.of_in1 (ih A.in1 _ y u v _ e (by show A.units+1+n < cLine;omega) (by simp [D.depth]) ru rv (.bl c) ry)
  | int c=>exact SeqAt.EqAt.of_in1 (ih A.in1 _ y u v _ e (by show A.units+1+n < cLine;omega) (by simp [D.depth]) ru rv (.int c) ry)
  | str c=>exact SeqAt.EqAt.of_in1 (ih A.in1 _ y u v _ e (by show A.units+1+n < cLine;omega) (by simp [D.depth]) ru rv (.str c) ry)
end
section
variable {X:Cx}
def zo:R2:=fun x y H Q=>∃ a b,x=.bl a∧y=.bl b∧Q (.bl (a == b)) H
theorem yw:OpR X (compareOp .Is) zo:=by
 intro pins s σ H x y v u Q I rx ry h
 obtain ⟨a,b,rfl,rfl,q⟩:=h
 cases rx;cases ry
 exact is_bool ⟨.bl _,H,I,rfl,q⟩
def isT (T:String):D→Bool
 | .non=>false
 | .bl _=>T == "bool" || T == "int"
 | .int _=>T == "int"
 | .str _=>T == "str"
 | .tup _=>T == "tuple"
 | .lst _=>T == "list"
def okT (T:String):Bool:=T == "bool" || T == "int" || T == "str" || T == "tuple" || T == "list"
theorem EL {K:PySem.W.Frag} {H:Hp} {x:V} {d:D} {T:String} (r:Rep H x d) (h:okT T=true):∃ t,fj K H x t∧PySem.W.kitOne K t (.type T)=some (isT T d):=by
  have h5:T="bool"∨T="int"∨T="str"∨T="tuple"∨T="list":=by simpa [okT,or_assoc] using h
  cases r with
  | non=>exact ⟨_,.non,by rcases h5 with e | e | e | e | e<;>subst e<;>first | rfl | kernel_rfl⟩
  | bl b=>exact ⟨_,.bl b,by rcases h5 with e | e | e | e | e<;>subst e<;>first | rfl | kernel_rfl⟩
  | int i=>exact ⟨_,.int i,by rcases h5 with e | e | e | e | e<;>subst e<;>first | rfl | kernel_rfl⟩
  | str x=>exact ⟨_,.str x,by rcases h5 with e | e | e | e | e<;>subst e<;>first | rfl | kernel_rfl⟩
  | tup h r=>exact ⟨_,.tup h,by rcases h5 with e | e | e | e | e<;>subst e<;>first | rfl | kernel_rfl⟩
  | lst h r=>exact ⟨_,.lst h,by rcases h5 with e | e | e | e | e<;>subst e<;>first | rfl | kernel_rfl⟩
def GF (T:String) (te:TE):TE:=fun σ H Q=>te σ H fun x H1=>∃ d,Rep H1 x d∧Q (.bl (isT T d)) H1
theorem vR {e:Expr} {te:TE} {nm:Str} {T:String} {p p2 pos:Pos} (hg:Gl X "isinstance") (hm:X.mg "isinstance"=none) (hg2:Gl X nm) (hm2:X.mg nm=none) (hv:bootBuiltins nm=some (.type T)) (ho:okT T=true) (ha:PE X e te)
  (hn:nm≠"__name__":=by decide) (hd:(nm == ("__debug__":Str))=false:=by decide) (hb:bootBuiltins "isinstance"=some (.builtin "isinstance"):=by decide +kernel)
  (he:starEach [e,.Name nm p2] X.env=(false,eval e X.env) :: starEach [.Name nm p2] X.env:=by rfl) (hs2:starEach [.Name nm p2] X.env=(false,eval (.Name nm p2) X.env) :: starEach [] X.env:=by rfl) (hpl:(backTo pos (starEach [.Name nm p2] X.env)).any (·.1)=false:=by rfl) :
  PE X (.Call (.Name "isinstance" p) [e,.Name nm p2] [] pos) (GF T te):=by
 intro pins s σ H Q I h
 have hT:PE X (.Name nm p2) (tC (.ty T)):=AK hg2 hm2 hv rfl hn hd
 refine wpAny_Call_Name_kw (cT I hg hm hb ?_ (by decide) (by decide))
 refine PyProof.Rows.callWith_builtin1 (thn ((dH ha (dH hT fK hs2) he) pos pins s σ H (fun vs H1=>∃ x d,vs=[x,.ty T]∧Rep H1 x d∧Q (.bl (isT T d)) H1) I ?_) fun us s1 ⟨vs,H1,I1,r1,q1⟩=>?_) he hpl
 ·refine (show te σ H fun x H1=>_ from ?_)
  refine cast (congrArg (te σ H) ?_) h
  funext x H1
  refine propext ⟨fun ⟨d,r,q⟩=>⟨x,d,rfl,r,q⟩,fun ⟨x',d,e,r,q⟩=>?_⟩
  cases e
  exact ⟨d,r,q⟩
 ·obtain ⟨x,d,e,r,q⟩:=q1
  subst e
  obtain ⟨u,w',rfl,ru,rw'⟩:=r1.two
  obtain ⟨t,ty,k⟩:=EL (K:=X.K) r ho
  cases (show w'=Value.type T from rw')
  exact wJ I1 ru ty k fun tk=>⟨.bl _,H1,I1.tok tk,rfl,q⟩
end
section
variable {X:Cx} {pins:List (Addr×Obj)} {σ:St} {H:Hp} {s:Shared} {h':Heap} {fp:List Addr}
theorem Inv.rh {a:Addr} {o:HO} {t':Nat} (I:Inv X pins σ H s) (ha:s.heap.objs.size≤a) (hk:∀ b u,b∉fp→s.heap.get? b=some u→h'.get? b=some u) (hf:∀ b∈fp,fq X pins H b) (new:bj X.prog X.w (upd H a o) h' a o) :
  Inv X pins σ (upd H a o) { s with heap:=h',toks:=t' }:=by
 have hn:H a=none:=I.hok.fresh ha
 have nfp:∀ b u,H b=some u→b∉fp:=fun b u e z=>by
  have q:=(hf b z).1
  rw [e] at q
  cases q
 have hne:∀ b (u:Obj),s.heap.get? b=some u→b≠a:=fun b u e=>Nat.ne_of_lt (Nat.lt_of_lt_of_le (Heap.lt_size e) ha)
 refine I.step (g':=s.gens) (d':=s.drawn) (ch:=fp) (fun b hb=>?_) (fun b u _ _ hc e _=>hk b u hc e) (fun b u _ _ hc e _=>⟨u.slots,hk b u hc e⟩) (fun b u _ e n=>?_)
  (fun b u hc e=>⟨u,hk b u hc e⟩) (fun b xs e=>?_) (fun b u xs e=>?_) (fun b ps e=>⟨#[],?_⟩) (fun m hm=>?_) (fun b u e=>?_) I.bare
 ·obtain ⟨f0,f1,f2,f3,f4,f5⟩:=hf b hb
  exact ⟨f3,f1,f4,f5⟩
 ·rw [aB (hne b u e)];exact n
 ·rw [aB (a9 e hn)];exact e
 ·rw [aB (a9 e hn)];exact e
 ·rw [aB (a9 e hn),e];simp
 ·obtain ⟨u,es,ep,ho,r⟩:=hm
  exact ⟨u,es,ep,hk _ u (fun z=>(hf _ z).2.1 rfl) ho,r⟩
 ·by_cases hb:b=a
  ·subst hb;rw [bC] at e;cases e;exact new
  ·rw [aB hb] at e
   refine (I.hok b u e).fo (fun c v hc q=>hk c v ?_ q) (fun c q=>by rw [aB (a9 q hn)];exact q) fun c xs q=>by rw [aB (a9 q hn)];exact q
   rcases hc with z | z
   ·rw [z];exact nfp b u e
   ·exact nfp c _ z
end
def Ite (K:PySem.W.Frag) (l:Addr):It:=
 ⟨fun i H=>∃ xs x,SqL K H l xs∧xs[i]?=some x,fun i H x H'=>∃ p y,H p=none∧x=.ref p∧H'=upd H p (.tup [.int i,y])∧∀ xs,SqL K H l xs→xs[i]?=some y,fun i H=>∃ xs,SqL K H l xs∧xs.length≤i⟩
theorem vK {P:Program} {w:World} {K:PySem.W.Frag} {es:List Expr} {kk:Nat} {tp:Pos} (l e it:Addr) (hne:e≠it) :
  Turn P w K (.Tuple es kk tp) (Ite K l) [e,it] e (fun i h=>(∃ old,IsEnum h e it ((i:Nat):Int) old)∧h.IsListIter it l i) where
 mem:=by simp
 obj:=fun i h st b hb=>by
  obtain ⟨⟨old,he⟩,hit⟩:=st
  rcases List.mem_cons.mp hb with z | z
  ·subst z;exact ⟨_,he,fun v z=>by
    have z':Data.fields _=Data.cell v:=z
    cases z'⟩
  ·have z:b=it:=List.mem_singleton.mp z
   subst z
   obtain ⟨o,q,_,d⟩:=hit
   exact ⟨o,q,fun v z=>by rw [d] at z;cases z⟩
 keep:=fun i h h' st k=>by
  obtain ⟨⟨old,he⟩,hit⟩:=st
  exact ⟨⟨old,k e (by simp) _ he⟩,hit.at fun o q=>k it (by simp) o q⟩
 item:=by
  intro X hP hw hK hc i pins s σ H E I hf st hg
  subst hP hw hK
  obtain ⟨⟨old,he⟩,hit⟩:=st
  obtain ⟨xs,x,hq,hx⟩:=hg
  obtain ⟨its,rv,p,hz⟩:=I.list hq
  obtain ⟨u,hu,ru⟩:=rv.get hx
  refine wpAny_pyNext_enum_item he hit p.isList (x:=u) (by simpa using hu) hne fun h1 ho1 hit1 ht1 hz1 hk1=>?_
  refine ⟨_,rfl,wpAny_letOwnedTupleGo_enum (s:={ s with heap:=h1,toks:=s.toks+1 }) ho1 fun h2 he2 hs2=>?_⟩
  have helt:e < s.heap.objs.size:=Heap.lt_size he
  have ht2:h2.get? s.heap.objs.size=some { cls:=.type "tuple",data:=.seq #[.int i s.toks,u] }:=hs2.extBut _ _ (Nat.ne_of_gt helt) ht1
  have k2:∀ b o,b∉[e,it]→s.heap.get? b=some o→h2.get? b=some o:=fun b o hb q=>by
   have hb1:b≠e:=fun z=>hb (by simp [z])
   have hb2:b≠it:=fun z=>hb (by simp [z])
   exact hs2.extBut b o hb1 (hk1 b o hb1 hb2 q)
  have I2:Inv X pins σ (upd H s.heap.objs.size (.tup [.int i,x])) { s with heap:=h2,toks:=s.toks+1 }:=by
   refine I.rh (fp:=[e,it]) (Nat.le_refl _) k2 hf ?_
   exact ⟨by show 2≤sizeLine;decide,[.int i s.toks,u],.cons ⟨_,rfl⟩ (.cons ru .nil),⟨_,ht2,rfl,_,rfl⟩⟩
  refine ⟨.ref s.heap.objs.size,_,I2,rfl,⟨s.heap.objs.size,x,I.hok.fresh (Nat.le_refl _),rfl,rfl,fun ys hy=>by rw [I.qY hy hq];exact hx⟩,⟨⟨_,by simpa using he2⟩,?_⟩,fun b hb=>?_⟩
  ·exact hit1.extBut hs2.extBut (Ne.symm hne)
  ·have hlt:b < s.heap.objs.size:=by
    rcases List.mem_cons.mp hb with z | z
    ·rw [z];exact helt
    ·have z:b=it:=List.mem_singleton.mp z
     subst z
     obtain ⟨o,q,_⟩:=hit
     exact Heap.lt_size q
   rw [aB (Nat.ne_of_lt hlt)]
   exact (hf b hb).1
 done:=by
  intro X hP hw hK hc i pins s σ H E I hf st hg
  subst hP hw hK
  obtain ⟨⟨old,he⟩,hit⟩:=st
  obtain ⟨xs,hq,hx⟩:=hg
  obtain ⟨its,rv,p,hz⟩:=I.list hq
  have hl:=rv.length
  obtain ⟨f0,f1,f2,f3,f4,f5⟩:=hf it (by simp)
  exact wpAny_pyNext_enum_end (I.ok.hd hc) he hit p.isList (by simp;omega) fun h' eb=>⟨rfl,I.turned (t':=s.toks) (fun b o hb e=>eb b o hb e) f0 f1 f3 f4 f5⟩
 self:=fun _ _ _ _ _ st h=>by
  obtain ⟨⟨old,he⟩,_⟩:=st
  exact wpAny_pyIter_enum he h
section
variable {X:Cx}
end
section
variable {prog:Program} {w:World} {A:Around} {E:Value→Shared→Prop} {s:Shared}
theorem uF {it t:Addr} {i:Nat} {items:Array Value} {x:Value} {Q:Value→Shared→Prop} (hit:s.heap.IsTupleIter it t i) (ht:s.heap.IsTuple t items) (hx:items[i]?=some x)
  (hQ:∀ h',h'.IsTupleIter it t (i+1)→Heap.SameBut it s.heap h'→Q x { s with heap:=h' }):wpAny (model prog w) A (Builtin.SmallTypes.nextOf (.ref it)) Q E s:=by
 obtain ⟨o,ho,hc,hd⟩:=id hit
 obtain ⟨ot,hot,_,nt,hdt⟩:=ht
 unfold Builtin.SmallTypes.nextOf
 refine wpAny_bind (wpAny_callSpecial?_slot (name:=Str.ofString "__next__") hit.typeIs F.slot_tuple_iterator_next (wpAny_call_entry F.slot_tuple_iterator_next hit.typeIs F.entry_tuple_iterator_next ?_ (F.args_tuple_iterator_next_1 _)))
 refine (show wpAny _ _ (field (.ref it) 0>>=_) _ _ s from wpAny_bind (wpAny_field ho hd (x:=.ref t) rfl ?_))
 show wpAny _ _ (if (Value.ref t == Value.none)=true then _ else _) _ _ s
 rw [if_neg (by intro z;exact Bool.false_ne_true z)]
 refine (show wpAny _ _ (field (.ref it) 1>>=_) _ _ s from wpAny_bind (wpAny_field ho hd (x:=.int i 0) rfl ?_))
 refine (show wpAny _ _ (seqItems? (.ref t)>>=_) _ _ s from wpAny_bind (wpAny_seqItems hot hdt ?_))
 simp only [Int.toNat_natCast,hx]
 refine wpAny_bind (wpAny_setField ho hd (by simp) (wpAny_pure ⟨x,rfl,wpAny_pure (hQ _ ⟨_,Heap.get?_update_self _ ho (Obj.isFreed_of_fields (Obj.data_mapFields hd _)),(Obj.cls_mapFields ..).trans hc,?_⟩ (Heap.SameBut.update ..))⟩))
 rw [Obj.data_mapFields hd];simp [rawInt]
theorem wc {it t:Addr} {i:Nat} {items:Array Value} {Q:Value→Shared→Prop} (hh:A.handled=none) (hit:s.heap.IsTupleIter it t i) (ht:s.heap.IsTuple t items) (hx:items[i]?=none)
  (hE:∀ h' e,Heap.ExtBut it s.heap h'→(∃ o,h'.get? e=some o∧o.cls=.type "StopIteration")→E (.ref e) { s with heap:=h' }):wpAny (model prog w) A (Builtin.SmallTypes.nextOf (.ref it)) Q E s:=by
 obtain ⟨o,ho,hc,hd⟩:=id hit
 obtain ⟨ot,hot,_,nt,hdt⟩:=ht
 unfold Builtin.SmallTypes.nextOf
 refine wpAny_bind (wpAny_callSpecial?_slot (name:=Str.ofString "__next__") hit.typeIs F.slot_tuple_iterator_next (wpAny_call_entry F.slot_tuple_iterator_next hit.typeIs F.entry_tuple_iterator_next ?_ (F.args_tuple_iterator_next_1 _)))
 refine (show wpAny _ _ (field (.ref it) 0>>=_) _ _ s from wpAny_bind (wpAny_field ho hd (x:=.ref t) rfl ?_))
 show wpAny _ _ (if (Value.ref t == Value.none)=true then _ else _) _ _ s
 rw [if_neg (by intro z;exact Bool.false_ne_true z)]
 refine (show wpAny _ _ (field (.ref it) 1>>=_) _ _ s from wpAny_bind (wpAny_field ho hd (x:=.int i 0) rfl ?_))
 refine (show wpAny _ _ (seqItems? (.ref t)>>=_) _ _ s from wpAny_bind (wpAny_seqItems hot hdt ?_))
 simp only [Int.toNat_natCast,hx]
 refine wpAny_bind (wpAny_rule (wpAny_bind (wpAny_setField ho hd (by simp) ?_)))
 refine (show wpAny _ _ (newExc (.type "StopIteration") []>>=_) _ _ _ from wpAny_bind ?_)
 simp only [newExc,newTuple]
 refine wpAny_bind (wpAny_newObj_type (wpAny_bind (m:=firstArgMember _ _) (wpAny_of_eq (a:=Value.none) (by first | rfl | (simp only [firstArgMember];rfl)) (wpAny_newObj_type ?_ (by size_fits)))) (by size_fits))
 simp only [raiseNew]
 refine wpAny_bind (wpAny_handled ?_)
 first | rw [show A.in1.handled=none from hh] | rw [hh]
 exact wpAny_bind (wpAny_pure (wpAny_throw (hE _ _ (((Heap.SameBut.update ..).extBut.push _).push _) ⟨_,Heap.get?_push_size _ rfl,rfl⟩)))
end
theorem vg {prog:Program} {w:World} {A:Around} (hh:A.handled=none) (it t:Addr) (hne:t≠it) (items:Array Value) :
  Draws prog w A it [it,t] items.size (fun i v=>items[i]?=some v) (fun i h=>h.IsTupleIter it t i∧h.IsTuple t items) where
 live:=fun _ _ st=>let ⟨o,ho,_⟩:=st.1;⟨o,ho⟩
 frame:=fun _ _ _ st hk=>⟨st.1.at fun o e=>hk it (by simp) o e,st.2.at fun o e=>hk t (by simp) o e⟩
 item:=fun i s Q E hi st hQ=>uF st.1 st.2 (x:=items[i]) (by simp [hi]) fun h' a b=>hQ _ h' s.toks (by simp [hi]) ⟨a,st.2.extBut b.extBut hne⟩ b
 done:=fun s Q E st hE=>wc hh st.1 st.2 (by simp) hE
structure Hd (z TI TO i1 i2:Addr) (fp1 fp2:List Addr):Prop where
 TIz:TI≠z
 TOz:TO≠z
 TITO:TI≠TO
 z1:z∉fp1
 z2:z∉fp2
 TO1:TO∉fp1
 TO2:TO∉fp2
 i12:i1∉fp2
 i21:i2∉fp1
 m1:i1∈fp1
 m2:i2∈fp2
 TI1:TI≠i1
 TI2:TI≠i2
section
variable {prog:Program} {w:World} {A:Around} {E:Value→Shared→Prop} {s:Shared} {z TI TO i1 i2:Addr} {fp1 fp2:List Addr} {n1 n2 k:Nat} {P1 P2:Nat→Value→Prop} {S1 S2:Nat→Heap→Prop} {a b:Value}
end
section
variable {prog:Program} {w:World} {A:Around} {E:Value→Shared→Prop} {s:Shared} {z TI TO i1 i2:Addr} {fp1 fp2:List Addr} {n1 n2 k:Nat} {P1 P2:Nat→Value→Prop} {S1 S2:Nat→Heap→Prop} {a b:Value}
abbrev zT (h:Heap) (t:Addr):Heap:=h.push { cls:=.type "tuple_iterator",data:=.fields #[.ref t,.int 0 0] }
end
section
variable {X:Cx}
end
section
variable {prog:Program} {w:World} {A:Around} {E:Value→Shared→Prop} {s:Shared}
theorem A9 (xs:List Value):((List.range xs.length).filterMap fun (m:Nat)=>xs.toArray[(((xs.length:Nat):Int) - 1+(m:Int) * (-1)).toNat]?)=xs.reverse:=by
 apply List.ext_getElem?
 intro i
 have key:∀ (k:Nat),k≤xs.length→((List.range k).filterMap fun (m:Nat)=>xs.toArray[(((xs.length:Nat):Int) - 1+(m:Int) * (-1)).toNat]?)=xs.reverse.take k:=by
  intro k
  induction k with
  | zero=>intro _;simp
  | succ k ih=>
   intro hk
   have e:(((xs.length:Nat):Int) - 1+(k:Int) * (-1)).toNat=xs.length - 1 - k:=by omega
   rw [List.range_succ,List.filterMap_append,ih (by omega),List.take_add_one]
   congr 1
   simp only [List.filterMap_cons,List.filterMap_nil,e]
   rw [List.getElem?_reverse (by omega)]
   have h2:xs.length - 1 - k < xs.length:=by omega
   simp [h2]
 rw [key xs.length (Nat.le_refl _),List.take_of_length_le (by simp)]
theorem CI {t b:Addr} {ws:List Value} {Q:Value→Shared→Prop} (ht:IsTup s.heap t ([]:List Value).toArray) (hb:IsTup s.heap b ws.toArray) (h:Q (.ref b) s):wpAny (model prog w) A (binaryOp .Add (.ref t) (.ref b)) Q E s:=by
 obtain ⟨⟨cls,dd,data,sl⟩,ho,hc,n,hd⟩:=id ht
 obtain ⟨⟨cls2,dd2,data2,sl2⟩,ho2,hc2,n2,hd2⟩:=id hb
 simp only at hc hd hc2 hd2
 subst hc hd hc2 hd2
 exact concat_meets ⟨_,ho,rfl⟩ ⟨_,ho2,rfl⟩ noFill_tuple_add seq_tuple_add PySem.F.slot_tuple_add PySem.F.entry_tuple_add (PySem.F.args_tuple_add_2 _ _) (tuple_addW0 t b _ _ n n2 dd dd2 sl sl2 (by simp)) ⟨ho,ho2,h⟩
end
section
variable {X:Cx}
def DC (n:Nat) (lo hi:Option Int):Prop:=HT.sIx n 0 lo=0∧HT.sIx n n hi=n
instance (n:Nat) (lo hi:Option Int):Decidable (DC n lo hi):=inferInstanceAs (Decidable (_∧_))
def Cd (K:PySem.W.Frag):R2:=fun x y H Q=>∃ a b xs ys,x=.ref a∧y=.ref b∧SqT K H a xs∧SqT K H b ys∧xs.length+ys.length≤sizeLine ∧
 (xs=[]→Q (.ref b) H)∧(xs≠[]→ys=[]→Q (.ref a) H)∧(xs≠[]→ys≠[]→∀ p,H p=none→Q (.ref p) (upd H p (.tup (xs++ys))))
theorem yP:OpR X (binaryOp .Add) (Cd X.K):=by
 intro pins s σ H x y v u Q I rx ry h
 obtain ⟨a,b,xs,ys,rfl,rfl,ha,hb,hz,q1,q2,q3⟩:=h
 by_cases hx:xs=[]
 ·cases rx
  cases ry
  obtain ⟨its,r1,p1,_⟩:=I.tuple ha
  obtain ⟨its2,r2,p2,_⟩:=I.tuple hb
  obtain rfl:its=[]:=r1.lZ.mpr hx
  exact CI p1 p2 ⟨.ref b,H,I,rfl,q1 hx⟩
 ·exact An pins s σ H (.ref a) (.ref b) v u Q I rx ry ⟨a,b,xs,ys,rfl,rfl,ha,hb,hx,hz,q2 hx,q3 hx⟩
def yW:R2:=fun x y H Q=>∃ d e,Rep H x d∧Rep H y e∧D.depth d≤50∧((∃ ds es,d=.tup ds∧e=.tup es)∨∃ ds es,d=.lst ds∧e=.lst es)∧Q (.bl (D.eqv d e)) H
def yj:R2:=fun x y H Q=>∃ d e,Rep H x d∧Rep H y e∧D.depth d≤50∧((∃ ds es,d=.tup ds∧e=.tup es)∨∃ ds es,d=.lst ds∧e=.lst es)∧Q (.bl (!D.eqv d e)) H
theorem jJ {pins:List (Addr×Obj)} {σ:St} {H:Hp} {s:Shared} {A:Around} {vs us:List V} {ds es:List D} {its its2:List Value} (I:Inv X pins σ H s) (hu:A.units+64 < cLine) (hd:D.cA ds≤50) (r1:Vals vs its) (r2:Vals us its2) (q1:aw H vs ds) (q2:aw H us es) :
  ∀ j (h1:j < its.toArray.size) (h2:j < its2.toArray.size),SeqAt.EqAt A.in1 s its.toArray[j] its2.toArray[j] (D.eqv (ds.getD j .non) (es.getD j .non)):=by
 intro j h1 h2
 have h1':j < its.length:=by simpa using h1
 have h2':j < its2.length:=by simpa using h2
 have l1:=r1.length
 have l2:=r2.length
 have e1:vs[j]?=some (vs[j]'(by omega)):=List.getElem?_eq_getElem _
 have e2:us[j]?=some (us[j]'(by omega)):=List.getElem?_eq_getElem _
 obtain ⟨a1,b1,c1⟩:=r1.get e1
 obtain ⟨a2,b2,c2⟩:=r2.get e2
 obtain ⟨f1,g1,k1⟩:=q1.get e1
 obtain ⟨f2,g2,k2⟩:=q2.get e2
 have z1:its.toArray[j]=a1:=by
  have:its[j]?=some its[j]:=List.getElem?_eq_getElem h1'
  rw [b1] at this
  simpa using (Option.some.inj this).symm
 have z2:its2.toArray[j]=a2:=by
  have:its2[j]?=some its2[j]:=List.getElem?_eq_getElem h2'
  rw [b2] at this
  simpa using (Option.some.inj this).symm
 rw [z1,z2,List.getD_eq_getElem?_getD,List.getD_eq_getElem?_getD,g1,g2]
 exact v9 I 60 A.in1 _ _ _ _ _ _ (by show A.units+1+60 < cLine;omega) (Nat.le_trans (D.gv g1) (by omega)) c1 c2 k1 k2
theorem BE (hu:X.A.units+64 < cLine):OpR X (compareOp .Eq) yW:=by
 intro pins s σ H x y v u Q I rx ry h
 obtain ⟨d,e,r1,r2,hd,hk,q⟩:=h
 rcases hk with ⟨ds,es,rfl,rfl⟩ | ⟨ds,es,rfl,rfl⟩
 ·cases r1 with
  | tup h1 q1=>
   cases r2 with
   | tup h2 q2=>
    cases rx;cases ry
    obtain ⟨its,rv1,p1,_⟩:=I.tuple (SqT.of h1)
    obtain ⟨its2,rv2,p2,_⟩:=I.tuple (SqT.of h2)
    refine SeqAt.eq_tupleAt (e:=fun j=>D.eqv (ds.getD j .non) (es.getD j .non)) p1 p2 (by omega) (jJ I hu (by simp only [D.depth] at hd;omega) rv1 rv2 q1 q2) ⟨.bl _,H,I,rfl,?_⟩
    rw [List.size_toArray,List.size_toArray,← rv1.length,← rv2.length,q1.length,q2.length,← D.cg]
    simpa only [D.eqv] using q
 ·cases r1 with
  | lst h1 q1=>
   cases r2 with
   | lst h2 q2=>
    cases rx;cases ry
    obtain ⟨its,rv1,p1,_⟩:=I.list (SqL.of h1)
    obtain ⟨its2,rv2,p2,_⟩:=I.list (SqL.of h2)
    have l1:=rv1.length
    have l2:=rv2.length
    have m1:=q1.length
    have m2:=q2.length
    by_cases hl:ds.length=es.length
    ·refine SeqAt.eq_listAt (e:=fun j=>D.eqv (ds.getD j .non) (es.getD j .non)) p1.isList p2.isList (by simp;omega) (by omega) (jJ I hu (by simp only [D.depth] at hd;omega) rv1 rv2 q1 q2) ⟨.bl _,H,I,rfl,?_⟩
     have z:D.bG ds es=(List.range its.toArray.size).all fun j=>D.eqv (ds.getD j .non) (es.getD j .non):=by
      rw [D.cg,← hl,Nat.min_self,List.size_toArray,← l1,m1];simp
     rw [← z]
     simpa only [D.eqv] using q
    ·refine SeqAt.eq_list_lengthsAt p1.isList p2.isList (by simp;omega) (by omega) ⟨.bl _,H,I,rfl,?_⟩
     have z:D.bG ds es=false:=by rw [D.cg];simp [hl]
     simpa only [D.eqv,z] using q
theorem CW (hu:X.A.units+64 < cLine):OpR X (compareOp .NotEq) yj:=by
 intro pins s σ H x y v u Q I rx ry h
 obtain ⟨d,e,r1,r2,hd,hk,q⟩:=h
 rcases hk with ⟨ds,es,rfl,rfl⟩ | ⟨ds,es,rfl,rfl⟩
 ·cases r1 with
  | tup h1 q1=>
   cases r2 with
   | tup h2 q2=>
    cases rx;cases ry
    obtain ⟨its,rv1,p1,_⟩:=I.tuple (SqT.of h1)
    obtain ⟨its2,rv2,p2,_⟩:=I.tuple (SqT.of h2)
    refine SeqAt.RcNeAt.tuples (e:=fun j=>D.eqv (ds.getD j .non) (es.getD j .non)) p1 p2 (by omega) (jJ I hu (by simp only [D.depth] at hd;omega) rv1 rv2 q1 q2) _ _ _ _ ⟨.bl _,H,I,rfl,?_⟩
    rw [List.size_toArray,List.size_toArray,← rv1.length,← rv2.length,q1.length,q2.length,← D.cg]
    simpa only [D.eqv] using q
 ·cases r1 with
  | lst h1 q1=>
   cases r2 with
   | lst h2 q2=>
    cases rx;cases ry
    obtain ⟨its,rv1,p1,_⟩:=I.list (SqL.of h1)
    obtain ⟨its2,rv2,p2,_⟩:=I.list (SqL.of h2)
    have l1:=rv1.length
    have l2:=rv2.length
    have m1:=q1.length
    have m2:=q2.length
    by_cases hl:ds.length=es.length
    ·refine SeqAt.RcNeAt.lists (e:=fun j=>D.eqv (ds.getD j .non) (es.getD j .non)) p1.isList p2.isList (by simp;omega) (by omega) (jJ I hu (by simp only [D.depth] at hd;omega) rv1 rv2 q1 q2) _ _ _ _ ⟨.bl _,H,I,rfl,?_⟩
     have z:D.bG ds es=(List.range its.toArray.size).all fun j=>D.eqv (ds.getD j .non) (es.getD j .non):=by
      rw [D.cg,← hl,Nat.min_self,List.size_toArray,← l1,m1];simp
     rw [← z]
     simpa only [D.eqv] using q
    ·refine SeqAt.RcNeAt.lists_lengths p1.isList p2.isList (by simp;omega) (by omega) _ _ _ _ ⟨.bl _,H,I,rfl,?_⟩
     have z:D.bG ds es=false:=by rw [D.cg];simp [hl]
     simpa only [D.eqv,z,Bool.not_false] using q
theorem CF (hu:X.A.units+64 < cLine):OpR X (compareOp .Eq) (fun x y H Q=>rEq x y H Q∨yW x y H Q):=FK.or (BE hu)
theorem DK (hu:X.A.units+64 < cLine):OpR X (compareOp .NotEq) (fun x y H Q=>rNe x y H Q∨yj x y H Q):=Fi.or (CW hu)
theorem BY:OpR X (compareOp .Is) (fun x y H Q=>zo x y H Q∨(y=.non∧Q (.bl (decide (x=.non))) H)):=yw.or C6
theorem tQ:∀ {bs:List Bool} {us:List Value},Vals (bs.map V.bl) us→us=bs.map Value.bool
 | [],_,h=>by cases h;rfl
 | b :: bs,_,h=>by
  cases h with
  | cons r t=>cases r;rw [tQ t];rfl
theorem vI (hc:X.calm=true):bw X (.builtin "all") (fun xs H Q=>∃ (p:Addr) (bs:List Bool),xs=[.ref p]∧SqL X.K H p (bs.map V.bl)∧Q (.bl (bs.all id)) H):=by
 intro pins s σ H xs us Q I r h
 obtain ⟨p,bs,rfl,hq,q⟩:=h
 obtain ⟨u,rfl,rx⟩:=vals1 r
 cases rx
 obtain ⟨its,rv,pl,hz⟩:=I.list hq
 have hits:=tQ rv
 subst hits
 have hA:X.A.in1.handled=none:=I.ok.hd hc
 obtain ⟨o,ho,hcl,n,hd⟩:=pl.isList
 have hne:p≠s.heap.objs.size:=Nat.ne_of_lt (Heap.lt_size ho)
 refine call_all_walk (wpAny_pyIter_list pl.isList ?_)
 refine ⟨s.heap.objs.size,_,_,_,_,_,fun i=>bs.getD i true,rfl,Walks.list (prog:=X.prog) (w:=X.w) hA s.heap.objs.size p hne (bs.map Value.bool).toArray,⟨⟨_,Heap.get?_push_size _ rfl,rfl,rfl⟩,⟨o,Heap.get?_push_of_some _ ho,hcl,n,hd⟩⟩,?_,fun h' tk hk=>?_⟩
 ·intro i v s' Q' E' hP hQ
  have hP':(bs.map Value.bool).toArray[i]?=some v:=hP
  rw [List.getElem?_toArray,List.getElem?_map] at hP'
  cases e:bs[i]? with
  | none=>rw [e] at hP';cases hP'
  | some b=>
   rw [e] at hP'
   cases hP'
   have hQ:Q' (bs.getD i true) s':=hQ
   rw [List.getD_eq_getElem?_getD,e] at hQ
   exact wpAny_truthy_bool hQ
 ·have z:(List.range (bs.map Value.bool).toArray.size).all (fun i=>bs.getD i true)=bs.all id:=by
   rw [List.size_toArray,List.length_map,Bool.eq_iff_iff,List.all_eq_true,List.all_eq_true]
   constructor
   ·intro h b hb
    obtain ⟨i,hi,e⟩:=List.mem_iff_getElem.mp hb
    have:=h i (List.mem_range.mpr hi)
    rw [List.getD_eq_getElem?_getD,List.getElem?_eq_getElem hi] at this
    simpa [e] using this
   ·intro h i hi
    have hi':=List.mem_range.mp hi
    rw [List.getD_eq_getElem?_getD,List.getElem?_eq_getElem hi']
    exact h _ (List.getElem_mem hi')
  rw [z]
  have I1:Inv X pins σ H { s with heap:=s.heap.push { cls:=.type "list_iterator",data:=.fields #[.ref p,.int 0 0] } }:=I.kept (t':=s.toks) fun b o e=>Heap.get?_push_of_some _ e
  have fk:fq X pins H s.heap.objs.size:=I.lq (Nat.le_refl _) (I.hok.fresh (Nat.le_refl _))
  obtain ⟨f0,f1,f2,f3,f4,f5⟩:=fk
  exact ⟨.bl _,H,I1.turned (t':=tk) (it:=s.heap.objs.size) (fun b o hb e=>hk b o (fun z=>hb (List.mem_singleton.mp z)) e) f0 f1 f3 f4 f5,rfl,q⟩
theorem rL:bw X (.builtin "sorted") (fun xs H Q=>∃ (p:Addr) (ns:List Int),xs=[.ref p]∧SqL X.K H p (ns.map V.int)∧ns.length < 64∧∀ (l:Addr) (ms:List Int),H l=none→List.Perm ms ns→ms.Pairwise (·≤·)→Q (.ref l) (upd H l (.lst (ms.map V.int)))):=by
 intro pins s σ H xs us Q I r h
 obtain ⟨p,ns,rfl,hq,hl,q⟩:=h
 obtain ⟨u,rfl,rx⟩:=vals1 r
 cases rx
 obtain ⟨its,rv,pl,hz⟩:=I.list hq
 have hI:IntsAre its ns:=intsAre_of rv
 have h64:its.length < 64:=by rw [← rv.length,List.length_map];exact hl
 refine sorted_ints pl.isList hI h64 fun out ms hout hperm hpair=>?_
 obtain ⟨e,he⟩:=sortedAll_at s.heap its out
 refine ⟨.ref (s.heap.objs.size+1),_,I.laid (t':=s.toks) (o:=.lst (ms.map V.int)) (fun b ob q=>sortedAll_old q) (Nat.le_succ _) ?_,rfl,q _ ms (I.hok.fresh (Nat.le_succ _)) hperm hpair⟩
 have hlm:ms.length=ns.length:=hperm.length_eq
 exact ⟨by rw [List.length_map];have:(64:Nat)≤sizeLine:=(by decide);omega,out.toList,e,eD hout,by simpa using he⟩
end
section
variable {σ:St} {H:Hp} {Q:VK} {QT:Bool→Hp→Prop} {QA:List V→Hp→Prop} {QO:Option Int→Hp→Prop} {D0:Ends} {R:It→Hp→Prop} {ta tb tc te:TE} {tA tB':TT} {t u:TS} {ar:TA} {g:TG} {gs:TGs} {r r':R2} {K:PySem.W.Frag}
end
def hZ (H:Hp) (p:Addr):Option (List V):=match H p with
 | some (.lst xs)=>some xs
 | some (.tup xs)=>some xs
 | _=>none
theorem Dl {H:Hp} {p:Addr} {xs:List V} (h:H p=some (.tup xs)):hZ H p=some xs:=by unfold hZ;rw [h]
theorem BU {H:Hp} {p:Addr} {xs:List V} (h:H p=some (.lst xs)):hZ H p=some xs:=by unfold hZ;rw [h]
theorem jd {H:Hp} {p:Addr} {xs:List V} (h:hZ H p=some xs):H p=some (.lst xs)∨H p=some (.tup xs):=by
 unfold hZ at h
 split at h
 ·cases h;exact .inl ‹_›
 ·cases h;exact .inr ‹_›
 ·cases h
section
variable {X:Cx}
def CK:R2:=fun x y H Q=>∃ p i xs v,x=.ref p∧y=.int i∧hZ H p=some xs∧atI xs i=some v∧Q v H
theorem GW:IxR X CK:=by
 intro value slice pins s σ H x y v u Q I rx ry q hs
 obtain ⟨p,i,xs,w',rfl,rfl,h,e,q⟩:=q
 rcases jd h with h | h
 ·exact AB value slice pins s σ H _ _ v u Q I rx ry ⟨p,xs,i,w',rfl,rfl,SqL.of h,e,q⟩ hs
 ·exact Cv value slice pins s σ H _ _ v u Q I rx ry ⟨p,xs,i,w',rfl,rfl,SqT.of h,e,q⟩ hs
def zX:List V→Hp→VK→Prop:=fun vs H Q=>∃ p xs,vs=[.ref p]∧hZ H p=some xs∧Q (.int xs.length) H
theorem aU:bw X (.builtin "len") zX:=by
 intro pins s σ H vs us Q I r h
 obtain ⟨p,xs,rfl,h,q⟩:=h
 rcases jd h with h | h
 ·exact qV pins s σ H _ us Q I r ⟨_,_,rfl,.inl ⟨xs,SqL.of h,rfl⟩,q⟩
 ·exact qV pins s σ H _ us Q I r ⟨_,_,rfl,.inr ⟨xs,SqT.of h,rfl⟩,q⟩
def rK:List V→Hp→VK→Prop:=fun vs H Q=>∃ p xs,vs=[.ref p]∧hZ H p=some xs∧∀ l,H l=none→Q (.ref l) (upd H l (.lst xs))
theorem mW:bw X (.type "list") rK:=by
 intro pins s σ H vs us Q I r h
 obtain ⟨p,xs,rfl,h,q⟩:=h
 rcases jd h with h | h
 ·exact kG pins s σ H _ us Q I r ⟨p,xs,rfl,.inl (SqL.of h),q⟩
 ·exact kG pins s σ H _ us Q I r ⟨p,xs,rfl,.inr (SqT.of h),q⟩
def tq:List V→Hp→VK→Prop:=fun vs H Q=>∃ p,vs=[.ref p]∧((∃ xs,H p=some (.lst xs)∧∀ l,H l=none→Q (.ref l) (upd H l (.tup xs)))∨∃ xs,H p=some (.tup xs)∧Q (.ref p) H)
theorem cV:bw X (.type "tuple") tq:=by
 intro pins s σ H vs us Q I r h
 obtain ⟨p,rfl,⟨xs,h,q⟩ | ⟨xs,h,q⟩⟩:=h
 ·exact kf pins s σ H _ us Q I r ⟨p,xs,rfl,.inl ⟨SqL.of h,q⟩⟩
 ·exact kf pins s σ H _ us Q I r ⟨p,xs,rfl,.inr ⟨SqT.of h,q⟩⟩
def yp (neg:Bool):R2:=fun x y H Q=>∃ p xs,y=.ref p∧hZ H p=some xs∧d_ x=true∧xs.all d_=true∧Q (.bl (if neg then !inV x xs else inV x xs)) H
theorem DP:OpR X (compareOp .In) (yp false):=by
 intro pins s σ H x y v u Q I rx ry h
 obtain ⟨p,xs,rfl,h,f1,f2,q⟩:=h
 rcases jd h with h | h
 ·exact oH pins s σ H _ _ v u Q I rx ry ⟨p,xs,rfl,.inl (SqL.of h),f1,f2,q⟩
 ·exact oH pins s σ H _ _ v u Q I rx ry ⟨p,xs,rfl,.inr (SqT.of h),f1,f2,q⟩
theorem vS:OpR X (compareOp .NotIn) (yp true):=by
 intro pins s σ H x y v u Q I rx ry h
 obtain ⟨p,xs,rfl,h,f1,f2,q⟩:=h
 rcases jd h with h | h
 ·exact k9 pins s σ H _ _ v u Q I rx ry ⟨p,xs,rfl,.inl (SqL.of h),f1,f2,q⟩
 ·exact k9 pins s σ H _ _ v u Q I rx ry ⟨p,xs,rfl,.inr (SqT.of h),f1,f2,q⟩
def zJ:R2:=fun x y H Q=>(∃ i j,x=.int i∧y=.int j∧Q (.int (i+j)) H)∨∃ a b,x=.ref a∧y=.ref b ∧
  ((∃ xs ys,H a=some (.tup xs)∧H b=some (.tup ys)∧xs.length+ys.length≤sizeLine∧(xs=[]→Q (.ref b) H)∧(xs≠[]→ys=[]→Q (.ref a) H)∧(xs≠[]→ys≠[]→∀ p,H p=none→Q (.ref p) (upd H p (.tup (xs++ys))))) ∨
   ∃ xs ys,H a=some (.lst xs)∧H b=some (.lst ys)∧xs.length+ys.length≤sizeLine∧∀ p,H p=none→Q (.ref p) (upd H p (.lst (xs++ys))))
theorem Bk:OpR X (binaryOp .Add) zJ:=by
 intro pins s σ H x y v u Q I rx ry h
 rcases h with ⟨i,j,rfl,rfl,q⟩ | ⟨a,b,rfl,rfl,⟨xs,ys,h1,h2,hz,q1,q2,q3⟩ | ⟨xs,ys,h1,h2,hz,q⟩⟩
 ·exact CD pins s σ H _ _ v u Q I rx ry ⟨i,j,rfl,rfl,q⟩
 ·exact yP pins s σ H _ _ v u Q I rx ry ⟨a,b,xs,ys,rfl,rfl,SqT.of h1,SqT.of h2,hz,q1,q2,q3⟩
 ·exact BW pins s σ H _ _ v u Q I rx ry ⟨a,b,xs,ys,rfl,rfl,h1,h2,hz,q⟩
def Ei:R2:=fun x y H Q=>rEq x y H Q∨yW x y H Q
def D7:R2:=fun x y H Q=>rNe x y H Q∨yj x y H Q
theorem cm (hu:X.A.units+64 < cLine):OpR X (compareOp .Eq) Ei:=CF hu
theorem d4 (hu:X.A.units+64 < cLine):OpR X (compareOp .NotEq) D7:=DK hu
def Cq:R2:=fun x y H Q=>zo x y H Q∨(y=.non∧Q (.bl (decide (x=.non))) H)
theorem wN:OpR X (compareOp .Is) Cq:=BY
def zQ:List V→Hp→VK→Prop:=fun vs H Q=>∃ (p:Addr) (bs:List Bool),vs=[.ref p]∧H p=some (.lst (bs.map V.bl))∧Q (.bl (bs.all id)) H
theorem fJ (hc:X.calm=true):bw X (.builtin "all") zQ:=by
 intro pins s σ H vs us Q I r h
 obtain ⟨p,bs,rfl,h,q⟩:=h
 exact vI hc pins s σ H _ us Q I r ⟨p,bs,rfl,SqL.of h,q⟩
def rf:List V→Hp→VK→Prop:=fun vs H Q=>∃ (p:Addr) (ns:List Int),vs=[.ref p]∧H p=some (.lst (ns.map V.int))∧ns.length < 64∧∀ (l:Addr) (ms:List Int),H l=none→List.Perm ms ns→ms.Pairwise (·≤·)→Q (.ref l) (upd H l (.lst (ms.map V.int)))
theorem qF:bw X (.builtin "sorted") rf:=by
 intro pins s σ H vs us Q I r h
 obtain ⟨p,ns,rfl,h,hl,q⟩:=h
 exact rL pins s σ H _ us Q I r ⟨p,ns,rfl,SqL.of h,hl,q⟩
def Cm:List V→Hp→VK→Prop:=fun vs H Q=>∃ i j,vs=[.int i,.int j]∧Q (.int (if j > i then j else i)) H
def CP:List V→Hp→VK→Prop:=fun vs H Q=>∃ i j,vs=[.int i,.int j]∧Q (.int (if j < i then j else i)) H
theorem wQ (hc:X.calm=true):bw X (.builtin "max") Cm:=vH hc
theorem o8 (hc:X.calm=true):bw X (.builtin "min") CP:=xy hc
def G5 (to te:TE):TE:=fun σ H Q=>to σ H fun x H1=>∃ l xs0,x=.ref l∧H1 l=some (.lst xs0)∧te σ H1 fun y H2=>∃ xs,H2 l=some (.lst xs)∧xs.length < sizeLine∧Q .non (upd H2 l (.lst (xs++[y])))
theorem BN {o e:Expr} {to te:TE} {apos cpos:Pos} (ho:PE X o to) (he:PE X e te)
  (hbase:attributeBase o "append" X.env (eval o X.env)=eval o X.env:=by rfl)
  (hfew:((backTo cpos (starEach [e] X.env)).all (fun x=>!x.1) && (backToKw cpos (keywordEach [] X.env)).all (fun x=>x.1.isSome) && decide ([e].length+([]:List Keyword).length+(if ([]:List Keyword).isEmpty then 0 else 1) < 30))=true:=by rfl)
  (hline:(apos.endLine == cpos.line)=true:=by rfl) (hs:starEach [e] X.env=(false,eval e X.env) :: starEach [] X.env:=by rfl):PE X (.Call (.Attribute o "append" apos) [e] [] cpos) (G5 to te):=by
 intro pins s σ H Q I h
 refine wpAny_Call_method_late hbase hfew hline rfl (thn (ho pins s σ H _ I h) fun v s1 ⟨x,H1,I1,r1,l,xs0,e0,hl,q1⟩=>?_)
 subst e0
 have ty:tyV X.K "list" (.ref l) H1:=.inl ⟨rfl,_,SqL.of hl⟩
 obtain ⟨h1,h2⟩:=w_ I1 r1 ty
 refine ⟨"list",_,PySem.F.plainAttrs_list,PySem.F.slot_list_append,PySem.F.type_list_append,h1,h2,?_⟩
 have hA:=(dH he fK hs) cpos pins s1 σ H1 (fun vs H2=>∃ y,vs=[y]∧∃ xs,H2 l=some (.lst xs)∧xs.length < sizeLine∧Q .non (upd H2 l (.lst (xs++[y])))) I1 (by
  refine cast (congrArg (te σ H1) ?_) q1
  funext y H2
  refine propext ⟨fun q=>⟨y,rfl,q⟩,fun ⟨y',e',q⟩=>?_⟩
  cases e'
  exact q)
 rw [hs] at hA ⊢
 refine Calls.callWith_builtin (by show (false || (backTo cpos (starEach ([]:List Expr) X.env)).any (·.1))=false;rfl) (Calls.evalArgs_plain ?_)
 exact thn hA fun us s2 ⟨vs,H2,I2,r2,y,e2,xs,h3,hz,q2⟩=>o_ pins s2 σ H2 (.ref l) vs v us Q I2 r1 r2 ⟨l,xs,y,rfl,e2,h3,hz,q2⟩
end
theorem ue {n:Nat} {k:Int} (h0:0≤k) (h:k < (n:Int)):ixN n k=some k.toNat:=by
 unfold ixN
 rw [if_pos h0,if_pos h]
section
variable {g:TG} {tb:TS} {D0:Ends} {σ:St} {H:Hp} {K:PySem.W.Frag} {a:Addr} {xs ys:List V}
end
section
variable {tt:TT} {te:TE} {D:Addr} {σ:St} {H1:Hp} {Q:Hp→Prop} {K:PySem.W.Frag} {a b:Addr} {xs ys:List V}
end
class NS (e:Expr):Prop where
 eq:∀ (es:List Expr) (env:Env),starEach (e :: es) env=(false,eval e env) :: starEach es env
instance {c:Const} {k:Nat} {p:Pos}:NS (.Constant c k p):=⟨fun _ _=>rfl⟩
instance {x:Str} {p:Pos}:NS (.Name x p):=⟨fun _ _=>rfl⟩
instance {es:List Expr} {k:Nat} {p:Pos}:NS (.Tuple es k p):=⟨fun _ _=>rfl⟩
instance {es:List Expr} {p:Pos}:NS (.List es p):=⟨fun _ _=>rfl⟩
instance {a:Expr} {o:Operator} {b:Expr} {p:Pos}:NS (.BinOp a o b p):=⟨fun _ _=>rfl⟩
instance {o:UnaryOp} {a:Expr} {p:Pos}:NS (.UnaryOp o a p):=⟨fun _ _=>rfl⟩
instance {f:Expr} {es:List Expr} {ks:List Keyword} {p:Pos}:NS (.Call f es ks p):=⟨fun _ _=>rfl⟩
instance {a b:Expr} {p:Pos}:NS (.Subscript a b p):=⟨fun _ _=>rfl⟩
instance {a:Expr} {os:List CmpOp} {bs:List Expr} {p:Pos}:NS (.Compare a os bs p):=⟨fun _ _=>rfl⟩
instance {o:BoolOp} {es:List Expr} {p:Pos}:NS (.BoolOp o es p):=⟨fun _ _=>rfl⟩
instance {a b c:Expr} {p:Pos}:NS (.IfExp a b c p):=⟨fun _ _=>rfl⟩
instance {e:Expr} {gs:List Comprehension} {sc:Scope} {p:Pos}:NS (.ListComp e gs sc p):=⟨fun _ _=>rfl⟩
structure PL (X:Cx) (es:List Expr) (t:TA):Prop where
 h:PA X es t
section
variable {l:List Addr} {H:Hp} {Q:VK}
end
section
variable {X:Cx}
def tLm (r:V→List V→Hp→VK→Prop) (to te:TE):TE:=fun σ H Q=>to σ H fun x H1=>∃ l xs0,x=.ref l∧H1 l=some (.lst xs0)∧te σ H1 fun y H2=>r (.ref l) [y] H2 Q
theorem zU {r:V→List V→Hp→VK→Prop} {name:Str} {id:String} {o e:Expr} {to te:TE} {apos cpos:Pos} (slot:Slot "list" name id) (hty:typeOf (.builtin id)=pure (.type "method_descriptor")) (hm:MtM X id r) (ho:PE X o to) (he:PE X e te)
  (hbase:attributeBase o name X.env (eval o X.env)=eval o X.env:=by rfl)
  (hfew:((backTo cpos (starEach [e] X.env)).all (fun x=>!x.1) && (backToKw cpos (keywordEach [] X.env)).all (fun x=>x.1.isSome) && decide ([e].length+([]:List Keyword).length+(if ([]:List Keyword).isEmpty then 0 else 1) < 30))=true:=by rfl)
  (hline:(apos.endLine == cpos.line)=true:=by rfl) (hs:starEach [e] X.env=(false,eval e X.env) :: starEach [] X.env:=by rfl):PE X (.Call (.Attribute o name apos) [e] [] cpos) (tLm r to te):=by
 intro pins s σ H Q I h
 refine wpAny_Call_method_late hbase hfew hline rfl (thn (ho pins s σ H _ I h) fun v s1 ⟨x,H1,I1,r1,l,xs0,e0,hl,q1⟩=>?_)
 subst e0
 have ty:tyV X.K "list" (.ref l) H1:=.inl ⟨rfl,_,SqL.of hl⟩
 obtain ⟨h1,h2⟩:=w_ I1 r1 ty
 refine ⟨"list",_,PySem.F.plainAttrs_list,slot,hty,h1,h2,?_⟩
 have hA:=(dH he fK hs) cpos pins s1 σ H1 (fun vs H2=>∃ y,vs=[y]∧r (.ref l) [y] H2 Q) I1 (by
  refine cast (congrArg (te σ H1) ?_) q1
  funext y H2
  refine propext ⟨fun q=>⟨y,rfl,q⟩,fun ⟨y',e',q⟩=>?_⟩
  cases e'
  exact q)
 rw [hs] at hA ⊢
 refine Calls.callWith_builtin (by show (false || (backTo cpos (starEach ([]:List Expr) X.env)).any (·.1))=false;rfl) (Calls.evalArgs_plain ?_)
 exact thn hA fun us s2 ⟨vs,H2,I2,r2,y,e2,q2⟩=>hm pins s2 σ H2 (.ref l) vs v us Q I2 r1 r2 (by rw [e2];exact q2)
def sX:V→List V→Hp→VK→Prop:=fun x vs H Q=>∃ (l:Addr) (ns:List Int) (k:Int),x=.ref l∧vs=[.int k]∧H l=some (.lst (ns.map V.int))∧Q (.int (ns.count k:Nat)) H
theorem oE:MtM X "list.count" sX:=by
 intro pins s σ H x vs v us Q I rx rv h
 obtain ⟨l,ns,k,rfl,rfl,hH,q⟩:=h
 cases rx
 obtain ⟨u,rfl,ru⟩:=rv.one
 obtain ⟨t,rfl⟩:=ru
 obtain ⟨its,r,pl,hz⟩:=I.list (SqL.of hH)
 exact count_list_ints pl.isList (intsAre_of r) ⟨.int _,H,I.kept (t':=s.toks+1) fun b o e=>e,⟨_,rfl⟩,q⟩
theorem iW (ns:List Int):∀ k,k≤ns.length→preSum (fun i=>ns.getD i 0) k=(ns.take k).sum
 | 0,_=>by rw [List.take_zero];rfl
 | k+1,h=>by
  rw [preSum.eq_2,iW ns k (by omega),List.take_add_one,List.sum_append,List.getD_eq_getElem?_getD,List.getElem?_eq_getElem (show k < ns.length by omega)]
  simp
theorem sum_bound:∀ (ns:List Int),(∀ n∈ns,-1000000≤n∧n≤1000000)→-(1000000 * (ns.length:Int))≤ns.sum∧ns.sum≤1000000 * (ns.length:Int)
 | [],_=>by simp
 | n :: ns,h=>by
  have h1:=sum_bound ns fun m hm=>h m (List.mem_cons_of_mem _ hm)
  have h2:=h n (by simp)
  rw [List.sum_cons,List.length_cons]
  push_cast
  omega
def zI:List V→Hp→VK→Prop:=fun vs H Q=>∃ (p:Addr) (ns:List Int),vs=[.ref p]∧H p=some (.lst (ns.map V.int))∧ns.length≤1000∧(∀ n∈ns,-1000000≤n∧n≤1000000)∧Q (.int ns.sum) H
theorem oP (hc:X.calm=true):bw X (.builtin "sum") zI:=by
 intro pins s σ H xs us Q I r h
 obtain ⟨p,ns,rfl,hq,hl,hb,q⟩:=h
 obtain ⟨u,rfl,rx⟩:=vals1 r
 cases rx
 obtain ⟨its,rv,pl,hz⟩:=I.list (SqL.of hq)
 have hI:=intsAre_of rv
 have hlen:its.length=ns.length:=by rw [← rv.length,List.length_map]
 have hA:X.A.in1.handled=none:=I.ok.hd hc
 obtain ⟨o,ho,hcl,n,hd⟩:=pl.isList
 have hne:p≠s.heap.objs.size:=Nat.ne_of_lt (Heap.lt_size ho)
 refine call_sum_walk (wpAny_pyIter_list pl.isList ?_)
 refine ⟨s.heap.objs.size,_,_,_,_,_,fun i=>ns.getD i 0,rfl,Walks.list (prog:=X.prog) (w:=X.w) hA s.heap.objs.size p hne its.toArray,⟨⟨_,Heap.get?_push_size _ rfl,rfl,rfl⟩,⟨o,Heap.get?_push_of_some _ ho,hcl,n,hd⟩⟩,?_,?_,?_,fun h' tk t' hk=>?_⟩
 ·intro b hb'
  show b < (s.heap.push _).objs.size
  rw [Heap.size_push]
  simp only [List.mem_cons,List.not_mem_nil,or_false] at hb'
  rcases hb' with e | e
  ·rw [e];exact Nat.lt_succ_self _
  ·rw [e];exact Nat.lt_succ_of_lt (Heap.lt_size ho)
 ·intro i v hv
  have hv':its.toArray[i]?=some v:=hv
  rw [List.getElem?_toArray] at hv'
  have hi:i < its.length:=(List.getElem?_eq_some_iff.mp hv').1
  have e1:(ns.map V.int)[i]?=some (.int (ns[i]'(by omega))):=by rw [List.getElem?_map,List.getElem?_eq_getElem (by omega)];rfl
  obtain ⟨a1,b1,c1⟩:=rv.get e1
  rw [hv'] at b1
  cases b1
  obtain ⟨t,rfl⟩:=c1
  refine ⟨t,?_⟩
  show Value.int _ t=Value.int (ns.getD i 0) t
  rw [List.getD_eq_getElem?_getD,List.getElem?_eq_getElem (show i < ns.length by omega)]
  rfl
 ·intro j hj
  have hj':j < ns.length:=by have:its.toArray.size=its.length:=List.size_toArray ..;omega
  have h1:ns.getD j 0∈ns:=by rw [List.getD_eq_getElem?_getD,List.getElem?_eq_getElem hj'];exact List.getElem_mem hj'
  have h2:=hb _ h1
  have h3:=sum_bound (ns.take (j+1)) fun m hm=>hb m (List.mem_of_mem_take hm)
  have h4:(ns.take (j+1)).length≤1000:=by rw [List.length_take];omega
  refine ⟨⟨?_,?_⟩,?_⟩
  ·show -2 ^ 63≤ns.getD j 0
   omega
  ·show ns.getD j 0 < 2 ^ 63
   omega
  ·rw [iW ns _ (by omega)]
   exact ⟨by omega,by omega⟩
 ·have I1:Inv X pins σ H { s with heap:=s.heap.push { cls:=.type "list_iterator",data:=.fields #[.ref p,.int 0 0] } }:=I.kept (t':=s.toks) fun b o e=>Heap.get?_push_of_some _ e
  have fk:fq X pins H s.heap.objs.size:=I.lq (Nat.le_refl _) (I.hok.fresh (Nat.le_refl _))
  obtain ⟨f0,f1,f2,f3,f4,f5⟩:=fk
  have z:preSum (fun i=>ns.getD i 0) its.toArray.size=ns.sum:=by
   rw [List.size_toArray,hlen,iW ns _ (Nat.le_refl _),List.take_length]
  rw [z]
  exact ⟨.int _,H,I1.turned (t':=tk) (it:=s.heap.objs.size) (fun b o hb e=>hk b o (fun z=>hb (List.mem_singleton.mp z)) e) f0 f1 f3 f4 f5,⟨_,rfl⟩,q⟩
theorem tE {f:Nat→V}:∀ (us:List Value) (k:Nat),(∀ j v,us[j]?=some v→RelV (f (k+j)) v)→Vals ((List.range' k us.length).map f) us
 | [],_,_=>.nil
 | u :: us,k,h=>by
  rw [List.length_cons,List.range'_succ,List.map_cons]
  refine .cons (h 0 u rfl) (tE us (k+1) fun j v e=>?_)
  have:=h (j+1) v (by simpa using e)
  rw [show k+1+j=k+(j+1) by omega]
  exact this
def tLR (ta:TA):TE:=fun σ H Q=>ta σ H fun vs H1=>∃ j:Int,vs=[.int j]∧0≤j∧j≤1000∧∀ l,H1 l=none→Q (.ref l) (upd H1 l (.lst ((List.range j.toNat).map fun i=>V.int (i:Nat))))
theorem qk {a:Expr} {ta:TA} {p1 p2 pos1 pos2:Pos} (hc:X.calm=true) (hgl:Gl X "list") (hml:X.mg "list"=none) (hgr:Gl X "range") (hmr:X.mg "range"=none) (hbl:bootBuiltins "list"=some (.type "list")) (ha:PA X [a] ta)
  (hs:starEach [a] X.env=[(false,eval a X.env)]:=by rfl)
  (hs2:starEach [Expr.Call (.Name "range" p2) [a] [] pos2] X.env=(false,eval (Expr.Call (.Name "range" p2) [a] [] pos2) X.env) :: starEach [] X.env:=by rfl) :
  PE X (.Call (.Name "list" p1) [.Call (.Name "range" p2) [a] [] pos2] [] pos1) (tLR ta):=by
 intro pins s σ H Q I h
 refine wpAny_Call_Name_kw (cT I hgl hml hbl ?_)
 refine PyProof.Rows.callWith_type1 ?_ hs2 rfl
 rw [hs2]
 show wpAny _ _ (spliced ((false,eval (Expr.Call (.Name "range" p2) [a] [] pos2) X.env) :: backTo pos1 (starEach [] X.env))) _ _ s
 refine Calls.spliced_cons ?_
 refine Call_ (cT I hgr hmr boot_range (PyProof.Rows.callWith_type1 (thn (ha pos2 pins s σ H _ I h) fun us s1 ⟨vs,H1,I1,r1,q1⟩=>?_) hs rfl))
 obtain ⟨j,e,j0,j1,q⟩:=q1
 subst e
 cases r1 with
 | cons r rr=>
  cases rr
  obtain ⟨t,rfl⟩:=r
  refine call_range_1 ?_
  have hA:X.A.handled=none:=I.ok.hd hc
  have I2:Inv X pins σ H1 { s1 with heap:=s1.heap.push { cls:=.type "range",data:=.fields #[.int 0 s1.toks,.int j t,.int 1 (s1.toks+1)] },toks:=s1.toks+1+1 }:=I1.kept fun b o e=>Heap.get?_push_of_some _ e
  refine wpAny_pure ?_
  have hsz:Builtin.Range.rangeSize 0 j 1=((j.toNat:Nat):Int):=by rw [rangeSize_one];split<;>omega
  refine call_list_range hA (IsRange.new ..) (small_one (by omega) (by omega) (by omega) (by omega)) hsz (by omega) fun h' tk acc c' hk hnew hit=>?_
  have hvals:Vals ((List.range j.toNat).map fun i=>V.int (i:Nat)) acc.toList:=by
   have hl:acc.toList.length=j.toNat:=by rw [Array.length_toList];exact hit.1
   rw [← hl,List.range_eq_range']
   refine tE acc.toList 0 fun i v e=>?_
   obtain ⟨t2,rfl⟩:=hit.2 i v (by simpa using e)
   exact ⟨t2,by congr 1;omega⟩
  refine ⟨.ref _,_,I2.laid (t':=tk) (o:=.lst ((List.range j.toNat).map fun i=>V.int (i:Nat))) hk (Nat.le_refl _) ⟨?_,acc.toList,c',hvals,?_⟩,rfl,q _ (I2.hok.fresh (Nat.le_refl _))⟩
  ·rw [List.length_map,List.length_range]
   exact Nat.le_of_lt (dA (by omega))
  ·simpa using hnew
end
section
variable {X:Cx}
theorem xI:∀ {x y:V} {u:Value},RelV x u→RelV y u→x=y:=by
  intro x y u h1 h2
  cases x<;>cases y<;>simp only [RelV] at h1 h2<;>first
    | rfl
    | (subst h1;cases h2;done)
    | (subst h1;cases h2;rfl)
    | (obtain ⟨t,rfl⟩:=h1;cases h2;done)
    | (obtain ⟨t,rfl⟩:=h1;obtain ⟨t2,e⟩:=h2;cases e;rfl)
    | (obtain ⟨t,rfl⟩:=h1;obtain ⟨t2,e⟩:=h2;cases e;done)
    | (obtain ⟨t,rfl⟩:=h2;cases h1;done)
def yx (neg:Bool):R2:=fun x y H Q=>∃ (p:Addr) (vs:List V) (d:D) (ds:List D),y=.ref p∧H p=some (.lst vs)∧aw H vs ds∧Rep H x d∧D.cA ds≤50∧Q (.bl (if neg then !ds.any (fun e=>D.eqv e d) else ds.any fun e=>D.eqv e d)) H
theorem tV {pins:List (Addr×Obj)} {σ:St} {H:Hp} {s:Shared} {p:Addr} {vs:List V} {d:D} {ds:List D} {x:V} {v:Value} (hu:X.A.units+64 < cLine) (I:Inv X pins σ H s) (rx:RelV x v) (hq:H p=some (.lst vs)) (rs:aw H vs ds) (rd:Rep H x d) (hd:D.cA ds≤50) :
  ∃ (its:List Value) (e:Value→Bool),s.heap.IsList p its.toArray∧(∀ y∈its.toArray,SeqAt.EqAt X.A.in1 s y v (e y))∧its.toArray.any e=ds.any fun e=>D.eqv e d:=by
 classical
 obtain ⟨its,r,pl,hz⟩:=I.list (SqL.of hq)
 have l1:=r.length
 have l2:=rs.length
 have key:∀ (j:Nat) (u:Value),its[j]?=some u→∃ (y:V) (e:D),vs[j]?=some y∧ds[j]?=some e∧RelV y u∧Rep H y e:=by
  intro j u hj
  have hlt:=(List.getElem?_eq_some_iff.mp hj).1
  have e1:vs[j]?=some (vs[j]'(by omega)):=List.getElem?_eq_getElem _
  obtain ⟨a1,b1,c1⟩:=r.get e1
  obtain ⟨f1,g1,k1⟩:=rs.get e1
  rw [hj] at b1
  cases b1
  exact ⟨_,f1,e1,g1,c1,k1⟩
 refine ⟨its,fun u=>decide (∃ (j:Nat) (y:V) (e:D),its[j]?=some u∧vs[j]?=some y∧ds[j]?=some e∧D.eqv e d=true),pl.isList,?_,?_⟩
 ·intro u hm
  have hm':u∈its:=by simpa using hm
  obtain ⟨j,hj⟩:=List.mem_iff_getElem?.mp hm'
  obtain ⟨y,e,h1,h2,h3,h4⟩:=key j u hj
  have q:=v9 I 60 X.A.in1 y x u v e d (by show X.A.units+1+60 < cLine;omega) (Nat.le_trans (D.gv h2) (by omega)) h3 rx h4 rd
  have z:decide (∃ (j:Nat) (y:V) (e:D),its[j]?=some u∧vs[j]?=some y∧ds[j]?=some e∧D.eqv e d=true)=D.eqv e d:=by
   rw [Bool.eq_iff_iff,decide_eq_true_eq]
   refine ⟨fun ⟨j',y',e',g1,g2,g3,g4⟩=>?_,fun h=>⟨j,y,e,hj,h1,h2,h⟩⟩
   obtain ⟨y2,e2,k1,k2,k3,k4⟩:=key j' u g1
   rw [g2] at k1;cases k1
   rw [g3] at k2;cases k2
   have:=xI h3 k3
   subst this
   rw [Rep.inj h4 k4]
   exact g4
  show SeqAt.EqAt X.A.in1 s u v (decide _)
  rw [z]
  exact q
 ·rw [List.any_toArray,Bool.eq_iff_iff,List.any_eq_true,List.any_eq_true]
  constructor
  ·rintro ⟨u,hu',h⟩
   obtain ⟨j,y,e,g1,g2,g3,g4⟩:=of_decide_eq_true h
   exact ⟨e,List.mem_of_getElem? g3,g4⟩
  ·rintro ⟨e,he,h⟩
   obtain ⟨j,hj⟩:=List.mem_iff_getElem?.mp he
   have hlt:=(List.getElem?_eq_some_iff.mp hj).1
   have e1:its[j]?=some (its[j]'(by omega)):=List.getElem?_eq_getElem _
   obtain ⟨y,e',h1,h2,h3,h4⟩:=key j _ e1
   exact ⟨_,List.mem_of_getElem? e1,decide_eq_true ⟨j,y,e,e1,h1,hj,h⟩⟩
theorem DO (hu:X.A.units+64 < cLine):OpR X (compareOp .In) (yx false):=by
 intro pins s σ H x y v u Q I rx ry h
 obtain ⟨p,vs,d,ds,rfl,hq,rs,rd,hd,q⟩:=h
 cases ry
 obtain ⟨its,e,h1,h2,h3⟩:=tV hu I rx hq rs rd hd
 refine SeqAt.in_listAt e h1 h2 ⟨.bl _,H,I,rfl,?_⟩
 rw [h3]
 exact q
theorem wj (hu:X.A.units+64 < cLine):OpR X (compareOp .NotIn) (yx true):=by
 intro pins s σ H x y v u Q I rx ry h
 obtain ⟨p,vs,d,ds,rfl,hq,rs,rd,hd,q⟩:=h
 cases ry
 obtain ⟨its,e,h1,h2,h3⟩:=tV hu I rx hq rs rd hd
 refine SeqAt.notIn_listAt e h1 h2 ⟨.bl _,H,I,rfl,?_⟩
 rw [h3]
 exact q
end
section
variable {prog:Program} {w:World} {A:Around} {E:Value→Shared→Prop} {s:Shared}
end
section
variable {X:Cx}
end
section
variable {g:TG} {tb:TS} {D0:Ends} {σ:St} {H:Hp} {K:PySem.W.Frag} {a b:Addr} {xs ys:List V}
end
section
variable {tt:TT} {te:TE} {D:Addr} {σ:St} {H1:Hp} {Q:Hp→Prop} {K:PySem.W.Frag} {a b:Addr} {xs ys:List V}
end
section
variable {prog:Program} {w:World} {A:Around} {E:Value→Shared→Prop} {s:Shared}
section
end
end
section
variable {X:Cx}
end
end L2
namespace ZS
open PySem
def Ri (l:List Nat):Prop:=l.Pairwise (· < ·)
theorem uk (xs:Array Nat) (j p:Nat) (h1:∀ i,i < p→xs.getD i j < j) (h2:∀ i,p≤i→i < xs.size→¬xs.getD i j < j):∀ (fuel lo hi:Nat),lo≤p→p≤hi→hi≤xs.size→hi - lo≤fuel→SetTable.below.go xs j fuel lo hi=p
 | 0,lo,hi,a,b,c,d=>by rw [SetTable.below.go];omega
 | fuel+1,lo,hi,a,b,c,d=>by
  rw [SetTable.below.go]
  by_cases hl:lo < hi
  ·rw [if_pos hl]
   dsimp only
   have m1:lo≤(lo+hi) / 2:=by omega
   have m2:(lo+hi) / 2 < hi:=by omega
   by_cases hm:xs.getD ((lo+hi) / 2) j < j
   ·rw [if_pos hm]
    have:(lo+hi) / 2 < p:=by
     refine Nat.lt_of_not_le fun z=>?_
     exact h2 _ z (by omega) hm
    exact uk xs j p h1 h2 fuel _ _ (by omega) b c (by omega)
   ·rw [if_neg hm]
    have:p≤(lo+hi) / 2:=by
     refine Nat.le_of_not_lt fun z=>?_
     exact hm (h1 _ z)
    exact uk xs j p h1 h2 fuel _ _ a this (by omega) (by omega)
  ·rw [if_neg hl];omega
theorem getD_list {l:List Nat} {i j:Nat} (h:i < l.length):l.toArray.getD i j=l[i]:=by simp [Array.getD,h]
theorem below_at {l:List Nat} {j p:Nat} (hp:p≤l.length) (h1:∀ i (h:i < l.length),i < p→l[i] < j) (h2:∀ i (h:i < l.length),p≤i→j≤l[i]):SetTable.below l.toArray j=p:=by
 unfold SetTable.below
 refine uk l.toArray j p (fun i hi=>?_) (fun i hi hs=>?_) _ _ _ (Nat.zero_le _) (by simpa using hp) (Nat.le_refl _) (by omega)
 ·rw [getD_list (by omega)];exact h1 i (by omega) hi
 ·rw [getD_list (by simpa using hs)]
  have:=h2 i (by simpa using hs) hi
  omega
theorem pZ {l:List Nat} (h:Ri l) {i k:Nat} (hk:k < l.length) (hi:i < k):l[i] < l[k]:=List.pairwise_iff_getElem.mp h i k (by omega) hk hi
theorem wd {l:List Nat} (h:Ri l) (j:Nat):∃ p,p≤l.length∧SetTable.below l.toArray j=p∧(∀ x∈l.take p,x < j)∧(∀ x∈l.drop p,j≤x):=by
 induction l with
 | nil=>exact ⟨0,Nat.le_refl _,below_at (Nat.le_refl _) (fun i h=>by simp at h) (fun i h=>by simp at h),by simp,by simp⟩
 | cons a l ih=>
  obtain ⟨h1,h2⟩:=List.pairwise_cons.mp h
  obtain ⟨p,hp,_,ha,hb⟩:=ih h2
  by_cases hj:a < j
  ·have q1:∀ x∈(a :: l).take (p+1),x < j:=by
    intro x hx
    rw [List.take_succ_cons] at hx
    rcases List.mem_cons.mp hx with e | e
    ·omega
    ·exact ha x e
   have q2:∀ x∈(a :: l).drop (p+1),j≤x:=by
    intro x hx
    rw [List.drop_succ_cons] at hx
    exact hb x hx
   refine ⟨p+1,by simp;omega,below_at (by simp;omega) (fun i hi hip=>?_) (fun i hi hip=>?_),q1,q2⟩
   ·refine q1 _ ?_
    rw [List.mem_iff_getElem]
    exact ⟨i,by rw [List.length_take];simp at hi ⊢;omega,by rw [List.getElem_take]⟩
   ·refine q2 _ ?_
    rw [List.mem_iff_getElem]
    exact ⟨i - (p+1),by simp at hi ⊢;omega,by rw [List.getElem_drop];congr 1;omega⟩
  ·have q2:∀ x∈a :: l,j≤x:=by
    intro x hx
    rcases List.mem_cons.mp hx with e | e
    ·omega
    ·have:=h1 x e;omega
   refine ⟨0,Nat.zero_le _,below_at (Nat.zero_le _) (fun i hi hip=>by omega) (fun i hi _=>q2 _ (List.getElem_mem hi)),by simp,by simpa using q2⟩
theorem pj {l:List Nat} (h:Ri l) {i:Nat} (hi:i < l.length):SetTable.below l.toArray (l[i]+1)=i+1∧SetTable.below l.toArray l[i]=i:=by
 constructor
 ·refine below_at (by omega) (fun k hk hki=>?_) (fun k hk hki=>?_)
  ·by_cases e:k=i
   ·subst e;omega
   ·have:=pZ h hi (show k < i by omega);omega
  ·have:=pZ h hk (show i < k by omega);omega
 ·refine below_at (by omega) (fun k hk hki=>pZ h hi hki) (fun k hk hki=>?_)
  by_cases e:k=i
  ·subst e;omega
  ·have:=pZ h hk (show i < k by omega);omega
theorem t_ {l:List Nat}:SetTable.below l.toArray 0=0:=below_at (Nat.zero_le _) (fun i hi h=>by omega) (fun i hi _=>Nat.zero_le _)
theorem wY {l:List Nat} (h:Ri l) {j p:Nat} (hj:j∉l) (ha:∀ x∈l.take p,x < j) (hb:∀ x∈l.drop p,j≤x):Ri (l.take p++j :: l.drop p):=by
 have hs:Ri (l.take p++l.drop p):=by rw [List.take_append_drop];exact h
 obtain ⟨s1,s2,s3⟩:=List.pairwise_append.mp hs
 refine List.pairwise_append.mpr ⟨s1,List.pairwise_cons.mpr ⟨fun x hx=>?_,s2⟩,fun x hx y hy=>?_⟩
 ·have:=hb x hx
  have:x≠j:=fun e=>hj (by rw [← e];exact List.mem_of_mem_drop hx)
  omega
 ·rcases List.mem_cons.mp hy with e | e
  ·rw [e];exact ha x hx
  ·exact s3 x hx y e
theorem slot_of {t:SetTable} {l:List Nat} (hp:t.place=l.toArray) (hr:Ri l) (hd:t.dummies=#[]) (j:Nat):(j∉l→t.slot j=.empty)∧(j∈l→∃ i,t.slot j=.live i):=by
 have hh:SetTable.has #[] j=false:=by simp [SetTable.has]
 constructor
 ·intro hj
  unfold SetTable.slot
  dsimp only
  rw [hp,hd,hh]
  have:(l.toArray[SetTable.below l.toArray j]? == some j)=false:=by
   rw [beq_eq_false_iff_ne]
   intro e
   rw [List.getElem?_toArray] at e
   exact hj (List.mem_of_getElem? e)
  rw [this]
  rfl
 ·intro hj
  obtain ⟨i,hi,rfl⟩:=List.mem_iff_getElem.mp hj
  refine ⟨i,?_⟩
  unfold SetTable.slot
  dsimp only
  rw [hp,(pj hr hi).2,List.getElem?_toArray,List.getElem?_eq_getElem hi]
  simp
def nxt (m i:Nat):Nat:=(i * 5+1) % (m+1)
def orb (m:Nat):Nat→Nat→Nat
 | 0,i=>i
 | n+1,i=>orb m n (nxt m i)
def marks (m:Nat):Nat→Nat→Nat→Nat
 | 0,_,acc=>acc
 | n+1,i,acc=>marks m n (nxt m i) (acc ||| (1 <<< i))
def full (m:Nat):Bool:=marks m (m+1) 0 0 == 2 ^ (m+1) - 1 && orb m (m+1) 0 == 0
theorem E2:full 7=true:=by decide +kernel
theorem CM:full 31=true:=by decide +kernel
theorem Ah:full 127=true:=by decide +kernel
theorem Ar:full 511=true:=by decide +kernel
theorem oX {m:Nat}:∀ (n i acc e:Nat),(marks m n i acc).testBit e=true→acc.testBit e=true∨∃ k,k < n∧orb m k i=e
 | 0,i,acc,e,h=>.inl h
 | n+1,i,acc,e,h=>by
  rw [marks] at h
  rcases oX n _ _ e h with q | ⟨k,hk,q⟩
  ·rw [Nat.testBit_or,Bool.or_eq_true] at q
   rcases q with q | q
   ·exact .inl q
   ·refine .inr ⟨0,by omega,?_⟩
    rw [Nat.one_shiftLeft,Nat.testBit_two_pow] at q
    simpa [orb] using q
  ·exact .inr ⟨k+1,by omega,q⟩
theorem lN {m:Nat}:∀ (a b i:Nat),orb m (a+b) i=orb m b (orb m a i)
 | 0,b,i=>by simp [orb]
 | a+1,b,i=>by
  rw [show a+1+b=(a+b)+1 by omega,orb,lN a b,orb]
theorem zM {m e:Nat} (hf:full m=true) (he:e≤m):∃ k,k≤m∧orb m k 0=e:=by
 unfold full at hf
 rw [Bool.and_eq_true,beq_iff_eq,beq_iff_eq] at hf
 have q:(marks m (m+1) 0 0).testBit e=true:=by
  rw [hf.1,Nat.testBit_two_pow_sub_one]
  simp;omega
 rcases oX _ _ _ _ q with z | ⟨k,hk,z⟩
 ·simp at z
 ·exact ⟨k,by omega,z⟩
theorem reach {m e i:Nat} (hf:full m=true) (he:e≤m) (hi:i≤m):∃ k,k≤m∧orb m k i=e:=by
 obtain ⟨a,ha,ea⟩:=zM hf hi
 obtain ⟨b,hb,eb⟩:=zM hf he
 have h0:orb m (m+1) 0=0:=by
  unfold full at hf
  rw [Bool.and_eq_true,beq_iff_eq,beq_iff_eq] at hf
  exact hf.2
 by_cases hab:a≤b
 ·refine ⟨b - a,by omega,?_⟩
  rw [← ea,← lN,show a+(b - a)=b by omega,eb]
 ·refine ⟨m+1 - a+b,by omega,?_⟩
  rw [← ea,← lN,show a+(m+1 - a+b)=(m+1)+b by omega,lN,h0,eb]
def lp (m:Nat):Nat→Nat×Nat→Nat×Nat
 | 0,x=>x
 | n+1,x=>lp m n (SetTable.leap m x.1 x.2)
theorem vV {m:Nat}:∀ (a b:Nat) (x:Nat×Nat),lp m (a+b) x=lp m b (lp m a x)
 | 0,b,x=>by simp [lp]
 | a+1,b,x=>by
  rw [show a+1+b=(a+b)+1 by omega,lp,vV a b,lp]
theorem tP {m:Nat}:∀ (n:Nat) (x:Nat×Nat),(lp m n x).2=x.2 / 32 ^ n
 | 0,x=>by simp [lp]
 | n+1,x=>by
  rw [lp,tP n]
  show x.2 / 32 / 32 ^ n=_
  rw [Nat.div_div_eq_div_mul,Nat.pow_succ,Nat.mul_comm]
theorem v_ {m:Nat}:∀ (n i:Nat),lp m n (i,0)=(orb m n i,0)
 | 0,i=>rfl
 | n+1,i=>by
  rw [lp,orb]
  have:SetTable.leap m i 0=(nxt m i,0):=by simp [SetTable.leap,nxt]
  rw [this,v_ n]
theorem Fb {m:Nat} (x:Nat×Nat) (h:x.1≤m):∀ n,(lp m n x).1≤m:=by
 intro n
 induction n generalizing x with
 | zero=>exact h
 | succ n ih=>
  rw [lp]
  exact ih _ (by show _ % (m+1)≤m;have:=Nat.mod_lt (x.1 * 5+1+x.2 / 32) (show m+1 > 0 by omega);omega)
theorem tB {m e i p:Nat} (hf:full m=true) (he:e≤m) (hi:i≤m) (hp:p < 2 ^ 64):∃ k,k < SetTable.turns m∧(lp m k (i,p)).1=e:=by
 have h13:(lp m 13 (i,p)).2=0:=by
  rw [tP]
  exact Nat.div_eq_of_lt (Nat.lt_of_lt_of_le hp (by decide))
 obtain ⟨k,hk,ek⟩:=reach hf he (Fb (i,p) hi 13)
 refine ⟨13+k,by unfold SetTable.turns;omega,?_⟩
 rw [vV]
 have z:lp m 13 (i,p)=((lp m 13 (i,p)).1,0):=by rw [← h13]
 rw [z,v_]
 exact ek
theorem tu (h:Int):SetTable.bits h < 2 ^ 64:=by
 unfold SetTable.bits
 have:=Int.emod_lt_of_pos h (show (0:Int) < 2 ^ 64 by decide)
 omega
theorem room {l:List Nat} {m:Nat} (hn:l.length≤m):∃ e,e≤m∧e∉l:=by
 refine Classical.byContradiction fun h=>?_
 have hall:∀ e∈List.range (m+1),e∈l:=fun e he=>Classical.byContradiction fun z=>h ⟨e,by have:=List.mem_range.mp he;omega,z⟩
 have:=List.Nodup.length_le_of_subset (List.nodup_range (n:=m+1)) hall
 rw [List.length_range] at this
 omega
theorem yr {t:SetTable} {l:List Nat} (hp:t.place=l.toArray) (hr:Ri l) (hd:t.dummies=#[]) (h:Int) :
  ∀ (k:Nat) (fuel:Nat) (q:SetTable.Probe),q.dummy=none→q.more≤9→10 * k+q.more+1≤fuel→(lp t.mask k (q.i,q.perturb)).1∉l→(k=0→q.j=q.i∨q.j∉l)→(q.more≤9) →
   (k=0→q.j∉l)→∃ j,SetTable.probe.go t (fun _=>h+1) h fuel q=some (.empty j none)∧j∉l:=by
 intro k
 induction k with
 | zero=>
  intro fuel q h1 h2 h3 h4 h5 h6 h7
  obtain ⟨f,rfl⟩:∃ f,fuel=f+1:=⟨fuel - 1,by omega⟩
  refine ⟨q.j,?_,h7 rfl⟩
  rw [SetTable.probe.go,(slot_of hp hr hd q.j).1 (h7 rfl)]
  dsimp only
  rw [h1]
 | succ k ih=>
  intro fuel q h1 h2 h3 h4 h5 h6 h7
  have run:∀ (r fuel:Nat) (q:SetTable.Probe),q.more=r→q.dummy=none→10 * (k+1)+r+1≤fuel→(lp t.mask (k+1) (q.i,q.perturb)).1∉l→∃ j,SetTable.probe.go t (fun _=>h+1) h fuel q=some (.empty j none)∧j∉l:=by
   intro r
   induction r with
   | zero=>
    intro fuel q hm hdm hfu hl
    obtain ⟨f,rfl⟩:∃ f,fuel=f+1:=⟨fuel - 1,by omega⟩
    by_cases hj:q.j∈l
    ·obtain ⟨i,ei⟩:=(slot_of hp hr hd q.j).2 hj
     rw [SetTable.probe.go,ei]
     dsimp only
     have hne:(h+1 == h)=false:=by rw [beq_eq_false_iff_ne];omega
     rw [hne]
     have ha:t.advance q={ q with j:=(SetTable.leap t.mask q.i q.perturb).1,more:=SetTable.runEnd t.mask (SetTable.leap t.mask q.i q.perturb).1 - (SetTable.leap t.mask q.i q.perturb).1,i:=(SetTable.leap t.mask q.i q.perturb).1,perturb:=(SetTable.leap t.mask q.i q.perturb).2 }:=by
      unfold SetTable.advance
      rw [if_neg (by omega)]
     have hmore:(t.advance q).more≤9:=by
      rw [ha]
      dsimp only
      unfold SetTable.runEnd
      split<;>omega
     have hl':(lp t.mask k ((t.advance q).i,(t.advance q).perturb)).1∉l:=by rw [ha];exact hl
     refine ih f (t.advance q) (by rw [ha];exact hdm) hmore (by omega) hl' (fun _=>.inl (by rw [ha])) hmore fun hk=>?_
     rw [ha]
     dsimp only
     subst hk
     exact hl
    ·refine ⟨q.j,?_,hj⟩
     rw [SetTable.probe.go,(slot_of hp hr hd q.j).1 hj]
     dsimp only
     rw [hdm]
   | succ r ihr=>
    intro fuel q hm hdm hfu hl
    obtain ⟨f,rfl⟩:∃ f,fuel=f+1:=⟨fuel - 1,by omega⟩
    by_cases hj:q.j∈l
    ·obtain ⟨i,ei⟩:=(slot_of hp hr hd q.j).2 hj
     rw [SetTable.probe.go,ei]
     dsimp only
     have hne:(h+1 == h)=false:=by rw [beq_eq_false_iff_ne];omega
     rw [hne]
     have ha:t.advance q={ q with j:=q.j+1,more:=q.more - 1 }:=by
      unfold SetTable.advance
      rw [if_pos (by omega)]
     refine ihr f (t.advance q) (by rw [ha];dsimp only;omega) (by rw [ha];exact hdm) (by omega) (by rw [ha];exact hl)
    ·refine ⟨q.j,?_,hj⟩
     rw [SetTable.probe.go,(slot_of hp hr hd q.j).1 hj]
     dsimp only
     rw [hdm]
  exact run q.more fuel q rfl h1 h3 h4
theorem vU {t:SetTable} {l:List Nat} (hp:t.place=l.toArray) (hr:Ri l) (hd:t.dummies=#[]) (hf:full t.mask=true) (hn:l.length≤t.mask) (h:Int):∃ j,t.freeSlot h=some (j,false)∧j∉l:=by
 obtain ⟨e,he,hel⟩:=room hn
 have hi:SetTable.bits h % (t.mask+1)≤t.mask:=by have:=Nat.mod_lt (SetTable.bits h) (show t.mask+1 > 0 by omega);omega
 obtain ⟨k,hk,ek⟩:=tB hf he hi (tu h)
 have hmore:(t.probeStart h).more≤9:=by
  unfold SetTable.probeStart SetTable.runEnd
  dsimp only
  split<;>omega
 have q:=yr hp hr hd h k (10 * SetTable.turns t.mask) (t.probeStart h) rfl hmore (by omega) (by
  show (lp t.mask k (SetTable.bits h % (t.mask+1),SetTable.bits h)).1∉l
  rw [ek];exact hel) (fun _=>.inl rfl) hmore (fun hk0=>by
   subst hk0
   show SetTable.bits h % (t.mask+1)∉l
   rw [show SetTable.bits h % (t.mask+1)=e from ek];exact hel)
 obtain ⟨j,ej,hj⟩:=q
 refine ⟨j,?_,hj⟩
 unfold SetTable.freeSlot SetTable.probe
 rw [ej]
 rfl
end ZS
namespace ZS
open PySem
theorem tU {m e:Nat} {owner:Array (Option Nat)} (he:owner.getD e (some 0)=none):∀ (k fuel i p:Nat),(lp m k (i,p)).1=e→k < fuel→∃ j,SetTable.layClean.free m owner fuel i p=some j∧owner.getD j (some 0)=none
 | k,0,i,p,_,h=>by omega
 | k,fuel+1,i,p,hk,h=>by
  rw [SetTable.layClean.free]
  cases hf:(List.range (SetTable.runEnd m i+1 - i)).find? fun k=>(owner.getD (i+k) (some 0)).isNone with
  | some x=>
   refine ⟨i+x,rfl,?_⟩
   have:=List.find?_some hf
   simpa using this
  | none=>
   have hno:=List.find?_eq_none.mp hf
   cases k with
   | zero=>
    have hi:i=e:=hk
    have:=hno 0 (List.mem_range.mpr (by unfold SetTable.runEnd;split<;>omega))
    rw [Nat.add_zero,hi,he] at this
    simp at this
   | succ k=>
    dsimp only
    exact tU he k fuel _ _ hk (by omega)
theorem rD {α β:Type} {f g:α→Option β}:∀ {l:List α},(∀ x∈l,f x=g x)→l.filterMap f=l.filterMap g
 | [],_=>rfl
 | a :: l,h=>by
  rw [List.filterMap_cons,List.filterMap_cons,h a (List.mem_cons_self ..),rD fun x hx=>h x (List.mem_cons_of_mem _ hx)]
def vals (m:Nat) (owner:Array (Option Nat)):List Nat:=(List.range (m+1)).filterMap fun j=>owner.getD j none
theorem xW (m:Nat):vals m (Array.replicate (m+1) none)=[]:=by
 unfold vals
 rw [List.filterMap_eq_nil_iff]
 intro j hj
 simp [Array.getD]
theorem xP {m j k:Nat} {owner:Array (Option Nat)} (hs:owner.size=m+1) (hj:owner.getD j (some 0)=none):(vals m (owner.setIfInBounds j (some k))).Perm (k :: vals m owner):=by
 have hjs:j < owner.size:=by
  refine Nat.lt_of_not_le fun z=>?_
  simp [Array.getD,Nat.not_lt.mpr z] at hj
 have hjv:owner.getD j none=none:=by
  simp [Array.getD,hjs] at hj ⊢
  exact hj
 have hmem:j∈List.range (m+1):=List.mem_range.mpr (by omega)
 have pe:=List.perm_cons_erase hmem
 have nd:(List.range (m+1)).Nodup:=List.nodup_range
 unfold vals
 refine (pe.filterMap _).trans ?_
 refine List.Perm.trans ?_ ((pe.filterMap (fun j=>owner.getD j none)).cons k).symm
 rw [List.filterMap_cons,List.filterMap_cons]
 have e1:(owner.setIfInBounds j (some k)).getD j none=some k:=by simp [Array.getD,hjs]
 rw [e1,hjv]
 dsimp only
 refine List.Perm.cons k (List.Perm.of_eq ?_)
 refine rD fun x hx=>?_
 have hne:x≠j:=fun e=>by
  rw [e] at hx
  exact (List.Nodup.mem_erase_iff nd).mp hx |>.1 rfl
 simp only [Array.getD,Array.size_setIfInBounds]
 split
 ·rw [Array.getInternal_eq_getElem,Array.getInternal_eq_getElem,Array.getElem_setIfInBounds_ne (by assumption) (fun e=>hne e.symm)]
 ·rfl
theorem yJ {m:Nat} {owner:Array (Option Nat)} (hs:owner.size=m+1) (h:(vals m owner).length≤m):∃ e,e≤m∧owner.getD e (some 0)=none:=by
 refine Classical.byContradiction fun hno=>?_
 have all:∀ j∈List.range (m+1),(owner.getD j none).isSome=true:=fun j hj=>by
  have hj':=List.mem_range.mp hj
  cases e:owner.getD j none with
  | some x=>rfl
  | none=>
   refine absurd ⟨j,by omega,?_⟩ hno
   simp [Array.getD,show j < owner.size by omega] at e ⊢
   exact e
 have len:∀ l:List Nat,(∀ j∈l,(owner.getD j none).isSome=true)→(l.filterMap fun j=>owner.getD j none).length=l.length:=by
  intro l
  induction l with
  | nil=>intro _;rfl
  | cons a l ih=>
   intro hl
   obtain ⟨x,hx⟩:=Option.isSome_iff_exists.mp (hl a (List.mem_cons_self ..))
   rw [List.filterMap_cons,hx]
   dsimp only
   rw [List.length_cons,List.length_cons,ih fun j hj=>hl j (List.mem_cons_of_mem _ hj)]
 have:=len _ all
 rw [List.length_range] at this
 unfold vals at h
 omega
def lS (m:Nat) (acc:Option (Array (Option Nat)×Nat)) (h:Int):Option (Array (Option Nat)×Nat):=do
  let (owner,k) ← acc
  let j ← SetTable.layClean.free m owner (SetTable.turns m) (SetTable.bits h % (m+1)) (SetTable.bits h)
  pure (owner.setIfInBounds j (some k),k+1)
theorem ql {m:Nat} (hf:full m=true):∀ (hs:List Int) (owner:Array (Option Nat)) (k:Nat),owner.size=m+1→(vals m owner).Perm (List.range k)→k+hs.length≤m →
  ∃ owner',hs.foldl (lS m) (some (owner,k))=some (owner',k+hs.length)∧owner'.size=m+1∧(vals m owner').Perm (List.range (k+hs.length))
 | [],owner,k,h1,h2,h3=>⟨owner,rfl,h1,by simpa using h2⟩
 | h :: hs,owner,k,h1,h2,h3=>by
  have hlen:(vals m owner).length=k:=by rw [h2.length_eq,List.length_range]
  obtain ⟨e,he,hen⟩:=yJ h1 (by simp at h3;omega)
  have hi:SetTable.bits h % (m+1)≤m:=by have:=Nat.mod_lt (SetTable.bits h) (show m+1 > 0 by omega);omega
  obtain ⟨q,hq,eq⟩:=tB hf he hi (tu h)
  obtain ⟨j,ej,hj⟩:=tU (m:=m) hen q (SetTable.turns m) _ _ eq hq
  have st:lS m (some (owner,k)) h=some (owner.setIfInBounds j (some k),k+1):=by
   unfold lS
   show (SetTable.layClean.free m owner (SetTable.turns m) (SetTable.bits h % (m+1)) (SetTable.bits h)).bind _=_
   rw [ej]
   rfl
  have p2:(vals m (owner.setIfInBounds j (some k))).Perm (List.range (k+1)):=by
   refine (xP h1 hj).trans ((h2.cons k).trans ?_)
   rw [List.range_succ]
   exact (List.perm_append_singleton k _).symm
  obtain ⟨o',a1,a2,a3⟩:=ql hf hs _ (k+1) (by rw [Array.size_setIfInBounds];exact h1) p2 (by simp at h3;omega)
  refine ⟨o',?_,a2,by simp only [List.length_cons];rw [show k+(hs.length+1)=k+1+hs.length by omega];exact a3⟩
  rw [List.foldl_cons,st,a1]
  simp only [List.length_cons]
  rw [show k+(hs.length+1)=k+1+hs.length by omega]
theorem sE {m:Nat} (hf:full m=true) (hs:Array Int) (hn:hs.size≤m):∃ owner,SetTable.layClean m hs=some owner∧owner.size=m+1∧(vals m owner).Perm (List.range hs.size):=by
 obtain ⟨o,a1,a2,a3⟩:=ql hf hs.toList (Array.replicate (m+1) none) 0 (by simp) (by rw [xW];simp) (by simpa using hn)
 refine ⟨o,?_,a2,by simpa using a3⟩
 unfold SetTable.layClean
 rw [← Array.foldl_toList]
 have:(fun (acc:Option (Array (Option Nat)×Nat)) (h:Int)=>(do
  let (owner,k) ← acc
  let j ← SetTable.layClean.free m owner (SetTable.turns m) (SetTable.bits h % (m+1)) (SetTable.bits h)
  pure (owner.setIfInBounds j (some k),k+1):Option (Array (Option Nat)×Nat)))=lS m:=rfl
 rw [this,a1]
 rfl
theorem jE (f:Nat→Option Nat):∀ l:List Nat,((l.filterMap fun j=>(f j).map (j,·)).map (·.1))=l.filter fun j=>(f j).isSome
 | []=>rfl
 | a :: l=>by
  rw [List.filterMap_cons,List.filter_cons]
  cases f a with
  | none=>simpa using jE f l
  | some x=>simp [jE f l]
theorem jY (f:Nat→Option Nat):∀ l:List Nat,((l.filterMap fun j=>(f j).map (j,·)).map (·.2))=l.filterMap f
 | []=>rfl
 | a :: l=>by
  rw [List.filterMap_cons,List.filterMap_cons]
  cases f a with
  | none=>simpa using jY f l
  | some x=>simp [jY f l]
theorem tR {α:Type}:∀ (xs:List α),(List.range xs.length).filterMap (fun i=>xs[i]?)=xs
 | []=>rfl
 | x :: xs=>by
  rw [List.length_cons,List.range_succ_eq_map,List.filterMap_cons]
  simp only [List.getElem?_cons_zero]
  rw [List.filterMap_map]
  have:((fun i=>(x :: xs)[i]?) ∘ Nat.succ)=fun i=>xs[i]?:=by funext i;simp
  rw [this,tR xs]
theorem zh {t:SetTable} {es:Array (Int×Value)} {wanted:Nat} (hf:full (SetTable.sizeAbove wanted - 1)=true) (hn:es.size≤SetTable.sizeAbove wanted - 1) :
  ∃ es' t' l,relayAll t es wanted=(es',t',false)∧es'.toList.Perm es.toList∧t'.place=l.toArray∧Ri l∧l.length=es.size∧t'.dummies=#[]∧t'.mask=SetTable.sizeAbove wanted - 1∧t'.plain=t.plain∧t'.led=t.led:=by
 obtain ⟨owner,e1,e2,e3⟩:=sE hf (es.map (·.1)) (by simpa using hn)
 rw [Array.size_map] at e3
 generalize hm:SetTable.sizeAbove wanted - 1=m at *
 let f:Nat→Option Nat:=fun j=>owner.getD j none
 have r1:t.relaid (es.map (·.1)) wanted=some ({ mask:=m,place:=((List.range (m+1)).filter fun j=>(f j).isSome).toArray,dummies:=#[],finger:=t.finger,led:=t.led,moves:=t.movedTo m,plain:=t.plain },(vals m owner).toArray):=by
  unfold SetTable.relaid SetTable.laid
  rw [hm,e1]
  show some _=some _
  rw [← jE f,show vals m owner=(List.range (m+1)).filterMap f from rfl,← jY f]
 have po:((vals m owner).toArray.filterMap (fun (i:Nat)=>es[i]?)).toList.Perm es.toList:=by
  rw [Array.toList_filterMap]
  refine (e3.filterMap _).trans (List.Perm.of_eq ?_)
  have:(fun (i:Nat)=>es[i]?)=fun (i:Nat)=>es.toList[i]?:=by funext i;rw [Array.getElem?_toList]
  rw [this,← Array.length_toList,tR]
 have lpl:((List.range (m+1)).filter fun j=>(f j).isSome).length=es.size:=by
  rw [← jE f,List.length_map,← List.length_map (f:=(·.2)),jY f]
  show (vals m owner).length=es.size
  rw [e3.length_eq,List.length_range]
 have so:((vals m owner).toArray.filterMap (fun (i:Nat)=>es[i]?)).size=es.size:=by
  rw [← Array.length_toList,po.length_eq,Array.length_toList]
 refine ⟨_,{ mask:=m,place:=((List.range (m+1)).filter fun j=>(f j).isSome).toArray,dummies:=#[],finger:=t.finger,led:=t.led,moves:=t.movedTo m,plain:=t.plain },(List.range (m+1)).filter fun j=>(f j).isSome,?_,po,rfl,?_,lpl,rfl,rfl,rfl,rfl⟩
 ·unfold relayAll
  rw [r1]
  dsimp only
  have c1:coversAll (vals m owner).toArray es.size=true:=by
   unfold coversAll
   rw [List.isPerm_iff]
   exact e3
  have c2:SetTable.fits { mask:=m,place:=((List.range (m+1)).filter fun j=>(f j).isSome).toArray,dummies:=#[],finger:=t.finger,led:=t.led,moves:=t.movedTo m,plain:=t.plain } ((vals m owner).toArray.filterMap (fun (i:Nat)=>es[i]?)).size=true:=by
   unfold SetTable.fits SetTable.fill
   rw [so]
   simp only [List.size_toArray,lpl]
   simpa using hn
  rw [c1,c2]
  rfl
 ·exact List.Pairwise.filter _ List.pairwise_lt_range
end ZS
namespace ZS
open PySem
end ZS
namespace ZS
open PySem
end ZS
namespace L2
open PySem PySem.Spec PyProof.Rows ZS
def e8 (m:Nat):Bool:=m == 7 || m == 31 || m == 127 || m == 511
theorem tS {m:Nat} (h:e8 m=true):full m=true:=by
 simp only [e8,Bool.or_eq_true,beq_iff_eq] at h
 rcases h with ((h | h) | h) | h<;>subst h
 ·exact E2
 ·exact CM
 ·exact Ah
 ·exact Ar
def iU (w:World) (h:Heap) (a:Addr) (ks:List Int):Prop:=
 ∃ (o:Obj) (es:Array (Int×Value)) (ep:Nat) (t:SetTable) (pl:List Nat),h.get? a=some o∧o.ExactSet∧o.data=.set es ep t∧e8 t.mask=true∧t.dummies=#[]∧t.plain=true∧t.led=!(w.params.followText "set-order") ∧
  t.place=pl.toArray∧(Ri pl∧pl.length=ks.length∧ks.length * 5 < t.mask * 3)∧IntsAre (es.toList.map Prod.snd) ks∧(∀ e∈es.toList,∃ k,Value.isInt k e.2=true∧e.1=hashInt k)∧ks.Nodup∧ks.length≤300
theorem cY:∀ {vs:List Value} {ns:List Int},IntsAre vs ns→vs.length=ns.length
 | _,_,.nil=>rfl
 | _,_,.cons n t r=>by simp [cY r]
theorem fits_of {t:SetTable} {n:Nat} (h2:t.dummies=#[]) (h3:t.place.size=n) (hn:n≤t.mask):t.fits n=true:=by
 unfold SetTable.fits SetTable.fill
 rw [h2,h3]
 simp
 omega
theorem iB {k:Int} {t:Tok}:Value.isInt k (.int k t)=true:=by simp [Value.isInt]
theorem isInt_iff {k j:Int} {t:Tok}:Value.isInt k (.int j t)=true↔k=j:=by
 constructor
 ·intro h
  obtain ⟨t',e⟩:=Value.isInt_shape h
  cases e;rfl
 ·rintro rfl;exact iB
theorem k_:∀ {es:List (Int×Value)} {ks:List Int} {k:Int},IntsAre (es.map Prod.snd) ks→(k∈ks↔(es.findIdx? fun e=>Value.isInt k e.2).isSome=true)
 | [],_,k,r=>by cases r;simp
 | e :: es,_,k,r=>by
  obtain ⟨h,v⟩:=e
  cases r with
  | cons n t r=>
   have ih:=k_ (k:=k) r
   rw [List.findIdx?_cons]
   by_cases hk:k=n
   ·subst hk
    simp [iB]
   ·have:Value.isInt k (.int n t)=false:=by rw [← Bool.not_eq_true,isInt_iff];exact hk
    simp only [this,List.mem_cons,hk,false_or]
    rw [ih]
    simp
theorem kb {α:Type} (xs:Array α) (p:Nat) (x:α) (hp:p≤xs.size):(SetTable.insertAt xs p x).toList=xs.toList.take p++x :: xs.toList.drop p:=by
 unfold SetTable.insertAt
 simp
 rw [List.take_of_length_le (by simp)]
section
variable {prog:Program} {w:World} {A:Around} {E:Value→Shared→Prop} {s:Shared}
theorem IntsAre.app:∀ {vs us:List Value} {ns ms:List Int},IntsAre vs ns→IntsAre us ms→IntsAre (vs++us) (ns++ms)
 | _,_,_,_,.nil,r=>r
 | _,_,_,_,.cons n t q,r=>.cons n t (IntsAre.app q r)
theorem IntsAre.zV:∀ {vs:List Value} {ns:List Int} (p:Nat),IntsAre vs ns→IntsAre (vs.take p) (ns.take p)
 | _,_,0,_=>.nil
 | _,_,_+1,.nil=>.nil
 | _,_,p+1,.cons n t q=>.cons n t (IntsAre.zV p q)
theorem IntsAre.zR:∀ {vs:List Value} {ns:List Int} (p:Nat),IntsAre vs ns→IntsAre (vs.drop p) (ns.drop p)
 | _,_,0,r=>r
 | _,_,_+1,.nil=>.nil
 | _,_,p+1,.cons _ _ q=>IntsAre.zR p q
theorem pw:∀ {vs us:List Value},List.Perm vs us→∀ {ns:List Int},IntsAre us ns→∃ ms,IntsAre vs ms∧List.Perm ms ns:=by
 intro vs us hp
 induction hp with
 | nil=>intro ns r;exact ⟨ns,r,.refl _⟩
 | cons x _ ih=>
  intro ns r
  cases r with
  | cons n t r=>
   obtain ⟨ms,a,b⟩:=ih r
   exact ⟨n :: ms,.cons n t a,b.cons n⟩
 | swap x y l=>
  intro ns r
  cases r with
  | cons n t r=>cases r with
   | cons n' t' r=>exact ⟨n' :: n :: _,.cons n' t' (.cons n t r),.swap ..⟩
 | trans _ _ ih1 ih2=>
  intro ns r
  obtain ⟨ms,a,b⟩:=ih2 r
  obtain ⟨ms',a',b'⟩:=ih1 a
  exact ⟨ms',a',b'.trans b⟩
theorem yR {t':SetTable} {es':Array (Int×Value)} {n:Nat} (hm:e8 t'.mask=true) (hn:es'.size=n) (h1:¬n * 5 < t'.mask * 3) (h2:n * 5 < t'.mask * 3+5) (h3:n≤300) :
  e8 (SetTable.sizeAbove (SetTable.grown n) - 1)=true∧n * 5 < (SetTable.sizeAbove (SetTable.grown n) - 1) * 3:=by
 simp only [e8,Bool.or_eq_true,beq_iff_eq] at hm
 rcases hm with ((hm | hm) | hm) | hm<;>rw [hm] at h1 h2
 ·have:n=5:=by omega
  subst this;decide +kernel
 ·have:n=19:=by omega
  subst this;decide +kernel
 ·have:n=77:=by omega
  subst this;decide +kernel
 ·omega
theorem yG {a:Addr} {ks:List Int} {k:Int} {tk:Tok} {Q:Bool→Shared→Prop} (hS:iU w s.heap a ks) (hl:k∉ks→ks.length < 300)
  (h:∀ (h':Heap) (ks':List Int) (b:Bool),Heap.SameBut a s.heap h'→iU w h' a ks'→(∀ x,x∈ks'↔x∈ks∨x=k)→(k∈ks→ks'.length=ks.length)→(k∉ks→ks'.length=ks.length+1)→Q b { s with heap:=h',toks:=s.toks+1 }) :
  wpAny (model prog w) A (setAdd a (.int k tk)) Q E s:=by
 obtain ⟨o,es,ep,t,pl,g1,g2,g3,g4,g5,g6,g7,g8,g9,g10,g11,g12,g13⟩:=hS
 obtain ⟨g9,lpl,g14⟩:=g9
 have hmask:=tS g4
 have lks:es.size=ks.length:=by
  have:=cY g10
  rw [List.length_map,Array.length_toList] at this
  exact this
 have hmk:7≤t.mask:=by
  have q:=g4
  simp only [e8,Bool.or_eq_true,beq_iff_eq] at q
  omega
 have hfit:t.fits es.size=true:=fits_of g5 (by rw [g8,lks];simpa using lpl) (by omega)
 have hel:ElemsOf (intKind prog w) es.toList:=fun e he=>by
  obtain ⟨k',e1,e2⟩:=g11 e he
  refine ⟨⟨k',e1,e2⟩,?_⟩
  obtain ⟨t',e'⟩:=Value.isInt_shape e1
  rw [e'];rfl
 have hint:(intKind prog w).is k (.int k tk)=true:=iB (k:=k) (t:=tk)
 unfold setAdd
 refine wpAny_holding (wpAny_bind ((intKind prog w).pyHash (k:=k) (v:=.int k tk) hint ?_))
 unfold setAddHashed
 refine wpAny_holding ?_
 show wpAny _ _ (setAddHashedIn a (.int k tk) _ (99999+1)) _ _ _
 rw [setAddHashedIn.eq_2]
 refine wpAny_bind (wpAny_setState_of g1 g3 hfit ?_)
 show wpAny _ _ (if byScan (.int k tk) es=true then _ else _) _ _ _
 rw [if_pos (byScan_of (knd:=intKind prog w) rfl (by unfold scanBound;omega) hel)]
 refine wpAny_bind ?_
 unfold setAddByScan
 refine wpAny_bind (wpAny_rule (wpAny_bind (wpAny_setScan_of (knd:=intKind prog w) (k:=k) hint g1 g3 hfit hel ?_)))
 have hfi:=k_ (k:=k) g10
 by_cases hm:k∈ks
 ·have hs:=hfi.mp hm
  cases hf:List.findIdx? (fun e=>(intKind prog w).is k e.snd) es.toList with
  | none=>
   have hf':List.findIdx? (fun e:Int×Value=>Value.isInt k e.2) es.toList=none:=hf
   rw [hf'] at hs;cases hs
  | some j=>
   refine wpAny_pure (wpAny_pure ?_)
   exact h s.heap ks false (Heap.SameBut.refl ..) ⟨o,es,ep,t,pl,g1,g2,g3,g4,g5,g6,g7,g8,⟨g9,lpl,g14⟩,g10,g11,g12,g13⟩ (fun x=>⟨.inl,fun z=>z.elim id fun e=>e ▸ hm⟩) (fun _=>rfl) (fun z=>absurd hm z)
 ·have hl3:=hl hm
  have hnone:List.findIdx? (fun e=>(intKind prog w).is k e.snd) es.toList=none:=by
   have hf':List.findIdx? (fun e:Int×Value=>Value.isInt k e.2) es.toList=none:=by
    cases hf:List.findIdx? (fun e:Int×Value=>Value.isInt k e.2) es.toList with
    | none=>rfl
    | some j=>exact absurd (hfi.mpr (by rw [hf];rfl)) hm
   exact hf'
  rw [hnone]
  obtain ⟨j,hfree,hjl⟩:=vU g8 g9 g5 hmask (show pl.length≤t.mask by omega) (hashInt k)
  obtain ⟨p,hple,hpb,hpa,hpc⟩:=wd g9 j
  have hp:SetTable.below pl.toArray j=p:=hpb
  have les0:es.size=pl.length:=by omega
  have riN:Ri (pl.take p++j :: pl.drop p):=wY g9 hjl hpa hpc
  have liN:(SetTable.insertAt pl.toArray p j).toList=pl.take p++j :: pl.drop p:=by
   have:=kb pl.toArray p j (by simpa using hple)
   simpa using this
  refine show _ from ?_
  ·have hput:t.put j=({ mask:=t.mask,place:=SetTable.insertAt t.place p j,dummies:=#[],finger:=t.finger,led:=t.led,moves:=t.moves,plain:=t.plain },p):=by
    unfold SetTable.put
    rw [g8,hp,g5]
    rfl
   generalize ht':({ mask:=t.mask,place:=SetTable.insertAt t.place p j,dummies:=#[],finger:=t.finger,led:=t.led,moves:=t.moves,plain:=t.plain }:SetTable)=t' at hput
   have m1:t'.mask=t.mask:=by rw [← ht']
   have m2:t'.dummies=#[]:=by rw [← ht']
   have m3:t'.plain=true:=by rw [← ht'];exact g6
   have m4:t'.led=!(w.params.followText "set-order"):=by rw [← ht'];exact g7
   have m5:t'.place=(pl.take p++j :: pl.drop p).toArray:=by rw [← ht',g8,← liN]
   have lpl':(pl.take p++j :: pl.drop p).length=ks.length+1:=by simp;omega
   have les:(SetTable.insertAt es p (hashInt k,Value.int k tk)).toList=es.toList.take p++(hashInt k,Value.int k tk) :: es.toList.drop p:=kb _ _ _ (by omega)
   generalize hes:SetTable.insertAt es p (hashInt k,Value.int k tk)=es' at les
   have lsz:es'.size=ks.length+1:=by
    rw [← Array.length_toList,les]
    simp
    omega
   have hfit':t'.fits es'.size=true:=fits_of m2 (by rw [m5,lsz];simpa using lpl') (by omega)
   have hlay:layNew t es (hashInt k) (.int k tk)=(es',t',false,false):=by
    unfold layNew
    rw [hfree]
    simp only [hput,hes]
    unfold SetTable.orStandIn
    rw [if_pos hfit',hfit']
    rfl
   have hlay2:layNew t es ((intKind prog w).hash k) (.int k tk)=(es',t',false,false):=hlay
   rw [hlay2]
   dsimp only
   refine wpAny_bind (wpAny_pure ?_)
   rw [if_pos m3,hashByValue_scannable 8 (x:=.int k tk) rfl]
   refine wpAny_bind (wpAny_pure ?_)
   have hpk:plainKind (Value.int k tk)=true:=rfl
   rw [if_pos hpk]
   have h1000:(1000:Nat)≤sizeLine:=Nat.le_of_lt (dA (Nat.le_refl 1000))
   have hsz:¬es'.size > sizeLine:=by rw [lsz];omega
   have i1:IntsAre (es'.toList.map Prod.snd) (ks.take p++k :: ks.drop p):=by
    rw [les,List.map_append,List.map_cons,List.map_take,List.map_drop]
    exact IntsAre.app (IntsAre.zV p g10) (.cons k tk (IntsAre.zR p g10))
   have i2:∀ e∈es'.toList,∃ k,Value.isInt k e.2=true∧e.1=hashInt k:=by
    intro e he
    rw [les] at he
    rcases List.mem_append.mp he with z | z
    ·exact g11 e (List.mem_of_mem_take z)
    ·rcases List.mem_cons.mp z with z | z
     ·rw [z];exact ⟨k,iB,rfl⟩
     ·exact g11 e (List.mem_of_mem_drop z)
   have hperm:List.Perm (ks.take p++k :: ks.drop p) (k :: ks):=by
    have:=List.perm_middle (a:=k) (l₁:=ks.take p) (l₂:=ks.drop p)
    rw [List.take_append_drop] at this
    exact this
   have kl:(ks.take p++k :: ks.drop p).length=ks.length+1:=by rw [hperm.length_eq];rfl
   have i3:(ks.take p++k :: ks.drop p).Nodup:=by
    rw [hperm.nodup_iff,List.nodup_cons]
    exact ⟨hm,g12⟩
   have i4:∀ x,x∈ks.take p++k :: ks.drop p↔x∈ks∨x=k:=by
    intro x
    rw [hperm.mem_iff,List.mem_cons]
    exact or_comm
   generalize hks:ks.take p++k :: ks.drop p=ks' at i1 kl i3 i4
   have hfill:t'.fill=ks.length+1:=by
    unfold SetTable.fill
    rw [m2,m5]
    simp only [List.size_toArray,lpl']
    rfl
   have b7:∀ (e2:Array (Int×Value)) (t2:SetTable) (o2:Obj) (e1:Array (Int×Value)) (n1:Nat) (t1:SetTable),o2.data=.set e1 n1 t1→Obj.putSet e2 t2 o2={ o2 with data:=.set e2 (n1+1) t2 }:=by
    intro e2 t2 o2 e1 n1 t1 hd
    obtain ⟨oc,od,oda,osl⟩:=o2
    have hd':oda=.set e1 n1 t1:=hd
    subst hd'
    rfl
   refine wpAny_bind ?_
   unfold storeSet
   refine wpAny_bind (wpAny_load' g1 ?_)
   rw [g3]
   dsimp only
   rw [if_neg hsz]
   refine wpAny_update' g1 ?_
   have hupd:=b7 es' t' o es ep t g3
   have gN:(s.heap.update a (Obj.putSet es' t')).get? a=some { o with data:=.set es' (ep+1) t' }:=by
    rw [← hupd]
    exact Heap.get?_update_self _ g1 (by rw [hupd];rfl)
   have sbN:Heap.SameBut a s.heap (s.heap.update a (Obj.putSet es' t')):=Heap.SameBut.update ..
   by_cases hfull:(ks.length+1) * 5 < t.mask * 3
   ·have hf0:(!false && t'.tooFull)=false:=by
     unfold SetTable.tooFull
     rw [hfill,m1]
     simp
     omega
    rw [hf0]
    rw [if_neg (by simp)]
    refine wpAny_pure (wpAny_pure ?_)
    exact h _ ks' true sbN ⟨_,es',ep+1,t',_,gN,g2,rfl,by rw [m1];exact g4,m2,m3,m4,m5,⟨riN,by rw [lpl',kl],by rw [kl,m1];exact hfull⟩,i1,i2,i3,by omega⟩ i4 (fun z=>absurd z hm) (fun _=>kl)
   ·have hf1:(!false && t'.tooFull)=true:=by
     unfold SetTable.tooFull
     rw [hfill,m1]
     simp
     omega
    rw [hf1]
    rw [if_pos rfl]
    obtain ⟨w1,w2⟩:=yR (t':=t') (es':=es') (n:=ks.length+1) (by rw [m1];exact g4) lsz (by rw [m1];exact hfull) (by rw [m1];omega) (by omega)
    rw [lsz]
    obtain ⟨e2,t2,l2,r1,r2,r3,r4,r5,r6,r7,r8,r9⟩:=zh (t:=t') (es:=es') (wanted:=SetTable.grown (ks.length+1)) (tS w1) (by rw [lsz];omega)
    rw [r1]
    dsimp only
    have lsz2:e2.size=ks.length+1:=by rw [← Array.length_toList,r2.length_eq,Array.length_toList,lsz]
    obtain ⟨ks2,j1,j2⟩:=pw (r2.map Prod.snd) i1
    refine wpAny_bind (wpAny_pure ?_)
    refine wpAny_bind ?_
    refine wpAny_bind (wpAny_load' gN ?_)
    dsimp only
    rw [if_neg (by rw [lsz2];omega)]
    refine wpAny_update' gN ?_
    refine wpAny_pure (wpAny_pure ?_)
    have gM:((s.heap.update a (Obj.putSet es' t')).update a (Obj.putSet e2 t2)).get? a=some { o with data:=.set e2 (ep+1+1) t2 }:=by
     have hq:=b7 e2 t2 { o with data:=.set es' (ep+1) t' } es' (ep+1) t' rfl
     rw [← hq]
     exact Heap.get?_update_self _ gN (by rw [hq];rfl)
    refine h _ ks2 true (sbN.trans (Heap.SameBut.update ..)) ⟨_,e2,ep+1+1,t2,l2,gM,g2,rfl,by rw [r7];exact w1,r6,by rw [r8];exact m3,by rw [r9];exact m4,r3,⟨r4,by rw [r5,lsz,j2.length_eq,kl],by rw [r7,j2.length_eq,kl];exact w2⟩,j1,fun e he=>i2 e (r2.mem_iff.mp he),j2.nodup_iff.mpr i3,by rw [j2.length_eq,kl];omega⟩ (fun x=>by rw [j2.mem_iff];exact i4 x) (fun z=>absurd z hm) (fun _=>by rw [j2.length_eq,kl])
end
section
variable {prog:Program} {w:World} {A:Around} {E:Value→Shared→Prop} {s:Shared}
theorem iU.at {h h':Heap} {S:Addr} {ks:List Int} (H:iU w h S ks) (k:∀ o,h.get? S=some o→h'.get? S=some o):iU w h' S ks:=by
 obtain ⟨o,es,ep,t,pl,g1,r⟩:=H
 exact ⟨o,es,ep,t,pl,k o g1,r⟩
theorem oV {R:Result→Shared→Prop} {I:Addr} {fp wr:List Addr} {n:Nat} {P:Nat→Value→Prop} {St:Nat→Heap→Prop} (W:Walks prog w A.in1 I fp wr n P St) (S:Addr) (hSf:S∉fp) (val:Nat→Int) (hval:∀ i v,P i v→∃ t,v=Value.int (val i) t) (hn:n≤300) :
  ∀ (k i:Nat) (s:Shared) (ks:List Int),n - i=k→i≤n→St i s.heap→iU w s.heap S ks→(∀ x,x∈ks↔∃ j,j < i∧val j=x)→ks.length≤i →
   (∀ (h':Heap) (tk:Nat) (ks':List Int),(∀ b o,b≠S→b∉wr→s.heap.get? b=some o→h'.get? b=some o)→iU w h' S ks'→(∀ x,x∈ks'↔∃ j,j < n∧val j=x)→R (.ok (.ret .none)) { s with heap:=h',toks:=tk }) →
   codeAny (model prog w) A (Code.builtin "set.update.loop" ⟨[.ref S,.ref I],[]⟩) R s:=by
 have hSw:S∉wr:=fun h=>hSf (W.sub S h)
 intro k
 induction k with
 | zero=>
  intro i s ks hk hi hst hS hks hlen hR
  have hin:i=n:=by omega
  subst hin
  refine codeAny_builtin F.entry_set_update_loop ?_
  rw [Around.under_plainId F.plain_set_update_loop]
  refine (show wpAny _ _ (pyNext (.ref I)>>=_) _ _ _ from wpAny_bind (W.done s _ _ hst fun h' tk hk'=>?_))
  exact wpAny_pure (hR h' tk ks (fun b o _ hw e=>hk' b o hw e) (hS.at fun o e=>hk' S o hSw e) hks)
 | succ k ih=>
  intro i s ks hk hi hst hS hks hlen hR
  refine codeAny_builtin F.entry_set_update_loop ?_
  rw [Around.under_plainId F.plain_set_update_loop]
  refine (show wpAny _ _ (pyNext (.ref I)>>=_) _ _ _ from wpAny_bind (W.item i s _ _ (by omega) hst fun v h' tk hP hst' hk'=>?_))
  obtain ⟨t,rfl⟩:=hval i v hP
  refine (show wpAny _ _ (holding [Value.int (val i) t] (setAdd S (.int (val i) t))>>=_) _ _ _ from wpAny_bind (wpAny_holding ?_))
  refine yG (s:={ s with heap:=h',toks:=tk }) (hS.at fun o e=>hk' S o hSw e) (fun _=>by omega) fun h2 ks2 b sb hS2 hm l1 l2=>?_
  refine wpAny_pure ⟨plainId_quiet F.plain_set_update_loop _,ih (i+1) _ ks2 (by omega) (by omega) ?_ hS2 ?_ ?_ fun h3 tk3 ks3 q1 q2 q3=>?_⟩
  ·exact W.frame _ _ _ hst' fun b hb' o e=>sb.extBut b o (fun z=>hSf (z ▸ hb')) e
  ·intro x
   rw [hm,hks]
   constructor
   ·rintro (⟨j,h1,h2⟩ | rfl)
    ·exact ⟨j,by omega,h2⟩
    ·exact ⟨i,by omega,rfl⟩
   ·rintro ⟨j,h1,h2⟩
    by_cases e:j=i
    ·subst e;exact .inr h2.symm
    ·exact .inl ⟨j,by omega,h2⟩
  ·by_cases hin:val i∈ks
   ·have:=l1 hin;omega
   ·have:=l2 hin;omega
  ·exact hR h3 tk3 ks3 (fun b o hb1 hb2 e=>q1 b o hb1 hb2 (sb.extBut b o hb1 (hk' b o hb2 e))) q2 q3
theorem pA (a:Value) {Q₁:Value→Shared→Prop}
  (h:Q₁ (.ref s.heap.objs.size) { s with heap:=s.heap.push { cls:=.type "set",data:=.set #[] 0 (SetTable.fresh 0 0 (!(w.params.followText "set-order"))) } }) :
  codeAny (model prog w) A (Code.call (.builtin "set.__new__") ⟨[.type "set",a],[]⟩) (wants Q₁ E) s:=by
 refine codeAny_of_tree ?_
 refine (show wpAny _ _ (checkBuiltinCall "set.__new__" ⟨[.type "set",a],[]⟩>>=_) _ _ _ from wpAny_bind (wpAny_of_eq (F.newCall_set_1 a) (wpAny_pure ⟨plainId_quiet F.plain_set_new _,codeAny_builtin F.entry_set_new ?_⟩)))
 rw [Around.under_plainId F.plain_set_new]
 have hsub:=sub_set_self
 refine (show wpAny _ _ (Builtin.Frozenset.newClass "set" _>>=_) _ _ _ from wpAny_bind ?_)
 unfold Builtin.Frozenset.newClass
 refine wpAny_bind (wpAny_pure ?_)
 refine wpAny_ite_false rfl (wpAny_bind (wpAny_of_eq hsub (wpAny_ite_false rfl (wpAny_pure ?_))))
 refine (show wpAny _ _ (newSet (.type "set")>>=_) _ _ _ from wpAny_bind ?_)
 unfold newSet
 refine wpAny_bind ?_
 unfold setsByText
 refine wpAny_bind (wpAny_askSetting (wpAny_pure ?_))
 exact (show wpAny _ _ (newObj (.type "set") (Data.set #[] 0 (SetTable.fresh 0 0 (!(w.params.followText "set-order"))))) _ _ _ from wpAny_newObj_type (wpAny_pure h) (by first | size_fits | (intro _;decide)))
theorem iV:∀ {vs:List Value} {ns:List Int} {i:Nat} {v:Value},IntsAre vs ns→vs[i]?=some v→∃ t,v=Value.int (ns.getD i 0) t
 | _,_,_,_,.nil,e=>by simp at e
 | _,_,0,_,.cons n t _,e=>⟨t,by simpa using e.symm⟩
 | _,_,i+1,v,.cons n t r,e=>by
  obtain ⟨t',e'⟩:=iV (i:=i) (v:=v) r (by simpa using e)
  exact ⟨t',by simpa using e'⟩
def rQ (h:Heap) (l:Addr) (items:Array Value) (k:Bool):Prop:=if k=true then h.IsList l items else h.IsTuple l items
theorem vD {S l:Addr} {items:Array Value} {ns:List Int} {F:PySem.Fin→Shared→Prop} {hp:Heap} {g:Array GenState} {d:Drawn} {tk:Nat} {os:OsState} (hh:A.handled=none) (hS:hp.get? S=some { cls:=.type "set",data:=.set #[] 0 (SetTable.fresh 0 0 (!(w.params.followText "set-order"))) }) (k:Bool) (hl:rQ hp l items k) (hi:IntsAre items.toList ns) (hn:ns.length≤300)
    (h:∀ (h':Heap) (tk':Nat) (ks:List Int),iU w h' S ks→(∀ x,x∈ks↔x∈ns)→(∀ b o,b≠S→hp.get? b=some o→h'.get? b=some o)→F (.done (.ret .none)) ⟨h',g,d,tk',os⟩) :
    wpAny (model prog w) A (Builtin.«set.__init__» ⟨[.ref S,.ref l],[]⟩) F E ⟨hp,g,d,tk,os⟩:=by
  cases k with
  | false=>
    replace hl:hp.IsTuple l items:=hl
    have hT:Shared.TypeIs ⟨hp,g,d,tk,os⟩ (.ref S) "set":=⟨_,hS,rfl⟩
    have hTt:Shared.TypeIs ⟨hp,g,d,tk,os⟩ (.ref l) "tuple":=hl.typeIs
    unfold Builtin.«set.__init__»
    refine wpAny_bind ?_
    unfold noKeywords
    refine wpAny_ite_true rfl (wpAny_pure ?_)
    dsimp only
    refine wpAny_bind ?_
    unfold typeNameOfCut
    refine wpAny_bind ?_
    unfold shownTypeOf
    refine wpAny_bind (wpAny_typeOf hT ?_)
    first
    | refine wpAny_ite_false rfl (wpAny_pure ?_)
    | refine wpAny_pure ?_
    refine (show wpAny _ _ (pure _) _ _ _ from wpAny_pure ?_)
    refine wpAny_bind ?_
    unfold checkCount
    refine wpAny_ite_false rfl (wpAny_ite_false rfl (wpAny_ite_false rfl (wpAny_pure ?_)))
    refine wpAny_bind (wpAny_pure ?_)
    refine wpAny_bind ?_
    unfold setUsed
    refine wpAny_bind (wpAny_setState_of hS rfl (by rfl) (wpAny_pure ?_))
    refine wpAny_ite_false rfl ?_
    refine wpAny_bind ?_
    unfold Builtin.Frozenset.updateFrom
    refine wpAny_bind ?_
    unfold Builtin.Frozenset.isAnySet
    refine (show wpAny _ _ (isInstance (.ref l) (.type "set")>>=_) _ _ _ from wpAny_bind (wpAny_isInstance hTt PySem.F.sub_tuple_set ?_))
    refine (show wpAny _ _ (isInstance (.ref l) (.type "frozenset")) _ _ _ from wpAny_isInstance hTt PySem.F.sub_tuple_frozenset ?_)
    refine wpAny_ite_false rfl (wpAny_bind (wpAny_typeOf hTt (wpAny_ite_false rfl (wpAny_bind (wpAny_pyIter_tuple hl ?_)))))
    refine wpAny_bind (wpAny_runValue ?_)
    have hlt:S < hp.objs.size:=Heap.lt_size hS
    obtain ⟨o,ho,hor⟩:=hl
    have hlt2:l < hp.objs.size:=Heap.lt_size ho
    have hne:l≠hp.objs.size:=Nat.ne_of_lt hlt2
    have W:=Walks.tuple (prog:=prog) (w:=w) (A:=A.in1) hh hp.objs.size l hne items
    have lit:items.size=ns.length:=by rw [← Array.length_toList];exact cY hi
    have hSl:S≠l:=fun e=>by
      rw [e,ho] at hS
      cases hS
      exact absurd (Value.type.inj hor.1) (by decide)
    refine oV W S (by simp only [List.mem_cons,List.not_mem_nil,or_false,not_or];exact ⟨Nat.ne_of_lt hlt,hSl⟩) (fun i=>ns.getD i 0) ?_ (by omega) items.size 0 _ [] (by omega) (Nat.zero_le _) ?_ ?_ ?_ (Nat.le_refl 0) ?_
    · intro i v hv
      exact iV hi (by simpa using hv)
    · exact ⟨⟨_,Heap.get?_push_size _ rfl,rfl,rfl⟩,⟨o,Heap.get?_push_of_some _ ho,hor⟩⟩
    · refine ⟨_,#[],0,_,[],Heap.get?_push_of_some _ hS,⟨rfl,rfl,rfl⟩,rfl,(show e8 7=true by decide),rfl,rfl,rfl,rfl,⟨List.Pairwise.nil,rfl,(show 0 * 5 < 7 * 3 by decide)⟩,.nil,by simp,List.nodup_nil,by simp⟩
    · intro x
      simp
    · intro h' tk' ks' q1 q2 q3
      refine wpAny_pure (wpAny_pure (h h' tk' ks' q2 ?_ ?_))
      · intro x
        rw [q3]
        constructor
        · rintro ⟨j,hj,rfl⟩
          show ns.getD j 0∈ns
          rw [List.getD_eq_getElem?_getD,List.getElem?_eq_getElem (show j < ns.length by omega)]
          exact List.getElem_mem _
        · intro hx
          obtain ⟨j,hj,e⟩:=List.mem_iff_getElem.mp hx
          refine ⟨j,by omega,?_⟩
          show ns.getD j 0=x
          rw [List.getD_eq_getElem?_getD,List.getElem?_eq_getElem hj]
          exact e
      · intro b o' hbS e
        refine q1 b o' hbS ?_ (Heap.get?_push_of_some _ e)
        simp only [List.mem_singleton]
        exact Nat.ne_of_lt (Heap.lt_size e)
  | true=>
    replace hl:hp.IsList l items:=hl
    have hT:Shared.TypeIs ⟨hp,g,d,tk,os⟩ (.ref S) "set":=⟨_,hS,rfl⟩
    have hTt:Shared.TypeIs ⟨hp,g,d,tk,os⟩ (.ref l) "list":=hl.typeIs
    unfold Builtin.«set.__init__»
    refine wpAny_bind ?_
    unfold noKeywords
    refine wpAny_ite_true rfl (wpAny_pure ?_)
    dsimp only
    refine wpAny_bind ?_
    unfold typeNameOfCut
    refine wpAny_bind ?_
    unfold shownTypeOf
    refine wpAny_bind (wpAny_typeOf hT ?_)
    first
    | refine wpAny_ite_false rfl (wpAny_pure ?_)
    | refine wpAny_pure ?_
    refine (show wpAny _ _ (pure _) _ _ _ from wpAny_pure ?_)
    refine wpAny_bind ?_
    unfold checkCount
    refine wpAny_ite_false rfl (wpAny_ite_false rfl (wpAny_ite_false rfl (wpAny_pure ?_)))
    refine wpAny_bind (wpAny_pure ?_)
    refine wpAny_bind ?_
    unfold setUsed
    refine wpAny_bind (wpAny_setState_of hS rfl (by rfl) (wpAny_pure ?_))
    refine wpAny_ite_false rfl ?_
    refine wpAny_bind ?_
    unfold Builtin.Frozenset.updateFrom
    refine wpAny_bind ?_
    unfold Builtin.Frozenset.isAnySet
    refine (show wpAny _ _ (isInstance (.ref l) (.type "set")>>=_) _ _ _ from wpAny_bind (wpAny_isInstance hTt PySem.F.sub_list_set ?_))
    refine (show wpAny _ _ (isInstance (.ref l) (.type "frozenset")) _ _ _ from wpAny_isInstance hTt PySem.F.sub_list_frozenset ?_)
    refine wpAny_ite_false rfl (wpAny_bind (wpAny_typeOf hTt (wpAny_ite_false rfl (wpAny_bind (wpAny_pyIter_list hl ?_)))))
    refine wpAny_bind (wpAny_runValue ?_)
    have hlt:S < hp.objs.size:=Heap.lt_size hS
    obtain ⟨o,ho,hor⟩:=hl
    have hlt2:l < hp.objs.size:=Heap.lt_size ho
    have hne:l≠hp.objs.size:=Nat.ne_of_lt hlt2
    have W:=Walks.list (prog:=prog) (w:=w) (A:=A.in1) hh hp.objs.size l hne items
    have lit:items.size=ns.length:=by rw [← Array.length_toList];exact cY hi
    have hSl:S≠l:=fun e=>by
      rw [e,ho] at hS
      cases hS
      exact absurd (Value.type.inj hor.1) (by decide)
    refine oV W S (by simp only [List.mem_cons,List.not_mem_nil,or_false,not_or];exact ⟨Nat.ne_of_lt hlt,hSl⟩) (fun i=>ns.getD i 0) ?_ (by omega) items.size 0 _ [] (by omega) (Nat.zero_le _) ?_ ?_ ?_ (Nat.le_refl 0) ?_
    · intro i v hv
      exact iV hi (by simpa using hv)
    · exact ⟨⟨_,Heap.get?_push_size _ rfl,rfl,rfl⟩,⟨o,Heap.get?_push_of_some _ ho,hor⟩⟩
    · refine ⟨_,#[],0,_,[],Heap.get?_push_of_some _ hS,⟨rfl,rfl,rfl⟩,rfl,(show e8 7=true by decide),rfl,rfl,rfl,rfl,⟨List.Pairwise.nil,rfl,(show 0 * 5 < 7 * 3 by decide)⟩,.nil,by simp,List.nodup_nil,by simp⟩
    · intro x
      simp
    · intro h' tk' ks' q1 q2 q3
      refine wpAny_pure (wpAny_pure (h h' tk' ks' q2 ?_ ?_))
      · intro x
        rw [q3]
        constructor
        · rintro ⟨j,hj,rfl⟩
          show ns.getD j 0∈ns
          rw [List.getD_eq_getElem?_getD,List.getElem?_eq_getElem (show j < ns.length by omega)]
          exact List.getElem_mem _
        · intro hx
          obtain ⟨j,hj,e⟩:=List.mem_iff_getElem.mp hx
          refine ⟨j,by omega,?_⟩
          show ns.getD j 0=x
          rw [List.getD_eq_getElem?_getD,List.getElem?_eq_getElem hj]
          exact e
      · intro b o' hbS e
        refine q1 b o' hbS ?_ (Heap.get?_push_of_some _ e)
        simp only [List.mem_singleton]
        exact Nat.ne_of_lt (Heap.lt_size e)
theorem ph {l:Addr} {items:Array Value} {ns:List Int} {Q:Value→Shared→Prop} (hh:A.handled=none) (k:Bool) (hl:rQ s.heap l items k) (hi:IntsAre items.toList ns) (hn:ns.length≤300)
  (h:∀ (h':Heap) (tk:Nat) (ks:List Int),iU w h' s.heap.objs.size ks→(∀ x,x∈ks↔x∈ns)→(∀ b o,s.heap.get? b=some o→h'.get? b=some o)→Q (.ref s.heap.objs.size) { s with heap:=h',toks:=tk }):wpAny (model prog w) A (call (.type "set") [.ref l]) Q E s:=by
 obtain ⟨c,tl,hmro⟩:=F.called_set.mro
 have hmade:=F.called_set.made
 have hsub:=F.called_set.sub
 have h1:=F.called_set.notType
 have h2:=F.called_set.canCreate
 have hct:=F.typeCall_set_1 (Value.ref l)
 refine wpAny_call (codeAny_of_tree ?_)
 refine (show wpAny _ _ (pure (Fin.again (Code.builtin "type.__call__" ⟨[.type "set",.ref l],[]⟩))) _ _ _ from wpAny_pure ⟨Code.quiet_builtin _ (by decide +kernel),codeAny_builtin F.entry_type_call ?_⟩)
 rw [Around.under_plain (weight_type_call_type "set" [Value.ref l] []) rfl]
 unfold Builtin.«type.__call__»
 dsimp only
 refine wpAny_ite_false rfl (wpAny_ite_false (by rw [h2];rfl) (wpAny_bind (wpAny_of_eq hct (wpAny_bind (wpAny_of_eq hmro (wpAny_ite_false rfl (wpAny_bind (wpAny_of_eq hmade ?_))))))))
 dsimp only
 refine wpAny_bind (wpAny_pure (wpAny_bind (wpAny_holding (wpAny_call (codeAny_mono (pA (E:=fun _ _=>False) (Q₁:=fun obj s₁=>obj=.ref s.heap.objs.size∧s₁={ s with heap:=s.heap.push { cls:=.type "set",data:=.set #[] 0 (SetTable.fresh 0 0 (!(w.params.followText "set-order"))) } }) (.ref l) ⟨rfl,rfl⟩) fun r s₁ hr=>?_)))))
 generalize hs1:({ s with heap:=s.heap.push { cls:=.type "set",data:=.set #[] 0 (SetTable.fresh 0 0 (!(w.params.followText "set-order"))) } }:Shared)=sN at hr
 cases r with
 | error e=>exact False.elim hr
 | ok f=>
  cases f with
  | ret v=>
   obtain ⟨e1,e2⟩:=hr
   subst e1 e2
   have hT:Shared.TypeIs s₁ (.ref s.heap.objs.size) "set":=by
    rw [← hs1]
    exact ⟨_,Heap.get?_push_size _ rfl,rfl⟩
   show wpAny _ _ _ _ _ _
   refine wpAny_bind (wpAny_isInstance (T:="set") (b:=true) hT hsub ?_)
   refine wpAny_ite_false rfl (wpAny_bind (wpAny_holding ?_))
   refine wpAny_callSpecial?_slot (name:=Str.ofString "__init__") hT F.called_set.init (wpAny_call (codeAny_call_builtin F.called_set.init.plain F.entry_set_init (check_set_init_1 hT ?_)))
   subst hs1
   obtain ⟨hp,g,d,tk,os⟩:=s
   refine vD (hp:=hp.push _) hh (Heap.get?_push_size _ rfl) k (by
    cases k with
    | false=>
     obtain ⟨o,e,r⟩:=(show Heap.IsTuple _ l items from hl)
     exact (show Heap.IsTuple _ l items from ⟨o,Heap.get?_push_of_some _ e,r⟩)
    | true=>
     obtain ⟨o,e,r⟩:=(show Heap.IsList _ l items from hl)
     exact (show Heap.IsList _ l items from ⟨o,Heap.get?_push_of_some _ e,r⟩)) hi hn fun h' tk' ks q1 q2 q3=>?_
   refine wpAny_ite_false rfl (wpAny_pure (h h' tk' ks q1 q2 fun b o e=>q3 b o (Nat.ne_of_lt (Heap.lt_size e)) (Heap.get?_push_of_some _ e)))
  | _=>exact False.elim hr
end
theorem bx:Slot "set_iterator" (Str.ofString "__next__") "set_iterator.__next__":=
 Slot.of (owner:="set_iterator") (n:="__next__") (by rw [typeLookup_type,builtinLookup_eq_fast];rfl) (by decide +kernel) (by decide +kernel) (by decide +kernel) (Or.inl (by decide +kernel)) (by rw [isSubtype_type];rfl) (by decide +kernel)
theorem dW:entryFor table "set_iterator.__next__"=some Builtin.«set_iterator.__next__»:=entryFor_of_tree (by rfl)
theorem nY:entryFor table "set.__iter__"=some Builtin.«frozenset.__iter__»:=entryFor_alias (id':="frozenset.__iter__") (by rfl) (by decide +kernel) (by decide +kernel) (by rfl)
theorem fN:List.lookup (String.ofList "set_iterator".toList) Manifest.owners=some Manifest.sig_set_iterator:=by rfl
theorem d6 (a:Value):argsOk "set_iterator.__next__" ⟨[a],[]⟩:=by
 have h:Manifest.signature? "set_iterator.__next__"=List.lookup (String.ofList (['_','_','t','x','e','n','_','_']:List Char).reverse) Manifest.sig_set_iterator:=signature?_of (o:=['r','o','t','a','r','e','t','i','_','t','e','s']) (by decide +kernel) fN
 unfold argsOk
 rw [h]
 rfl
theorem xJ {prog:Program} {w:World} {A:Around} {E:Value→Shared→Prop} {s:Shared} {r:Addr} {Q:Bool→Shared→Prop} (hT:s.TypeIs (.ref r) "set") (h:Q false s):wpAny (model prog w) A (Builtin.List.listLengthHint (.ref r)) Q E s:=by
 unfold Builtin.List.listLengthHint
 refine wpAny_bind (wpAny_specialOf hT F.slot_set_len.lookup ?_)
 dsimp only
 rw [show splitId "set.__len__"=some ("set","__len__") by decide +kernel]
 dsimp only
 refine wpAny_bind (wpAny_isInstance hT F.called_set.sub (wpAny_ite_false rfl ?_))
 refine wpAny_ite_true rfl (wpAny_bind (wpAny_typeOf hT ?_))
 exact wpAny_pure h
theorem ju {α:Type}:∀ (l:List α) (k:Nat) (h:k < l.length),List.Perm (l[k] :: l.eraseIdx k) l
 | x :: l,0,_=>by simp
 | x :: l,k+1,h=>by
  have hk:k < l.length:=by simpa using h
  have ih:=ju l k hk
  simp only [List.getElem_cons_succ,List.eraseIdx_cons_succ]
  exact (List.Perm.swap ..).trans (List.Perm.cons x ih)
theorem tW {α:Type} (next:Nat→Nat):∀ (fuel a:Nat) (l:List α) (acc:Array α),fuel=l.length→List.Perm (pickOrder.go next fuel a l acc).toList (acc.toList++l)
 | 0,a,l,acc,h=>by
  have:l=[]:=List.eq_nil_of_length_eq_zero h.symm
  subst this
  rw [pickOrder.go.eq_1,List.append_nil]
 | fuel+1,a,l,acc,h=>by
  rw [pickOrder.go.eq_2]
  have hlt:next a % l.length < l.length:=Nat.mod_lt _ (by omega)
  rw [List.getElem?_eq_getElem hlt]
  refine (tW next fuel (a+1) (l.eraseIdx (next a % l.length)) (acc.push l[next a % l.length]) (by rw [List.length_eraseIdx_of_lt hlt];omega)).trans ?_
  rw [Array.toList_push,List.append_assoc]
  refine List.Perm.append_left _ ?_
  rw [List.singleton_append]
  exact ju l _ hlt
theorem vQ {α:Type} (next:Nat→Nat) (xs:Array α):List.Perm (pickOrder next xs).toList xs.toList:=by
 unfold pickOrder
 have:=tW next xs.size 0 xs.toList #[] (by simp)
 simpa using this
section
variable {prog:Program} {w:World} {A:Around} {E:Value→Shared→Prop} {s:Shared}
abbrev d8 (w:World):Bool:=w.params.followText "set-order"
def orderOf (w:World) (S:Addr) (ep:Nat) (es:Array (Int×Value)):Array (Int×Value):=if d8 w=true then pickOrder (w.params.setOrder S ep) es else es
theorem nQ (w:World) (S:Addr) (ep:Nat) (es:Array (Int×Value)):List.Perm (orderOf w S ep es).toList es.toList:=by
 unfold orderOf
 split
 ·exact vQ _ _
 ·exact List.Perm.refl _
def slotAt (w:World) (pl:List Nat):Nat→Nat
 | 0=>0
 | i+1=>if d8 w=true then 0 else pl.getD i 0+1
structure gW (w:World) (o:Obj) (es:Array (Int×Value)) (ep:Nat) (t:SetTable) (pl:List Nat):Prop where
 dat:o.data=.set es ep t
 cls:o.cls=.type "set"
 dum:t.dummies=#[]
 plain:t.plain=true
 led:t.led=!d8 w
 place:t.place=pl.toArray
 ri:ZS.Ri pl
 lpl:pl.length=es.size
 room:es.size≤t.mask
 few:es.size≤300
def jQ (w:World) (S:Addr) (es:Array (Int×Value)) (ep:Nat) (pl:List Nat) (i:Nat):Obj:={ cls:=.type "set_iterator",data:=.fields #[rawInt (slotAt w pl i:Nat),rawInt (i:Nat),.ref S,rawInt (es.size:Nat),rawInt (ep:Nat)] }
theorem gW.fits {o:Obj} {es:Array (Int×Value)} {ep:Nat} {t:SetTable} {pl:List Nat} (H:gW w o es ep t pl):t.fits es.size=true:=
 fits_of H.dum (by rw [H.place];simpa using H.lpl) H.room
theorem u9 {pl:List Nat} {i:Nat} (h:ZS.Ri pl) (hi:i≤pl.length) (hw:d8 w=false):SetTable.below pl.toArray (slotAt w pl i)=i:=by
 cases i with
 | zero=>exact ZS.t_
 | succ i=>
  show SetTable.below pl.toArray (if d8 w=true then 0 else pl.getD i 0+1)=i+1
  rw [hw,if_neg (by simp),List.getD_eq_getElem?_getD,List.getElem?_eq_getElem (show i < pl.length by omega)]
  exact (ZS.pj h (by omega)).1
theorem rE {S:Addr} {o:Obj} {es:Array (Int×Value)} {ep:Nat} {t:SetTable} {pl:List Nat} {i:Nat} {Q:Option (Value×Nat)→Shared→Prop} (H:gW w o es ep t pl) (hS:s.heap.get? S=some o) (hi:i≤es.size)
  (h:Q (((orderOf w S ep es)[i]?).map fun e=>(e.2,slotAt w pl (i+1))) s):wpAny (model prog w) A (setNext S (slotAt w pl i) i ep) Q E s:=by
 unfold setNext
 refine wpAny_bind (wpAny_setState_of hS H.dat H.fits ?_)
 dsimp only
 unfold setsByText
 refine wpAny_bind (wpAny_bind (wpAny_askSetting (wpAny_pure ?_)))
 show wpAny _ _ (if d8 w=true then _ else _) _ _ _
 by_cases hb:d8 w=true
 ·rw [if_pos hb]
  refine wpAny_ite_false (by simp) ?_
  refine wpAny_bind ?_
  unfold setWalk
  refine wpAny_bind (wpAny_setState_of hS H.dat H.fits ?_)
  dsimp only
  unfold setsByText
  refine wpAny_bind (wpAny_bind (wpAny_askSetting (wpAny_pure ?_)))
  show wpAny _ _ (if d8 w=true then _ else _) _ _ _
  rw [if_pos hb]
  refine wpAny_bind (wpAny_askSetting (wpAny_pure (wpAny_pure ?_)))
  have e1:orderOf w S ep es=pickOrder (w.params.setOrder S ep) es:=by unfold orderOf;rw [if_pos hb]
  rw [e1] at h
  have e2:slotAt w pl (i+1)=slotAt w pl i:=by
   cases i with
   | zero=>simp [slotAt,hb]
   | succ j=>simp [slotAt,hb]
  rw [e2] at h
  exact h
 ·rw [if_neg hb]
  have hbf:d8 w=false:=by simpa using hb
  refine wpAny_ite_false (by
   show decide ((!t.plain && decide (es.size > 1))=true)=false
   rw [H.plain]
   rfl) ?_
  refine wpAny_bind ?_
  refine wpAny_ite_false (by
   rw [H.led,hbf]
   rfl) (wpAny_pure (wpAny_pure ?_))
  have e1:orderOf w S ep es=es:=by unfold orderOf;rw [if_neg hb]
  rw [e1] at h
  have lpl:=H.lpl
  rw [H.place,u9 H.ri (by omega) hbf]
  by_cases hlt:i < es.size
  ·have a1:es[i]?=some es[i]:=by simp [hlt]
   have a2:pl.toArray[i]?=some (pl.getD i 0):=by
    rw [List.getElem?_toArray,List.getD_eq_getElem?_getD,List.getElem?_eq_getElem (show i < pl.length by omega)]
    rfl
   rw [a1] at h
   rw [a1,a2]
   have e3:slotAt w pl (i+1)=pl.getD i 0+1:=by simp [slotAt,hb]
   rw [e3] at h
   exact h
  ·have a1:es[i]?=none:=by simp;omega
   rw [a1] at h
   rw [a1]
   exact h
theorem gW.typeIs {o:Obj} {es:Array (Int×Value)} {ep:Nat} {t:SetTable} {pl:List Nat} {S:Addr} (H:gW w o es ep t pl) (hS:s.heap.get? S=some o):s.TypeIs (.ref S) "set":=⟨o,hS,H.cls⟩
theorem ud {S:Addr} {o:Obj} {es:Array (Int×Value)} {ep:Nat} {t:SetTable} {pl:List Nat} {Q:Value→Shared→Prop} (H:gW w o es ep t pl) (hS:s.heap.get? S=some o)
  (h:Q (.ref s.heap.objs.size) { s with heap:=s.heap.push (jQ w S es ep pl 0) }):wpAny (model prog w) A (pyIter (.ref S)) Q E s:=by
 refine wpAny_pyIter_slot (H.typeIs hS) F.slot_set_iter (wpAny_call_entry F.slot_set_iter (H.typeIs hS) nY ?_ (F.args_set_iter_1 _))
 unfold Builtin.«frozenset.__iter__»
 refine wpAny_bind ?_
 unfold Builtin.Frozenset.slot0 slotArgs
 refine wpAny_bind (wpAny_ite_false rfl (wpAny_ite_false rfl (wpAny_pure ?_)))
 refine wpAny_pure ?_
 refine wpAny_bind ?_
 unfold Builtin.Frozenset.sizeOf setEntries
 refine wpAny_bind (wpAny_bind (wpAny_setState_of hS H.dat H.fits (wpAny_pure (wpAny_pure ?_))))
 refine wpAny_bind ?_
 unfold setDrawn
 refine wpAny_bind (wpAny_setState_of hS H.dat H.fits ?_)
 dsimp only
 unfold setsByText
 refine wpAny_bind (wpAny_bind (wpAny_askSetting (wpAny_pure (wpAny_pure ?_))))
 refine wpAny_ite_false (by
  show decide ((!d8 w && (!t.plain && decide (es.size > 1)))=true)=false
  rw [H.plain]
  simp) ?_
 refine wpAny_bind (wpAny_pure ?_)
 refine wpAny_bind ?_
 unfold setEpoch
 refine wpAny_bind (wpAny_setState_of hS H.dat H.fits (wpAny_pure ?_))
 refine wpAny_bind ?_
 unfold newFields
 exact wpAny_newObj_type (wpAny_pure ⟨_,rfl,"set_iterator",_,⟨_,Heap.get?_push_size _ rfl,rfl⟩,bx.lookup,h⟩) (by first | size_fits | (intro _;decide) | decide)
end
section
variable {prog:Program} {w:World} {A:Around} {E:Value→Shared→Prop} {s:Shared}
theorem vk {S I:Addr} {o:Obj} {es:Array (Int×Value)} {ep:Nat} {t:SetTable} {pl:List Nat} {i:Nat} {x:Int×Value} {Q:Value→Shared→Prop} (H:gW w o es ep t pl) (hI:s.heap.get? I=some (jQ w S es ep pl i)) (hS:s.heap.get? S=some o) (hx:(orderOf w S ep es)[i]?=some x) (hi:i≤es.size)
  (hQ:∀ h',h'.get? I=some (jQ w S es ep pl (i+1))→Heap.SameBut I s.heap h'→Q x.2 { s with heap:=h' }) :
  wpAny (model prog w) A (Builtin.«set_iterator.__next__» ⟨[.ref I],[]⟩) (fun fin s'=>∃ v,fin=.done (.ret v)∧Q v s') E s:=by
 unfold Builtin.«set_iterator.__next__»
 refine wpAny_bind ?_
 unfold slotArgs
 refine wpAny_ite_false rfl (wpAny_ite_false rfl (wpAny_pure ?_))
 dsimp only
 refine wpAny_bind (wpAny_fieldsOf hI rfl ?_)
 refine (show wpAny _ _ (setEntries S>>=_) _ _ _ from wpAny_bind ?_)
 unfold setEntries
 refine wpAny_bind (wpAny_setState_of hS H.dat H.fits (wpAny_pure ?_))
 refine wpAny_ite_false (by simp) ?_
 refine (show wpAny _ _ (setNext S ((slotAt w pl i:Nat):Int).toNat ((i:Nat):Int).toNat ((ep:Nat):Int).toNat>>=_) _ _ _ from wpAny_bind ?_)
 rw [Int.toNat_natCast,Int.toNat_natCast,Int.toNat_natCast]
 refine rE H hS hi ?_
 rw [hx]
 dsimp only [Option.map]
 refine wpAny_bind (wpAny_setField_rec hI (by simp) fun h1 g1 e1=>?_)
 refine wpAny_bind (wpAny_setField_rec g1 (by simp) fun h2 g2 e2=>?_)
 refine wpAny_pure ⟨_,rfl,hQ h2 ?_ (e1.trans e2)⟩
 rw [g2]
 rfl
theorem yD {S I:Addr} {o:Obj} {es:Array (Int×Value)} {ep:Nat} {t:SetTable} {pl:List Nat} {i:Nat} {Q:PySem.Fin→Shared→Prop} (hh:A.handled=none) (H:gW w o es ep t pl) (hI:s.heap.get? I=some (jQ w S es ep pl i)) (hS:s.heap.get? S=some o) (hx:(orderOf w S ep es)[i]?=none) (hi:i≤es.size)
  (hE:∀ h' e,Heap.ExtBut I s.heap h'→(∃ o,h'.get? e=some o∧o.cls=.type "StopIteration")→E (.ref e) { s with heap:=h' }) :
  wpAny (model prog w) A (Builtin.«set_iterator.__next__» ⟨[.ref I],[]⟩) Q E s:=by
 unfold Builtin.«set_iterator.__next__»
 refine wpAny_bind ?_
 unfold slotArgs
 refine wpAny_ite_false rfl (wpAny_ite_false rfl (wpAny_pure ?_))
 dsimp only
 refine wpAny_bind (wpAny_fieldsOf hI rfl ?_)
 refine (show wpAny _ _ (setEntries S>>=_) _ _ _ from wpAny_bind ?_)
 unfold setEntries
 refine wpAny_bind (wpAny_setState_of hS H.dat H.fits (wpAny_pure ?_))
 refine wpAny_ite_false (by simp) ?_
 refine (show wpAny _ _ (setNext S ((slotAt w pl i:Nat):Int).toNat ((i:Nat):Int).toNat ((ep:Nat):Int).toNat>>=_) _ _ _ from wpAny_bind ?_)
 rw [Int.toNat_natCast,Int.toNat_natCast,Int.toNat_natCast]
 refine rE H hS hi ?_
 rw [hx]
 dsimp only [Option.map]
 refine wpAny_bind (wpAny_setField hI rfl (by simp) ?_)
 refine (show wpAny _ _ (newExc (.type "StopIteration") []>>=_) _ _ _ from wpAny_bind ?_)
 simp only [newExc,newTuple]
 refine wpAny_bind (wpAny_newObj_type (wpAny_bind (m:=firstArgMember _ _) (wpAny_of_eq (a:=Value.none) (by first | rfl | (simp only [firstArgMember];rfl)) (wpAny_newObj_type ?_ (by size_fits)))) (by size_fits))
 simp only [raiseNew]
 refine wpAny_bind (wpAny_handled ?_)
 first | rw [show A.in1.handled=none from hh] | rw [hh]
 exact wpAny_bind (wpAny_pure (wpAny_throw (hE _ _ (((Heap.SameBut.update ..).extBut.push _).push _) ⟨_,Heap.get?_push_size _ rfl,rfl⟩)))
theorem dU:Slot "set_iterator" (Str.ofString "__iter__") "set_iterator.__iter__":=Slot.of (owner:="set_iterator") (n:="__iter__") (by rw [typeLookup_type,builtinLookup_eq_fast];rfl) (by decide +kernel) (by decide +kernel) (by decide +kernel) (Or.inl (by decide +kernel)) (by rw [isSubtype_type];rfl) (by decide +kernel)
theorem iA:entryFor table "set_iterator.__iter__"=some Builtin.«dict_keyiterator.__iter__»:=entryFor_alias (id':="dict_keyiterator.__iter__") (by rfl) (by decide +kernel) (by decide +kernel) (by rfl)
theorem i5 (a:Value):argsOk "set_iterator.__iter__" ⟨[a],[]⟩:=by
 have h:Manifest.signature? "set_iterator.__iter__"=List.lookup (String.ofList (['_','_','r','e','t','i','_','_']:List Char).reverse) Manifest.sig_set_iterator:=signature?_of (o:=['r','o','t','a','r','e','t','i','_','t','e','s']) (by decide +kernel) fN
 unfold argsOk
 rw [h]
 rfl
theorem jx (w:World) (S:Addr) (ep:Nat) (es:Array (Int×Value)):(orderOf w S ep es).size=es.size:=by
 have:=(nQ w S ep es).length_eq
 simpa using this
theorem vX (hh:A.handled=none) {S I:Addr} (hne:S≠I) {o:Obj} {es:Array (Int×Value)} {ep:Nat} {t:SetTable} {pl:List Nat} (H:gW w o es ep t pl) :
  Walks prog w A I [I,S] [I] es.size (fun i v=>∃ x,(orderOf w S ep es)[i]?=some x∧v=x.2) (fun i h=>h.get? I=some (jQ w S es ep pl i)∧h.get? S=some o) where
 sub:=fun b hb=>by rw [List.mem_singleton.mp hb];simp
 frame:=fun i h h' st hk=>⟨hk I (by simp) _ st.1,hk S (by simp) _ st.2⟩
 item:=fun i s Q E hi st hQ=>by
  have hx:(orderOf w S ep es)[i]?=some ((orderOf w S ep es)[i]'(by rw [jx];exact hi)):=by rw [Array.getElem?_eq_getElem]
  have hT:s.TypeIs (.ref I) "set_iterator":=⟨_,st.1,rfl⟩
  unfold pyNext
  refine wpAny_bind (wpAny_attempt (wpAny_callSpecial?_slot (name:=Str.ofString "__next__") hT bx (wpAny_call_entry bx hT dW ?_ (d6 _))))
  refine vk H st.1 st.2 hx (by omega) fun h' g1 e1=>wpAny_pure ?_
  exact hQ _ h' s.toks ⟨_,hx,rfl⟩ ⟨g1,e1.extBut _ _ hne st.2⟩ fun b o hb q=>e1.extBut b o (fun z=>hb (by simp [z])) q
 done:=fun s Q E st hQ=>by
  have hx:(orderOf w S ep es)[es.size]?=none:=by rw [Array.getElem?_eq_none_iff,jx];exact Nat.le_refl _
  have hT:s.TypeIs (.ref I) "set_iterator":=⟨_,st.1,rfl⟩
  unfold pyNext
  refine wpAny_bind (wpAny_attempt (wpAny_callSpecial?_slot (name:=Str.ofString "__next__") hT bx (wpAny_call_entry bx hT dW ?_ (d6 _))))
  refine yD hh H st.1 st.2 hx (Nat.le_refl _) fun h' e ext he=>?_
  obtain ⟨o',ho',hc'⟩:=he
  exact wpAny_bind (wpAny_isInstance (T:="StopIteration") (b:=true) ⟨o',ho',hc'⟩ isSubtype_stop (wpAny_pure (hQ _ s.toks fun b o hb q=>ext b o (fun z=>hb (by simp [z])) q)))
 self:=fun i s Q E st h=>by
  have hT:s.TypeIs (.ref I) "set_iterator":=⟨_,st.1,rfl⟩
  exact wpAny_pyIter_slot hT dU (wpAny_call_entry dU hT iA (wpAny_pure ⟨_,rfl,"set_iterator",_,hT,bx.lookup,h⟩) (i5 _))
theorem AN {S:Addr} {o:Obj} {es:Array (Int×Value)} {ep:Nat} {t:SetTable} {pl:List Nat} (H:gW w o es ep t pl) :
  PySem.W.KdlSrc prog w "set" S S es.size (fun i v=>∃ x,(orderOf w S ep es)[i]?=some x∧v=x.2) (fun h=>h.get? S=some o) where
 type:=fun s hs=>H.typeIs hs
 there:=fun h hs=>⟨Heap.lt_size hs,Heap.lt_size hs⟩
 keep:=fun h h' hs hk=>hk S (.inl rfl) o hs
 notList:=by decide
 notTuple:=by decide
 hint:=fun A E s Q hs h=>xJ (H.typeIs hs) h
 iter:=fun A s hh hs=>⟨jQ w S es ep pl 0,fun i h=>h.get? s.heap.objs.size=some (jQ w S es ep pl i)∧h.get? S=some o,fun E Q hq=>ud H hs hq,
  vX hh (Nat.ne_of_lt (Heap.lt_size hs)) H,Heap.get?_push_size _ rfl,Heap.get?_push_of_some _ hs⟩
end
def uS:Value→Int
 | .int k _=>k
 | _=>0
theorem intsAre_map:∀ {vs:List Value} {ns:List Int},IntsAre vs ns→(∀ v∈vs,∃ k t,v=Value.int k t)∧ns=vs.map uS
 | _,_,.nil=>⟨by simp,rfl⟩
 | _,_,.cons n t r=>by
  obtain ⟨h1,h2⟩:=intsAre_map r
  refine ⟨fun v hv=>?_,by rw [List.map_cons,← h2];rfl⟩
  rcases List.mem_cons.mp hv with z | z
  ·exact ⟨n,t,z⟩
  ·exact h1 v z
theorem nv:∀ (vs:List Value),(∀ v∈vs,∃ k t,v=Value.int k t)→IntsAre vs (vs.map uS)
 | [],_=>.nil
 | v :: vs,h=>by
  obtain ⟨k,t,rfl⟩:=h v (by simp)
  exact .cons k t (nv vs fun u hu=>h u (by simp [hu]))
theorem qP {vs us:List Value} {ns:List Int} (hp:List.Perm vs us) (r:IntsAre us ns):∃ ms,IntsAre vs ms∧List.Perm ms ns:=by
 obtain ⟨h1,h2⟩:=intsAre_map r
 refine ⟨vs.map uS,nv vs fun v hv=>h1 v (hp.mem_iff.mp hv),?_⟩
 rw [h2]
 exact hp.map uS
section
variable {prog:Program} {w:World} {A:Around} {E:Value→Shared→Prop} {s:Shared}
theorem uB {S:Addr} {ks:List Int} {Q:Value→Shared→Prop} (hh:A.handled=none) (hS:iU w s.heap S ks) (h64:ks.length < 64)
  (h:∀ (h':Heap) (tk:Nat) (out:Array Value) (ms:List Int) (l:Addr) (c:Nat),(∀ b o,s.heap.get? b=some o→h'.get? b=some o)→S < l→h'.get? l=some (seqObj "list" out c)→IntsAre out.toList ms→ms.Pairwise (· < ·)→(∀ x,x∈ms↔x∈ks)→ms.length≤300→Q (.ref l) { s with heap:=h',toks:=tk }) :
  wpAny (model prog w) A (call (.builtin "sorted") [.ref S]) Q E s:=by
 obtain ⟨o,es,ep,t,pl,g1,g2,g3,g4,g5,g6,g7,g8,g9,g10,g11,g12,g13⟩:=hS
 obtain ⟨g9,lpl,g14⟩:=g9
 have lks:es.size=ks.length:=by
  have:=cY g10
  rw [List.length_map,Array.length_toList] at this
  exact this
 have H:gW w o es ep t pl:=⟨g3,g2.1,g5,g6,g7,g8,g9,by omega,by omega,by omega⟩
 refine Calls.call_function_entry kind_sorted plain_sorted entry_sorted (args_sorted1 _) ?_
 unfold Builtin.sorted
 refine wpAny_bind ?_
 unfold checkCount
 refine wpAny_ite_false rfl (wpAny_ite_false rfl (wpAny_ite_false rfl (wpAny_pure ?_)))
 refine wpAny_bind (PySem.W.kdu_collect (AN H) hh g1 (Nat.le_trans H.few (Nat.le_of_lt (dA (by decide)))) fun h1 tk acc hk hacc=>?_)
 have hacc1:acc.toList=(orderOf w S ep es).toList.map Prod.snd:=by
  refine List.ext_getElem? fun i=>?_
  by_cases hi:i < acc.size
  ·have e1:acc.toList[i]?=some acc[i]:=by simp [hi]
   obtain ⟨x,hx,hv⟩:=hacc.2 i acc[i] (by simp [hi])
   rw [e1,List.getElem?_map]
   rw [show (orderOf w S ep es).toList[i]?=some x by simpa using hx]
   rw [hv]
   rfl
  ·rw [List.getElem?_eq_none (by simp;omega),List.getElem?_eq_none]
   rw [List.length_map,Array.length_toList,jx]
   have:=hacc.1
   omega
 obtain ⟨ns0,i1,i2⟩:=qP (vs:=acc.toList) (by rw [hacc1];exact (nQ w S ep es).map Prod.snd) g10
 have l0:acc.toList.length=ks.length:=by rw [cY i1];exact i2.length_eq
 refine wpAny_bind (wpAny_newList ?_ (by rw [l0];exact Nat.le_of_lt (dA (by omega))))
 refine wpAny_bind (wpAny_holding ?_)
 have hat:(h1.push (seqObj "list" acc.toList.toArray 0)).get? h1.objs.size=some (seqObj "list" acc.toList.toArray 0):=Heap.get?_push_size _ rfl
 refine wpAny_call_entry slot_list_sort ⟨_,hat,rfl⟩ entry_list_sort ?_ (args_list_sort _)
 refine list_sort_tree hat i1 (by omega) fun out ms r1 r2 r3=>⟨_,rfl,wpAny_pure ⟨_,rfl,?_⟩⟩
 obtain ⟨c,hc⟩:=sortedHeap_at (out:=out) hat
 have hnd:ms.Nodup:=r2.nodup_iff.mpr (i2.nodup_iff.mpr g12)
 refine h _ tk out ms h1.objs.size c ?_ ?_ hc r1 ?_ ?_ ?_
 ·intro b o' e
  have e1:=hk b o' e
  have hb:b < h1.objs.size:=Heap.lt_size e1
  rw [sortedHeap_old (Nat.ne_of_lt hb) (by rw [Heap.size_push];exact Nat.lt_succ_of_lt hb)]
  exact Heap.get?_push_of_some _ e1
 ·exact Heap.lt_size (hk S o g1)
 ·exact (List.Pairwise.and r3 hnd).imp fun z=>by have:=z.1;have:=z.2;omega
 ·intro x
  rw [r2.mem_iff,i2.mem_iff]
 ·have:=r2.length_eq
  have:=i2.length_eq
  omega
end
end L2
namespace L2
open PySem PySem.Spec PyProof.Rows ZS
def hT (ks:List Int):Int:=reduceHash (Builtin.Tuple.tupleHashOf (ks.map hashInt))
section
variable {prog:Program} {w:World} {A:Around} {E:Value→Shared→Prop} {s:Shared}
end
section
variable {κ:Type} [DecidableEq κ]
def fW (kvs:List (κ×V)) (k:κ):Option V:=(kvs.find? fun kv=>decide (kv.1=k)).map (·.2)
def putK (kvs:List (κ×V)) (k:κ) (v:V):List (κ×V):=
 if (kvs.any fun kv=>decide (kv.1=k))=true then kvs.map (fun kv=>if kv.1=k then (kv.1,v) else kv) else kvs++[(k,v)]
theorem jn {p:κ×V} {r:List (κ×V)} {k:κ} (e:p.1=k):fW (p :: r) k=some p.2:=by simp [fW,List.find?_cons,e]
theorem iy {p:κ×V} {r:List (κ×V)} {k:κ} (e:¬p.1=k):fW (p :: r) k=fW r k:=by simp [fW,List.find?_cons,e]
theorem qm (k:κ):∀ kvs:List (κ×V),(kvs.any fun kv=>decide (kv.1=k))=(fW kvs k).isSome
 | []=>rfl
 | p :: r=>by
  rw [List.any_cons]
  by_cases e:p.1=k
  ·simp only [jn e,decide_eq_true e,Bool.true_or,Option.isSome_some]
  ·rw [iy e,decide_eq_false e,Bool.false_or];exact qm k r
theorem iR (kvs:List (κ×V)) (k:κ) (v:V):(putK kvs k v).length≤kvs.length+1:=by
 unfold putK
 split
 ·rw [List.length_map];omega
 ·rw [List.length_append,List.length_cons,List.length_nil];omega
theorem fe.fL {o:Option V} {u:Option Value} (r:fe o u):o.isSome=u.isSome:=by
 cases o with
 | none=>cases u with
  | none=>rfl
  | some _=>exact (show False from r).elim
 | some _=>cases u with
  | none=>exact (show False from r).elim
  | some _=>rfl
theorem fe.getD {o:Option V} {u:Option Value} {d:V} {d':Value} (r:fe o u) (rd:RelV d d'):RelV (o.getD d) (u.getD d'):=by
 cases o with
 | none=>cases u with
  | none=>exact rd
  | some _=>exact (show False from r).elim
 | some _=>cases u with
  | none=>exact (show False from r).elim
  | some _=>exact r
theorem KV.val {kvs:List (κ×V)} {vs:List (κ×Value)} (r:KV kvs vs) (k:κ):fe (fW kvs k) (valueAt vs k):=by
 unfold KV at r
 induction r with
 | nil=>exact True.intro
 | @cons p q ps qs h t ih=>
  obtain ⟨h1,h2⟩:=h
  by_cases e:p.1=k
  ·have e':q.1=k:=h1.symm.trans e
   have b:valueAt (q :: qs) k=some q.2:=by simp [valueAt,List.find?_cons,e']
   rw [jn e,b];exact h2
  ·have e':¬q.1=k:=fun z=>e (h1.trans z)
   have b:valueAt (q :: qs) k=valueAt qs k:=by simp [valueAt,List.find?_cons,e']
   rw [iy e,b];exact ih
theorem KV.any {kvs:List (κ×V)} {vs:List (κ×Value)} (r:KV kvs vs) (k:κ):(kvs.any fun kv=>decide (kv.1=k))=vs.any fun kv=>decide (kv.1=k):=by
 unfold KV at r
 induction r with
 | nil=>rfl
 | cons h t ih=>rw [List.any_cons,List.any_cons,ih,h.1]
theorem KV.zg {kvs:List (κ×V)} {vs:List (κ×Value)} (r:KV kvs vs) (k:κ) {y:V} {u:Value} (ry:RelV y u) :
  KV (kvs.map fun kv=>if kv.1=k then (kv.1,y) else kv) (vs.map fun kv=>if kv.1=k then (kv.1,u) else kv):=by
 unfold KV at r ⊢
 induction r with
 | nil=>exact .nil
 | @cons p q ps qs h t ih=>
  rw [List.map_cons,List.map_cons]
  refine .cons ?_ ih
  obtain ⟨h1,h2⟩:=h
  by_cases e:p.1=k
  ·rw [if_pos e,if_pos (h1.symm.trans e)];exact ⟨h1,ry⟩
  ·rw [if_neg e,if_neg (fun z=>e (h1.trans z))];exact ⟨h1,h2⟩
theorem KV.put {kvs:List (κ×V)} {vs:List (κ×Value)} (r:KV kvs vs) (k:κ) {y:V} {u:Value} (ry:RelV y u):KV (putK kvs k y) (stored vs k u):=by
 unfold putK stored
 rw [r.any k]
 by_cases e:(vs.any fun kv=>decide (kv.1=k))=true
 ·rw [if_pos e,if_pos e];exact r.zg k ry
 ·rw [if_neg e,if_neg e];exact Paired.snoc r ⟨rfl,ry⟩
theorem KV.length {kvs:List (κ×V)} {vs:List (κ×Value)} (r:KV kvs vs):kvs.length=vs.length:=Paired.length r
end
theorem jv {P:Program} {w:World} {k:Key} {u:Value} (r:RelV (kV k) u):(aW P w).is k u=true:=by
 cases k with
 | inl i=>obtain ⟨t,e⟩:=(show ∃ t,u=Value.int i t from r);subst e;exact sj P w i t
 | inr x=>obtain ⟨t,e⟩:=(show ∃ t,u=Value.str x t from r);subst e;exact sR P w x t
theorem oO {P:Program} {w:World}:∀ {ks:List Key} {us:List Value},Vals (ks.map kV) us→ItemsAre (aW P w) ks us
 | [],_,r=>by rw [List.map_nil] at r;cases r;exact .nil
 | k :: ks,_,r=>by
  rw [List.map_cons] at r
  cases r with
  | cons h t=>exact .cons (jv h) (oO t)
abbrev KT (H:Hp):List (List Key×V)→List (List Key×Addr×Value)→Prop:=Paired fun p q=>p.1=q.1∧H q.2.1=some (.tup (p.1.map kV))∧RelV p.2 q.2.2
theorem KT.val {H:Hp} {kvs:List (List Key×V)} {xs:List (List Key×Addr×Value)} (r:KT H kvs xs) (k:List Key):fe (fW kvs k) ((atKey xs k).map (·.2)):=by
 induction r with
 | nil=>exact True.intro
 | @cons p q ps qs h t ih=>
  obtain ⟨h1,_,h2⟩:=h
  by_cases e:p.1=k
  ·have e':q.1=k:=h1.symm.trans e
   have b:atKey (q :: qs) k=some q.2:=by simp [atKey,List.find?_cons,e']
   rw [jn e,b];exact h2
  ·have e':¬q.1=k:=fun z=>e (h1.trans z)
   have b:atKey (q :: qs) k=atKey qs k:=by simp [atKey,List.find?_cons,e']
   rw [iy e,b];exact ih
theorem KT.zg {H:Hp} {kvs:List (List Key×V)} {xs:List (List Key×Addr×Value)} (r:KT H kvs xs) (k:List Key) {y:V} {u:Value} (ry:RelV y u) :
  KT H (kvs.map fun kv=>if kv.1=k then (kv.1,y) else kv) (xs.map (putAt k u)):=by
 induction r with
 | nil=>exact .nil
 | @cons p q ps qs h t ih=>
  rw [List.map_cons,List.map_cons]
  refine .cons ?_ ih
  obtain ⟨h1,h2,h3⟩:=h
  unfold putAt
  by_cases e:p.1=k
  ·rw [if_pos e,if_pos (h1.symm.trans e)];exact ⟨h1,h2,ry⟩
  ·rw [if_neg e,if_neg (fun z=>e (h1.trans z))];exact ⟨h1,h2,h3⟩
theorem KT.put {H:Hp} {kvs:List (List Key×V)} {xs:List (List Key×Addr×Value)} (r:KT H kvs xs) (k:List Key) {b:Addr} {y:V} {u:Value} (hb:H b=some (.tup (k.map kV))) (ry:RelV y u) :
  KT H (putK kvs k y) (storedH xs k b u):=by
 have e:(kvs.any fun kv=>decide (kv.1=k))=(atKey xs k).isSome:=by
  rw [qm,(r.val k).fL,Option.isSome_map]
 unfold putK storedH
 rw [e]
 by_cases q:(atKey xs k).isSome=true
 ·rw [if_pos q,if_pos q];exact r.zg k ry
 ·rw [if_neg q,if_neg q];exact Paired.snoc r ⟨rfl,hb,ry⟩
theorem KT.keeps {H H':Hp} {kvs:List (List Key×V)} {xs:List (List Key×Addr×Value)} (r:KT H kvs xs) (ht:∀ b ys,H b=some (.tup ys)→H' b=some (.tup ys)):KT H' kvs xs:=
 Paired.yZ r fun _ _ z=>⟨z.1,ht _ _ z.2.1,z.2.2⟩
section
variable {P:Program} {w:World} {H:Hp} {h:Heap} {a:Addr}
theorem zw {u:HO} (ok:HOk P w H h) (e:Rd H a u):bj P w H h a u:=e.ok ok
theorem jZ {kvs:List (Key×V)} (ok:HOk P w H h) (e:Rd H a (.dK kvs)):kvs.length≤sizeLine∧(a == sysModules)=false∧∃ vs,KV kvs vs∧h.DictOf (aW P w) a vs:=
 show bj P w H h a (.dK kvs) from zw ok e
theorem FZ {kvs:List (Key×V)} (ok:HOk P w H h) (e:H a=some (.dK kvs)):kvs.length≤sizeLine∧(a == sysModules)=false∧∃ vs,KV kvs vs∧h.DictOf (aW P w) a vs:=jZ ok (.inl e)
theorem ja {ks:List Key} (ok:HOk P w H h) (e:H a=some (.tup (ks.map kV))):(tupleKind (aW P w)).is h ks a:=by
 obtain ⟨_,its,r,o,h1,h2,n,h3⟩:=(show bj P w H h a (.tup (ks.map kV)) from ok a _ e)
 exact ⟨o,its.toArray,n,h1,h2,h3,by simpa using oO r⟩
theorem jq {kvs:List (List Key×V)} (ok:HOk P w H h) (e:Rd H a (.dT kvs)):kvs.length≤sizeLine∧(a == sysModules)=false ∧
  ∃ xs,KT H kvs xs∧h.DictOfH (tupleKind (aW P w)) a xs:=by
 obtain ⟨z,y,xs,r,o,es,ep,h1,h2,h3,h4,h5⟩:=(show bj P w H h a (.dT kvs) from zw ok e)
 refine ⟨z,y,xs,r,o,es,ep,h1,h2,h3,h4,fun x hx=>?_,h5⟩
 have all:∀ {l:List (List Key×V)} {m:List (List Key×Addr×Value)},KT H l m→∀ x∈m,(tupleKind (aW P w)).is h x.1 x.2.1:=by
  intro l m q
  induction q with
  | nil=>intro x hx;exact nomatch hx
  | @cons p q ps qs hq t ih=>
   intro x hx
   rcases List.mem_cons.mp hx with e | hx
   ·subst e
    exact ja ok (by rw [← hq.1];exact hq.2.1)
   ·exact ih x hx
 exact all r x hx
theorem FA {kvs:List (List Key×V)} (ok:HOk P w H h) (e:H a=some (.dT kvs)):kvs.length≤sizeLine∧(a == sysModules)=false ∧
  ∃ xs,KT H kvs xs∧h.DictOfH (tupleKind (aW P w)) a xs:=jq ok (.inl e)
end
def jy (H:Hp) (a:Addr) (y:V) (r:Option V):Prop:=
 (∃ kvs k,Rd H a (.dK kvs)∧y=kV k∧r=fW kvs k)∨∃ kvs k b,Rd H a (.dT kvs)∧y=.ref b∧H b=some (.tup (k.map kV))∧r=fW kvs k
def qj (H:Hp) (a:Addr) (y v:V) (H':Hp):Prop:=
 (∃ kvs k,H a=some (.dK kvs)∧y=kV k∧kvs.length < sizeLine∧H'=upd H a (.dK (putK kvs k v))) ∨
 ∃ kvs k b,H a=some (.dT kvs)∧y=.ref b∧H b=some (.tup (k.map kV))∧kvs.length < sizeLine∧H'=upd H a (.dT (putK kvs k v))
theorem qj.k {H:Hp} {a:Addr} {kvs:List (Key×V)} {k:Key} {v:V} (e:H a=some (.dK kvs)) (hl:kvs.length < sizeLine):qj H a (kV k) v (upd H a (.dK (putK kvs k v))):=.inl ⟨kvs,k,e,rfl,hl,rfl⟩
section
variable {X:Cx} {pins:List (Addr×Obj)} {σ:St} {H:Hp} {s:Shared} {a:Addr} {y v:V} {u r:Value} {o:Option V} {A:Around} {E:Value→Shared→Prop}
theorem Inv.big (I:Inv X pins σ H s):sysModules < s.heap.objs.size:=by
 have h:mainGlobals < s.heap.objs.size:=(I.mod.glob.keeps I.bk).lt
 exact Nat.lt_trans (by decide) h
theorem ve {Q:Value→Shared→Prop} (hu:A.units+1 < cLine) (I:Inv X pins σ H s) (g:jy H a y (some v)) (ry:RelV y u) (h:∀ w' s',Inv X pins σ H s'→RelV v w'→Q w' s') :
  wpAny (model X.prog X.w) A (getItem (.ref a) u) Q E s:=by
 rcases g with ⟨kvs,k,e,ey,l⟩ | ⟨kvs,k,b,e,ey,eb,l⟩
 ·subst ey
  obtain ⟨z,hd,vs,rel,dd⟩:=jZ I.hok e
  obtain ⟨w',hw,rw'⟩:=fe.some_of (v:=v) (o:=valueAt vs k) (by rw [l];exact rel.val k)
  exact wpAny_getItem_of (jv ry) dd.mapOf hw (h w' _ (I.tok _) rw')
 ·subst ey
  cases (show u=Value.ref b from ry)
  obtain ⟨z,hd,xs,rel,dd⟩:=jq I.hok e
  obtain ⟨w',hw,rw'⟩:=fe.some_of (v:=v) (o:=(atKey xs k).map (·.2)) (by rw [l];exact rel.val k)
  obtain ⟨p,hp,hp2⟩:=Option.map_eq_some_iff.mp hw
  refine wpAny_getItem_heap (tupleKind_room_in1 hu) (ja I.hok eb) dd hp ?_
  rw [hp2]
  exact h w' _ (I.tok _) rw'
theorem GA {Q:Value→Shared→Prop} (hu:A.units+1 < cLine) (I:Inv X pins σ H s) (g:jy H a y o) (ry:RelV y u) (h:∀ s',Inv X pins σ H s'→Q (.bool o.isSome) s') :
  wpAny (model X.prog X.w) A (compareOp .In u (.ref a)) Q E s:=by
 rcases g with ⟨kvs,k,e,ey,l⟩ | ⟨kvs,k,b,e,ey,eb,l⟩
 ·subst ey
  obtain ⟨z,hd,vs,rel,dd⟩:=jZ I.hok e
  refine wpAny_in_of (jv ry) hd dd.mapOf ?_
  rw [← (rel.val k).fL,← l]
  exact h _ (I.tok _)
 ·subst ey
  cases (show u=Value.ref b from ry)
  obtain ⟨z,hd,xs,rel,dd⟩:=jq I.hok e
  refine wpAny_in_heap (tupleKind_room_in1 hu) (ja I.hok eb) hd dd ?_
  have q:=(rel.val k).fL
  rw [Option.isSome_map] at q
  rw [← q,← l]
  exact h _ (I.tok _)
theorem Be {Q:Value→Shared→Prop} (hu:A.units+1 < cLine) (I:Inv X pins σ H s) (g:jy H a y o) (ry:RelV y u) (h:∀ s',Inv X pins σ H s'→Q (.bool (!o.isSome)) s') :
  wpAny (model X.prog X.w) A (compareOp .NotIn u (.ref a)) Q E s:=by
 rcases g with ⟨kvs,k,e,ey,l⟩ | ⟨kvs,k,b,e,ey,eb,l⟩
 ·subst ey
  obtain ⟨z,hd,vs,rel,dd⟩:=jZ I.hok e
  refine wpAny_notIn_of (jv ry) hd dd.mapOf ?_
  rw [← (rel.val k).fL,← l]
  exact h _ (I.tok _)
 ·subst ey
  cases (show u=Value.ref b from ry)
  obtain ⟨z,hd,xs,rel,dd⟩:=jq I.hok e
  refine wpAny_notIn_heap (tupleKind_room_in1 hu) (ja I.hok eb) hd dd ?_
  have q:=(rel.val k).fL
  rw [Option.isSome_map] at q
  rw [← q,← l]
  exact h _ (I.tok _)
theorem tO {h':Heap} {t':Nat} {ob:HO} (I:Inv X pins σ H s) (mu:Mut (H a)) (hs:Heap.SameBut a s.heap h') (he:∃ q,h'.get? a=some q) (new:bj X.prog X.w (upd H a ob) h' a ob) :
  Inv X pins σ (upd H a ob) { s with heap:=h',toks:=t' }:=
 I.write (x:=a) (e:=a) mu (.inl rfl) (fun b q hb z=>(hs.2 b hb).trans z) he new
theorem wD {P:Program} {w:World} {H':Hp} {h':Heap} {kvs:List (Key×V)} {vs:List (Key×Value)} (z:kvs.length≤sizeLine) (hd:(a == sysModules)=false) (rel:KV kvs vs) (dd:h'.DictOf (aW P w) a vs) :
  bj P w H' h' a (.dK kvs):=⟨z,hd,vs,rel,dd⟩
theorem xq {H':Hp} {Q:Unit→Shared→Prop} (hu:A.units+1 < cLine) (I:Inv X pins σ H s) (g:qj H a y v H') (ry:RelV y u) (rv:RelV v r) (h:∀ s',Inv X pins σ H' s'→Q () s') :
  wpAny (model X.prog X.w) A (setItem (.ref a) u r) Q E s:=by
 rcases g with ⟨kvs,k,e,ey,l,eH⟩ | ⟨kvs,k,b,e,ey,eb,l,eH⟩
 ·subst ey eH
  obtain ⟨z,hd,vs,rel,dd⟩:=FZ I.hok e
  have hz:vs.length≤sizeLine:=by rw [← rel.length];exact z
  have hl:(putK kvs k v).length≤sizeLine:=by have:=iR kvs k v;omega
  refine wpAny_setItem_pairs (hsz:=hz) (jv ry) dd fun h' dd' hs=>h _ ?_
  have he:∃ q,h'.get? a=some q:=let ⟨q,_,_,hq,_⟩:=dd';⟨q,hq⟩
  exact tO I (by rw [e];exact True.intro) hs he (wD hl hd (rel.put k rv) dd')
 ·subst ey eH
  cases (show u=Value.ref b from ry)
  obtain ⟨z,hd,xs,rel,dd⟩:=FA I.hok e
  have hz:xs.length≤sizeLine:=by rw [← Paired.length rel];exact z
  have hl:(putK kvs k v).length≤sizeLine:=by have:=iR kvs k v;omega
  refine wpAny_setItem_heap (hsz:=hz) (tupleKind_room_in1 hu) (ja I.hok eb) dd fun h' dd' hs=>h _ ?_
  obtain ⟨q,es,ep,hq,h2,h3,h4,_,h5⟩:=dd'
  refine tO I (by rw [e];exact True.intro) hs ⟨q,hq⟩ ⟨hl,hd,_,(rel.put k eb rv).keeps fun c ys ec=>?_,q,es,ep,hq,h2,h3,h4,h5⟩
  rw [aB (Fy ec e (fun z=>nomatch z))]
  exact ec
end
section
variable {X:Cx} {pins:List (Addr×Obj)} {σ:St} {H:Hp} {s:Shared} {a:Addr} {kvs:List (Key×V)} {k:Key} {u:Value} {A:Around} {E:Value→Shared→Prop}
end
def yA (i:Expr):Prop:=∀ ov iv,subscripted i false ov iv=operate [ov,iv] (getItem ov iv)
theorem Bx {prog:Program} {w:World} {A:Around} {E:Value→Shared→Prop} {s:Shared} {env:Env} {value slice:Expr} {pos:Pos} {T id:String} {Q:Value→Shared→Prop}
    (hl:typeLookup (.type T) "__getitem__"=pure (some (.builtin id))) (hs:yA slice)
    (h:wpAny (model prog w) A (eval value env) (fun o s₁=>wpAny (model prog w) A (eval slice env) (fun i s₂=>s₂.TypeIs o T∧wpAny (model prog w) A (getItem o i) Q E s₂) E s₁) E s) :
    wpAny (model prog w) A (eval (.Subscript value slice pos) env) Q E s:=by
  refine Subscript_ (wpAny_mono h (fun o s₁ h₁=>wpAny_mono h₁ (fun i s₂ h₂=>?_) fun _ _ x=>x) fun _ _ x=>x)
  obtain ⟨hT,h₂⟩:=h₂
  unfold subscriptTail
  refine wpAny_bind ?_
  rw [getitemInPython_of_ne hT.not_modules]
  refine wpAny_bind (wpAny_specialOf hT hl ?_)
  have fin:wpAny (model prog w) A (subscripted slice false o i) (fun r s₃=>wpAny (model prog w) A (letTemporaryGo value o r>>=fun _=>pure r) Q E s₃) E s₂:=by
    rw [hs o i]
    exact wpAny_operating (wpAny_mono h₂ (fun r s₃ h₃=>wpAny_bind (wpAny_letTemporaryGo (wpAny_pure h₃))) fun _ _ x=>x)
  first
    | exact wpAny_pure (wpAny_bind fin)
    | exact wpAny_bind (wpAny_pure (wpAny_bind fin))
    | exact wpAny_bind fin
theorem sJ {X:Cx} {pins:List (Addr×Obj)} {σ:St} {H:Hp} {s:Shared} {a:Addr} {y:V} {o:Option V} (I:Inv X pins σ H s) (g:jy H a y o):s.TypeIs (.ref a) "dict":=by
 rcases g with ⟨kvs,k,e,_,_⟩ | ⟨kvs,k,b,e,_,_,_⟩
 ·obtain ⟨_,_,vs,_,dd⟩:=jZ I.hok e
  exact dd.typeIs
 ·obtain ⟨_,_,xs,_,dd⟩:=jq I.hok e
  exact dd.typeIs
def EE (td ty:TE):TE:=fun σ H Q=>td σ H fun x H1=>ty σ H1 fun y H2=>∃ a v,x=.ref a∧jy H2 a y (some v)∧Q v H2
def FI (td ty tv:TE):TS:=fun D σ H=>tv σ H fun v H1=>td σ H1 fun x H2=>ty σ H2 fun y H3=>∃ a H4,x=.ref a∧qj H3 a y v H4∧D.nx σ H4
section
variable {X:Cx} {o i e value:Expr} {pos pos' tpos:Pos} {td ty tv:TE}
theorem z8 (hu:X.A.units+1 < cLine) (ho:PE X o td) (hi:PE X i ty) (hs:yA i):PE X (.Subscript o i pos) (EE td ty):=by
 intro pins s σ H Q I h
 refine Bx PySem.F.slot_dict_getitem.lookup hs (thn (ho pins s σ H _ I h) fun u s1 ⟨x,H1,I1,rx,q1⟩=>thn (hi pins s1 σ H1 _ I1 q1) fun iv s2 ⟨y,H2,I2,ry,a,v,ex,g,q2⟩=>?_)
 subst ex
 obtain rfl:u=Value.ref a:=rx
 exact ⟨sJ I2 g,ve hu I2 g ry fun w' s3 I3 rw'=>⟨v,H2,I3,rw',q2⟩⟩
theorem AO (hu:X.A.units+1 < cLine) (ho:PE X o td) (hi:PE X i ty) (hv:PE X value tv) (hs:swapsWith value (some (.Subscript o i pos')) pos.line X.env=pure false) :
  PS X (.Assign [.Subscript o i pos'] value pos) (FI td ty tv):=by
 intro pins s σ H D I h
 refine wpAny_Assign_Subscript (thn (hv pins s σ H _ I h) fun r s1 ⟨v,H1,I1,rv,q1⟩=>thn (ho pins s1 σ H1 _ I1 q1) fun u s2 ⟨x,H2,I2,rx,q2⟩=>thn (hi pins s2 σ H2 _ I2 q2) fun iv s3 ⟨y,H3,I3,ry,a,H4,ex,g,q3⟩=>?_) hs
 subst ex
 obtain rfl:u=Value.ref a:=rx
 exact xq hu I3 g ry rv fun s4 I4=>⟨σ,H4,I4,q3⟩
end
theorem xH {P:Program} {w:World} {H:Hp} (h:Heap) (hb:sysModules < h.objs.size):bj P w H (h.push { cls:=.type "dict",data:=.dict #[] }) h.objs.size (.dK []):=
 ⟨Nat.zero_le _,beq_eq_false_iff_ne.mpr (Ne.symm (Nat.ne_of_lt hb)),[],.nil,Heap.DictOf.new h⟩
def Ed:TE:=fun _ H Q=>∀ p,H p=none→Q (.ref p) (upd H p (.dK []))
section
variable {X:Cx} {pos:Pos}
theorem ze:PE X (.Dict [] [] pos) Ed:=fun pins s σ H Q I h=>
 wpAny_Dict_empty ⟨.ref s.heap.objs.size,_,I.laid (a:=s.heap.objs.size) (o:=.dK []) (t':=s.toks) (fun _ _ q=>Heap.get?_push_of_some _ q) (Nat.le_refl _) (xH s.heap I.big),rfl,h _ (I.hok.fresh (Nat.le_refl _))⟩
end
def xu:List (TE×TE)→St→Hp→(List (V×V)→Hp→Prop)→Prop
 | [],_,H,Q=>Q [] H
 | (tk,tv) :: r,σ,H,Q=>tk σ H fun x H1=>tv σ H1 fun y H2=>xu r σ H2 fun ps H3=>Q ((x,y) :: ps) H3
abbrev VV:List (V×V)→List (Value×Value)→Prop:=Paired fun p q=>RelV p.1 q.1∧RelV p.2 q.2
def PPs (X:Cx) (pos:Pos) (keys:List (Option Expr)) (values:List Expr) (trs:List (TE×TE)):Prop:=
 ∀ (pins:List (Addr×Obj)) (s:Shared) (σ:St) (H:Hp) (Q:List (V×V)→Hp→Prop),Inv X pins σ H s→xu trs σ H Q →
  wpAny (model X.prog X.w) X.A (evalPairs (pairTrees keys values X.env pos)) (fun vs s'=>∃ ps H',Inv X pins σ H' s'∧VV ps vs∧Q ps H') X.xe s
def cR (kvs more:List (Key×V)):List (Key×V):=more.foldl (fun acc kv=>putK acc kv.1 kv.2) kvs
theorem fY:∀ (more kvs:List (Key×V)),(cR kvs more).length≤kvs.length+more.length
 | [],kvs=>by show kvs.length≤kvs.length+0;omega
 | p :: r,kvs=>by
  have h1:=fY r (putK kvs p.1 p.2)
  have h2:=iR kvs p.1 p.2
  show (cR (putK kvs p.1 p.2) r).length≤_
  rw [List.length_cons];omega
structure M1 (X:Cx) (o:Expr) (m:Str) (apos:Pos) (e:Expr) (cpos:Pos):Prop where
 base:attributeBase o m X.env (eval o X.env)=eval o X.env
 few:((backTo cpos (starEach [e] X.env)).all (fun x=>!x.1) && (backToKw cpos (keywordEach [] X.env)).all (fun x=>x.1.isSome)
  && decide (([e]:List Expr).length+([]:List Keyword).length+(if ([]:List Keyword).isEmpty then 0 else 1) < 30))=true
 line:(apos.endLine == cpos.line)=true
 trees:backTo cpos (starEach [e] X.env)=[(false,eval e X.env)]
structure M2 (X:Cx) (o:Expr) (m:Str) (apos:Pos) (e f:Expr) (cpos:Pos):Prop where
 base:attributeBase o m X.env (eval o X.env)=eval o X.env
 few:((backTo cpos (starEach [e,f] X.env)).all (fun x=>!x.1) && (backToKw cpos (keywordEach [] X.env)).all (fun x=>x.1.isSome)
  && decide (([e,f]:List Expr).length+([]:List Keyword).length+(if ([]:List Keyword).isEmpty then 0 else 1) < 30))=true
 line:(apos.endLine == cpos.line)=true
 trees:backTo cpos (starEach [e,f] X.env)=[(false,eval e X.env),(false,eval f X.env)]
def IsD (H:Hp) (a:Addr):Prop:=(∃ kvs,Rd H a (.dK kvs))∨∃ kvs,Rd H a (.dT kvs)
theorem DY {X:Cx} {pins:List (Addr×Obj)} {σ:St} {H:Hp} {s:Shared} {a:Addr} (I:Inv X pins σ H s) (d:IsD H a) :
  s.TypeIs (.ref a) "dict"∧(∀ b,Value.ref a=.ref b→∃ ob,s.heap.get? b=some ob∧ob.dict=none)∧(a == sysModules)=false:=by
 rcases d with ⟨kvs,e⟩ | ⟨kvs,e⟩
 ·obtain ⟨_,hd,vs,_,dd⟩:=jZ I.hok e
  refine ⟨dd.typeIs,fun b q=>?_,hd⟩
  cases q
  obtain ⟨ob,_,_,h1,h2,_⟩:=dd
  exact ⟨ob,h1,h2.2.1⟩
 ·obtain ⟨_,hd,xs,_,dd⟩:=jq I.hok e
  refine ⟨dd.typeIs,fun b q=>?_,hd⟩
  cases q
  obtain ⟨ob,_,_,h1,h2,_⟩:=dd
  exact ⟨ob,h1,h2.2.1⟩
section
variable {X:Cx} {pins:List (Addr×Obj)} {σ:St} {H:Hp} {s:Shared} {a:Addr} {y d:V} {u r:Value} {o:Option V} {A:Around} {E:Value→Shared→Prop}
theorem D_ {Q:Value→Shared→Prop} (hu:A.units+1 < cLine) (I:Inv X pins σ H s) (g:jy H a y o) (ry:RelV y u) (rd:RelV d r) (h:∀ w' s',Inv X pins σ H s'→RelV (o.getD d) w'→Q w' s') :
  wpAny (model X.prog X.w) A (call (.builtin "dict.get") [.ref a,u,r]) Q E s:=by
 rcases g with ⟨kvs,k,e,ey,l⟩ | ⟨kvs,k,b,e,ey,eb,l⟩
 ·subst ey
  obtain ⟨z,hd,vs,rel,dd⟩:=jZ I.hok e
  refine call_meetsIn PySem.F.slot_dict_get dd.typeIs PySem.F.entry_dict_get (PySem.F.args_dict_get_3 _ _ _) (meets_dict_get_default (aW X.prog X.w) a (jv ry) hd r) ⟨_,dd.mapOf,h _ _ (I.tok _) ?_⟩
  rw [l]
  exact (rel.val k).getD rd
 ·subst ey
  cases (show u=Value.ref b from ry)
  obtain ⟨z,hd,xs,rel,dd⟩:=jq I.hok e
  refine call_meetsIn PySem.F.slot_dict_get dd.typeIs PySem.F.entry_dict_get (PySem.F.args_dict_get_3 _ _ _) (meetsH_dict_get_default (tupleKind (aW X.prog X.w)) a b hd r) ⟨tupleKind_room_in1 hu,k,xs,ja I.hok eb,dd,h _ _ (I.tok _) ?_⟩
  rw [l]
  exact (rel.val k).getD rd
end
def Ck (td ty tx:TE):TE:=fun σ H Q=>td σ H fun x H1=>∃ a,x=.ref a∧IsD H1 a∧ty σ H1 fun y H2=>tx σ H2 fun z H3=>∃ o,jy H3 a y o∧Q (o.getD z) H3
section
variable {X:Cx} {o e f:Expr} {apos cpos:Pos} {td ty tx:TE}
theorem ym (hu:X.A.units+1 < cLine) (ho:PE X o td) (he:PE X e ty) (hf:PE X f tx) (m:M2 X o "get" apos e f cpos):PE X (.Call (.Attribute o "get" apos) [e,f] [] cpos) (Ck td ty tx):=by
 intro pins s σ H Q I h
 refine wpAny_Call_method m.base m.few m.line PySem.F.plainAttrs_dict PySem.F.slot_dict_get PySem.F.type_dict_get (thn (ho pins s σ H _ I h) fun u s1 ⟨x,H1,I1,rx,a,ex,d,q1⟩=>?_)
 subst ex
 obtain rfl:u=Value.ref a:=rx
 obtain ⟨t1,t2,_⟩:=DY I1 d
 refine ⟨t1,t2,?_⟩
 rw [m.trees]
 refine Calls.callWith_builtin rfl (Calls.evalArgs_plain (Calls.spliced_cons (thn (he pins s1 σ H1 _ I1 q1) fun iv s2 ⟨y,H2,I2,ry,q2⟩=>
  Calls.spliced_cons (thn (hf pins s2 σ H2 _ I2 q2) fun fv s3 ⟨z,H3,I3,rz,ov,g,q3⟩=>Calls.spliced_nil ?_))))
 exact D_ hu I3 g ry rz fun w' s4 I4 rw'=>⟨_,H3,I4,rw',q3⟩
end
section
variable {X:Cx} {pins:List (Addr×Obj)} {σ:St} {H:Hp} {s:Shared} {a:Addr} {kvs:List (Key×V)} {A:Around} {E:Value→Shared→Prop}
end
section
variable {X:Cx} {pins:List (Addr×Obj)} {σ:St} {H:Hp} {s:Shared} {a:Addr} {y:V} {u:Value} {A:Around} {E:Value→Shared→Prop}
end
inductive Vl where
 | d (x:D) | r (n:Nat) | fd (kvs:List (Key×D)) | fn (x:Str) | sc (ns:List Int) | pr (x:D) (n:Nat)
inductive Ob where
 | lst (xs:List D) | dct (kvs:List (Key×D)) | dead
abbrev Sto:=List Ob
inductive R (α:Type) where
 | ok (a:α) (S:Sto) | ex (c:Str) (xs:List (Str×D)) (S:Sto) | bad
def R.bind {α β:Type} (x:R α) (f:α→Sto→R β):R β:=match x with
 | .ok a S=>f a S
 | .ex c xs S=>.ex c xs S
 | .bad=>.bad
abbrev Nv:=List (Option Vl)
abbrev XE:=Nv→Sto→R Vl
abbrev XT:=Nv→Sto→R Bool
abbrev XA:=Nv→Sto→R (List Vl)
abbrev XO:=Nv→Sto→R (Option Int)
inductive Fl where
 | nx | bk | ct | rt (v:Vl)
abbrev XS:=Nv→Sto→R (Fl×Nv)
abbrev XG:=Vl→Nv→Sto→R Nv
abbrev XGs:=List Vl→Nv→Sto→R Nv
abbrev XF:=List Vl→Sto→R Vl
structure Its where
 items:List Vl
 gd:Option (Nat×Ob)
def Its.ok (I:Its) (S:Sto):Prop:=match I.gd with
 | none=>True
 | some (n,o)=>S[n]?=some o
abbrev XI:=Nv→Sto→R Its
def Al (μ:Nat→Addr) (S:Sto) (b:Addr):Prop:=∃ n o,S[n]?=some o∧o≠.dead∧μ n=b
open Classical in
noncomputable def vh (μ:Nat→Addr) (S:Sto) (H:Hp):Hp:=fun b=>if Al μ S b then none else H b
section
variable {μ μ' μ1 μ2:Nat→Addr} {S S' S1 S2:Sto} {H H' H1 H2:Hp} {b:Addr} {o:HO}
theorem bJ (h:H b=some o) (n:¬Al μ S b):vh μ S H b=some o:=by unfold vh;rw [if_neg n];exact h
theorem aR (h:vh μ S H b=some o):¬Al μ S b∧H b=some o:=by
 unfold vh at h
 split at h
 ·cases h
 ·exact ⟨‹_›,h⟩
theorem fB:dE (vh μ S H) H:=fun _ _ h=>(aR h).2
def ObR (μ:Nat→Addr) (S:Sto) (H:Hp) (a:Addr):Ob→Prop
 | .lst ds=>∃ vs,H a=some (.lst vs)∧aw (vh μ S H) vs ds
 | .dct kvs=>∃ vs:List V,vs.length=kvs.length∧H a=some (.dK ((kvs.map (·.1)).zip vs))∧aw (vh μ S H) vs (kvs.map (·.2))
 | .dead=>True
structure HR (μ:Nat→Addr) (S:Sto) (H:Hp):Prop where
 ob:∀ n o,S[n]?=some o→ObR μ S H (μ n) o
 inj:∀ n m o o',S[n]?=some o→S[m]?=some o'→o≠.dead→o'≠.dead→μ n=μ m→n=m
theorem ObR.some {a:Addr} {ob:Ob} (h:ObR μ S H a ob) (n:ob≠.dead):∃ o,H a=Option.some o:=by
 cases ob with
 | lst ds=>obtain ⟨vs,e,_⟩:=h;exact ⟨_,e⟩
 | dct kvs=>obtain ⟨vs,_,e,_⟩:=h;exact ⟨_,e⟩
 | dead=>exact absurd rfl n
theorem HR.al (h:HR μ S H) (a:Al μ S b):∃ o,H b=some o:=by
 obtain ⟨n,ob,e,nd,rfl⟩:=a
 exact (h.ob n ob e).some nd
theorem HR.nal (h:HR μ S H) (e:H b=none):¬Al μ S b:=fun a=>by
 obtain ⟨o,q⟩:=h.al a
 rw [e] at q;cases q
theorem ObR.mono {a:Addr} {ob:Ob} (h:ObR μ S H a ob) (e:ob≠.dead→H' a=H a) (k:dE (vh μ S H) (vh μ' S' H')):ObR μ' S' H' a ob:=by
 cases ob with
 | lst ds=>obtain ⟨vs,q,r⟩:=h;exact ⟨vs,by rw [e (by simp)];exact q,r.mono k⟩
 | dct kvs=>obtain ⟨vs,l,q,r⟩:=h;exact ⟨vs,l,by rw [e (by simp)];exact q,r.mono k⟩
 | dead=>exact True.intro
structure Step (μ:Nat→Addr) (S:Sto) (H:Hp) (μ':Nat→Addr) (S':Sto) (H':Hp):Prop where
 ag:∀ n,n < S.length→μ' n=μ n
 le:S.length≤S'.length
 hr:HR μ' S' H'
 dd:∀ n:Nat,S[n]?=some Ob.dead→S'[n]?=some Ob.dead
 nw:∀ n o,S.length≤n→S'[n]?=some o→o≠.dead→H (μ' n)=none
 ko:∀ b o,H b=some o→¬Al μ S b→H' b=some o
 dm:∀ b o,H b=some o→∃ o',H' b=some o'
theorem Step.refl (h:HR μ S H):Step μ S H μ S H:=
 ⟨fun _ _=>rfl,Nat.le_refl _,h,fun _ e=>e,fun n o l e _=>(by rw [List.getElem?_eq_none l] at e;cases e),fun _ _ e _=>e,fun _ o e=>⟨o,e⟩⟩
theorem Step.nal (a:Step μ S H μ' S' H') (h:H b=some o) (n:¬Al μ S b):¬Al μ' S' b:=by
 rintro ⟨k,ob,e,nd,rfl⟩
 by_cases hk:k < S.length
 ·have e0:S[k]?=some S[k]:=List.getElem?_eq_getElem hk
  by_cases hd:S[k]=.dead
  ·rw [hd] at e0
   rw [a.dd k e0] at e
   cases e
   exact nd rfl
  ·exact n ⟨k,_,e0,hd,(a.ag k hk).symm⟩
 ·rw [a.nw k ob (by omega) e nd] at h
  cases h
theorem Step.vis (a:Step μ S H μ' S' H'):dE (vh μ S H) (vh μ' S' H'):=fun b o h=>by
 obtain ⟨n,h⟩:=aR h
 exact bJ (a.ko b o h n) (a.nal h n)
theorem Step.trans (a:Step μ S H μ1 S1 H1) (b:Step μ1 S1 H1 μ2 S2 H2):Step μ S H μ2 S2 H2 where
 ag:=fun n h=>(b.ag n (Nat.lt_of_lt_of_le h a.le)).trans (a.ag n h)
 le:=Nat.le_trans a.le b.le
 hr:=b.hr
 dd:=fun n e=>b.dd n (a.dd n e)
 nw:=fun n o l e nd=>by
  by_cases hn:n < S1.length
  ·rw [b.ag n hn]
   refine a.nw n S1[n] l (List.getElem?_eq_getElem hn) fun z=>?_
   have e0:S1[n]?=some S1[n]:=List.getElem?_eq_getElem hn
   rw [z] at e0
   rw [b.dd n e0] at e
   cases e
   exact nd rfl
  ·have q:=b.nw n o (by omega) e nd
   cases e2:H (μ2 n) with
   | none=>rfl
   | some u=>
    obtain ⟨u',e3⟩:=a.dm _ _ e2
    rw [q] at e3;cases e3
 ko:=fun c o h n=>b.ko c o (a.ko c o h n) (a.nal h n)
 dm:=fun c o h=>by
  obtain ⟨o1,e1⟩:=a.dm c o h
  exact b.dm c o1 e1
theorem Step.new (h:HR μ S H) {p:Addr} (hp:H p=none) (o:HO):Step μ S H μ S (upd H p o):=by
 have k:dE (vh μ S H) (vh μ S (upd H p o)):=fun b u q=>by
  obtain ⟨n,q⟩:=aR q
  exact bJ (by rw [aB (a9 q hp)];exact q) n
 refine ⟨fun _ _=>rfl,Nat.le_refl _,⟨fun n ob e=>?_,h.inj⟩,fun _ e=>e,fun n ob l e _=>(by rw [List.getElem?_eq_none l] at e;cases e),fun b u q _=>by rw [aB (a9 q hp)];exact q,fun b u q=>⟨u,by rw [aB (a9 q hp)];exact q⟩⟩
 refine (h.ob n ob e).mono (fun nd=>?_) k
 obtain ⟨u,q⟩:=(h.ob n ob e).some nd
 exact aB (a9 q hp)
def ext (μ:Nat→Addr) (k:Nat) (p:Addr):Nat→Addr:=fun n=>if n=k then p else μ n
theorem cQ {k:Nat} {p:Addr}:ext μ k p k=p:=by unfold ext;rw [if_pos rfl]
theorem kB {k n:Nat} {p:Addr} (h:n≠k):ext μ k p n=μ n:=by unfold ext;rw [if_neg h]
def ObL (G:Hp):Ob→HO→Prop
 | .lst ds,o=>∃ vs,o=.lst vs∧aw G vs ds
 | .dct kvs,o=>∃ vs:List V,vs.length=kvs.length∧o=.dK ((kvs.map (·.1)).zip vs)∧aw G vs (kvs.map (·.2))
 | .dead,_=>False
theorem ObL.ne {G:Hp} {ob:Ob} {o:HO} (h:ObL G ob o):ob≠.dead:=by
 rintro rfl
 exact h
theorem ObL.at {ob:Ob} {o:HO} {a:Addr} {G:Hp} (h:ObL G ob o) (e:H a=some o) (k:dE G (vh μ S H)):ObR μ S H a ob:=by
 cases ob with
 | lst ds=>obtain ⟨vs,rfl,r⟩:=h;exact ⟨vs,e,r.mono k⟩
 | dct kvs=>obtain ⟨vs,l,rfl,r⟩:=h;exact ⟨vs,l,e,r.mono k⟩
 | dead=>exact h.elim
theorem HR.get (h:HR μ S H) {n:Nat} {ob:Ob} (e:S[n]?=some ob) (nd:ob≠.dead):∃ o,H (μ n)=some o∧ObL (vh μ S H) ob o:=by
 have q:=h.ob n ob e
 cases ob with
 | lst ds=>obtain ⟨vs,e1,r⟩:=q;exact ⟨_,e1,vs,rfl,r⟩
 | dct kvs=>obtain ⟨vs,l,e1,r⟩:=q;exact ⟨_,e1,vs,l,rfl,r⟩
 | dead=>exact absurd rfl nd
theorem Step.alloc (h:HR μ S H) {p:Addr} (hp:H p=none) {ob:Ob} {o:HO} (hl:ObL (vh μ S H) ob o):Step μ S H (ext μ S.length p) (S++[ob]) (upd H p o):=by
 have nd:=hl.ne
 have old:∀ n u,n < S.length→(S++[ob])[n]?=some u→S[n]?=some u∧ext μ S.length p n=μ n:=fun n u hn e=>by
  rw [List.getElem?_append_left hn] at e
  exact ⟨e,kB (Nat.ne_of_lt hn)⟩
 have new:∀ n u,S.length≤n→(S++[ob])[n]?=some u→n=S.length∧u=ob:=fun n u hn e=>by
  rw [List.getElem?_append_right hn] at e
  have hz:n - S.length=0:=by
   refine Nat.eq_zero_of_not_pos fun z=>?_
   rw [List.getElem?_eq_none (by simp;omega)] at e;cases e
  rw [hz] at e
  exact ⟨by omega,by simpa using e.symm⟩
 have nal:∀ {b u},H b=some u→¬Al μ S b→¬Al (ext μ S.length p) (S++[ob]) b:=by
  rintro b u q n ⟨k,v,e,d,rfl⟩
  by_cases hk:k < S.length
  ·obtain ⟨e1,e2⟩:=old k v hk e
   exact n ⟨k,v,e1,d,e2.symm⟩
  ·obtain ⟨rfl,rfl⟩:=new k v (by omega) e
   rw [cQ,hp] at q;cases q
 have k:dE (vh μ S H) (vh (ext μ S.length p) (S++[ob]) (upd H p o)):=fun b u q=>by
  obtain ⟨n,q⟩:=aR q
  exact bJ (by rw [aB (a9 q hp)];exact q) (nal q n)
 refine ⟨fun n hn=>kB (Nat.ne_of_lt hn),by simp,⟨fun n u e=>?_,fun n m u v e1 e2 d1 d2 q=>?_⟩,fun n e=>?_,fun n u l e _=>?_,fun b u q _=>by rw [aB (a9 q hp)];exact q,fun b u q=>⟨u,by rw [aB (a9 q hp)];exact q⟩⟩
 ·by_cases hn:n < S.length
  ·obtain ⟨e1,e2⟩:=old n u hn e
   rw [e2]
   refine (h.ob n u e1).mono (fun nd=>?_) k
   obtain ⟨x,q⟩:=(h.ob n u e1).some nd
   exact aB (a9 q hp)
  ·obtain ⟨rfl,rfl⟩:=new n u (by omega) e
   rw [cQ]
   exact hl.at bC k
 ·by_cases hn:n < S.length
  ·obtain ⟨a1,a2⟩:=old n u hn e1
   obtain ⟨x,qx⟩:=(h.ob n u a1).some d1
   by_cases hm:m < S.length
   ·obtain ⟨b1,b2⟩:=old m v hm e2
    rw [a2,b2] at q
    exact h.inj n m u v a1 b1 d1 d2 q
   ·obtain ⟨rfl,rfl⟩:=new m v (by omega) e2
    rw [a2,cQ] at q
    rw [q,hp] at qx;cases qx
  ·obtain ⟨rfl,rfl⟩:=new n u (by omega) e1
   by_cases hm:m < S.length
   ·obtain ⟨b1,b2⟩:=old m v hm e2
    obtain ⟨x,qx⟩:=(h.ob m v b1).some d2
    rw [b2,cQ] at q
    rw [← q,hp] at qx;cases qx
   ·exact (new m v (by omega) e2).1.symm
 ·have hn:n < S.length:=by
   refine Nat.lt_of_not_le fun z=>?_
   rw [List.getElem?_eq_none z] at e;cases e
  rw [List.getElem?_append_left hn];exact e
 ·obtain ⟨rfl,rfl⟩:=new n u l e
  rw [cQ];exact hp
theorem cP {n m:Nat} {ob u:Ob} (hn:n < S.length) (e:(S.set n ob)[m]?=some u):(m=n∧u=ob)∨(m≠n∧S[m]?=some u):=by
 rw [List.getElem?_set] at e
 by_cases q:n=m
 ·subst q
  rw [if_pos rfl,if_pos hn] at e
  exact .inl ⟨rfl,(Option.some.inj e).symm⟩
 ·rw [if_neg q] at e
  exact .inr ⟨fun z=>q z.symm,e⟩
theorem Step.put (h:HR μ S H) {n:Nat} {ob ob0:Ob} {o:HO} (e0:S[n]?=some ob0) (d0:ob0≠.dead) (hl:ObL (vh μ S H) ob o):Step μ S H μ (S.set n ob) (upd H (μ n) o):=by
 have nd:=hl.ne
 have hn:n < S.length:=(List.getElem?_eq_some_iff.mp e0).1
 have al0:Al μ S (μ n):=⟨n,ob0,e0,d0,rfl⟩
 have al:∀ {b},Al μ (S.set n ob) b→Al μ S b:=by
  rintro b ⟨m,u,e,d,rfl⟩
  rcases cP hn e with ⟨rfl,rfl⟩ | ⟨z,q⟩
  ·exact al0
  ·exact ⟨m,u,q,d,rfl⟩
 have k:dE (vh μ S H) (vh μ (S.set n ob) (upd H (μ n) o)):=fun b u q=>by
  obtain ⟨z,q⟩:=aR q
  exact bJ (by rw [aB (fun c=>z (by rw [c];exact al0))];exact q) fun c=>z (al c)
 refine ⟨fun _ _=>rfl,by rw [List.length_set];exact Nat.le_refl _,⟨fun m u e=>?_,fun m m' u v e1 e2 d1 d2 q=>?_⟩,fun m e=>?_,fun m u l e _=>?_,fun b u q z=>by rw [aB (fun c=>z (by rw [c];exact al0))];exact q,fun b u q=>?_⟩
 ·rcases cP hn e with ⟨rfl,rfl⟩ | ⟨z,q⟩
  ·exact hl.at bC k
  ·refine (h.ob m u q).mono (fun d=>aB fun c=>z (h.inj m n u ob0 q e0 d d0 c)) k
 ·have a1:∃ w,S[m]?=some w∧w≠.dead:=by
   rcases cP hn e1 with ⟨rfl,rfl⟩ | ⟨z,q⟩
   ·exact ⟨ob0,e0,d0⟩
   ·exact ⟨u,q,d1⟩
  have a2:∃ w,S[m']?=some w∧w≠.dead:=by
   rcases cP hn e2 with ⟨rfl,rfl⟩ | ⟨z,q⟩
   ·exact ⟨ob0,e0,d0⟩
   ·exact ⟨v,q,d2⟩
  obtain ⟨w1,x1,y1⟩:=a1
  obtain ⟨w2,x2,y2⟩:=a2
  exact h.inj m m' w1 w2 x1 x2 y1 y2 q
 ·rw [List.getElem?_set_ne]
  ·exact e
  ·rintro rfl
   rw [e0] at e;cases e;exact d0 rfl
 ·rw [List.getElem?_eq_none (by rw [List.length_set];exact l)] at e;cases e
 ·by_cases z:b=μ n
  ·subst z;exact ⟨o,bC⟩
  ·exact ⟨u,by rw [aB z];exact q⟩
theorem Step.freeze (h:HR μ S H) {n:Nat} {ob:Ob} (e0:S[n]?=some ob) (d0:ob≠.dead):Step μ S H μ (S.set n .dead) H∧¬Al μ (S.set n .dead) (μ n):=by
 have hn:n < S.length:=(List.getElem?_eq_some_iff.mp e0).1
 have al:∀ {b},Al μ (S.set n .dead) b→Al μ S b:=by
  rintro b ⟨m,u,e,d,rfl⟩
  rcases cP hn e with ⟨rfl,rfl⟩ | ⟨z,q⟩
  ·exact absurd rfl d
  ·exact ⟨m,u,q,d,rfl⟩
 have k:dE (vh μ S H) (vh μ (S.set n .dead) H):=fun b u q=>by
  obtain ⟨z,q⟩:=aR q
  exact bJ q fun c=>z (al c)
 have inn:∀ m u,(S.set n .dead)[m]?=some u→u≠.dead→S[m]?=some u∧m≠n:=fun m u e d=>by
  rcases cP hn e with ⟨rfl,rfl⟩ | ⟨z,q⟩
  ·exact absurd rfl d
  ·exact ⟨q,z⟩
 refine ⟨⟨fun _ _=>rfl,by rw [List.length_set];exact Nat.le_refl _,⟨fun m u e=>?_,fun m m' u v e1 e2 d1 d2 q=>h.inj m m' u v (inn m u e1 d1).1 (inn m' v e2 d2).1 d1 d2 q⟩,fun m e=>?_,fun m u l e _=>?_,fun b u q z=>q,fun b u q=>⟨u,q⟩⟩,?_⟩
 ·by_cases d:u=.dead
  ·subst d;exact True.intro
  ·exact (h.ob m u (inn m u e d).1).mono (fun _=>rfl) k
 ·by_cases z:m=n
  ·subst z;rw [List.getElem?_set,if_pos rfl,if_pos hn]
  ·rw [List.getElem?_set_ne (fun c=>z c.symm)];exact e
 ·rw [List.getElem?_eq_none (by rw [List.length_set];exact l)] at e;cases e
 ·rintro ⟨m,u,e,d,q⟩
  obtain ⟨e1,z⟩:=inn m u e d
  exact z (h.inj m n u ob e1 e0 d d0 q)
theorem Step.rX (h:HR μ S H) {n:Nat} {ob:Ob} (o':HO) (e0:S[n]?=some ob) (d0:ob≠.dead):Step μ S H μ (S.set n .dead) (upd H (μ n) o')∧¬Al μ (S.set n .dead) (μ n):=by
 have hn:n < S.length:=(List.getElem?_eq_some_iff.mp e0).1
 have al0:Al μ S (μ n):=⟨n,ob,e0,d0,rfl⟩
 obtain ⟨st,na⟩:=Step.freeze h e0 d0
 have k:dE (vh μ S H) (vh μ (S.set n .dead) (upd H (μ n) o')):=fun b u q=>by
  obtain ⟨z,q'⟩:=aR q
  exact bJ (by rw [aB (fun c=>z (by rw [c];exact al0))];exact q') (aR (st.vis b u q)).1
 refine ⟨⟨st.ag,st.le,⟨fun m u e=>?_,st.hr.inj⟩,st.dd,fun m u l e d=>st.nw m u l e d,fun b u q z=>by rw [aB (fun c=>z (by rw [c];exact al0))];exact q,fun b u q=>?_⟩,na⟩
 ·rcases cP hn e with ⟨rfl,rfl⟩ | ⟨z,q⟩
  ·exact True.intro
  ·by_cases d:u=.dead
   ·subst d;exact True.intro
   ·exact (h.ob m u q).mono (fun _=>aB fun c=>z (h.inj m n u ob q e0 d d0 c)) k
 ·by_cases z:b=μ n
  ·subst z;exact ⟨o',bC⟩
  ·exact ⟨u,by rw [aB z];exact q⟩
theorem df {k n:Nat} {u:Ob} (e:(S.take k)[n]?=some u):n < k∧S[n]?=some u:=by
 rw [List.getElem?_take] at e
 split at e
 ·exact ⟨‹_›,e⟩
 ·cases e
theorem Step.take (a:Step μ S H μ' S' H'):Step μ S H μ' (S'.take S.length) H':=by
 have al:∀ {b},Al μ' (S'.take S.length) b→Al μ' S' b:=by
  rintro b ⟨m,u,e,d,rfl⟩
  exact ⟨m,u,(df e).2,d,rfl⟩
 have k:dE (vh μ' S' H') (vh μ' (S'.take S.length) H'):=fun b u q=>by
  obtain ⟨z,q⟩:=aR q
  exact bJ q fun c=>z (al c)
 refine ⟨a.ag,by rw [List.length_take];have:=a.le;omega,⟨fun m u e=>(a.hr.ob m u (df e).2).mono (fun _=>rfl) k,fun m m' u v e1 e2=>a.hr.inj m m' u v (df e1).2 (df e2).2⟩,fun n e=>?_,fun n u l e _=>?_,a.ko,a.dm⟩
 ·have hn:n < S.length:=(List.getElem?_eq_some_iff.mp e).1
  rw [List.getElem?_take,if_pos hn]
  exact a.dd n e
 ·have:=(df e).1
  omega
theorem Step.move (a:Step μ S H μ' S' H') {n:Nat} {ob:Ob} (hn:S.length≤n) (e0:S'[n]?=some ob) (d0:ob≠.dead):Step μ S H (ext μ' S.length (μ' n)) (S'.take S.length++[ob]) H':=by
 have lt:(S'.take S.length).length=S.length:=by rw [List.length_take];have:=a.le;omega
 have get:∀ m u,(S'.take S.length++[ob])[m]?=some u→∃ j,S'[j]?=some u∧ext μ' S.length (μ' n) m=μ' j∧((m < S.length∧j=m)∨(m=S.length∧j=n)):=fun m u e=>by
  by_cases hm:m < S.length
  ·rw [List.getElem?_append_left (by omega)] at e
   exact ⟨m,(df e).2,kB (Nat.ne_of_lt hm),.inl ⟨hm,rfl⟩⟩
  ·rw [List.getElem?_append_right (by omega)] at e
   have hz:m - (S'.take S.length).length=0:=by
    refine Nat.eq_zero_of_not_pos fun z=>?_
    rw [List.getElem?_eq_none (by simp;omega)] at e;cases e
   rw [hz] at e
   have hm':m=S.length:=by omega
   subst hm'
   obtain rfl:ob=u:=by simpa using e
   exact ⟨n,e0,cQ,.inr ⟨rfl,rfl⟩⟩
 have al:∀ {b},Al (ext μ' S.length (μ' n)) (S'.take S.length++[ob]) b→Al μ' S' b:=by
  rintro b ⟨m,u,e,d,rfl⟩
  obtain ⟨j,q,z,_⟩:=get m u e
  exact ⟨j,u,q,d,z.symm⟩
 have k:dE (vh μ' S' H') (vh (ext μ' S.length (μ' n)) (S'.take S.length++[ob]) H'):=fun b u q=>by
  obtain ⟨z,q⟩:=aR q
  exact bJ q fun c=>z (al c)
 refine ⟨fun m hm=>(kB (Nat.ne_of_lt hm)).trans (a.ag m hm),by rw [List.length_append,lt];simp,⟨fun m u e=>?_,fun m m' u v e1 e2 d1 d2 q=>?_⟩,fun m e=>?_,fun m u l e d=>?_,a.ko,a.dm⟩
 ·obtain ⟨j,q,z,_⟩:=get m u e
  rw [z]
  exact (a.hr.ob j u q).mono (fun _=>rfl) k
 ·obtain ⟨j,q1,z1,w1⟩:=get m u e1
  obtain ⟨j',q2,z2,w2⟩:=get m' v e2
  rw [z1,z2] at q
  have:=a.hr.inj j j' u v q1 q2 d1 d2 q
  omega
 ·have hm:m < S.length:=(List.getElem?_eq_some_iff.mp e).1
  rw [List.getElem?_append_left (by omega),List.getElem?_take,if_pos hm]
  exact a.dd m e
 ·obtain ⟨j,q,z,w⟩:=get m u e
  rw [z]
  have hj:S.length≤j:=by omega
  exact a.nw j u hj q d
end
section
variable (K:PySem.W.Frag) (mg:Str→Option Value)
def aL (μ:Nat→Addr) (S:Sto) (H:Hp) (v:V):Vl→Prop
 | .d x=>Rep (vh μ S H) v x
 | .r n=>v=.ref (μ n)∧n < S.length
 | .fd kvs=>∃ (a:Addr) (vs:List V) (o:Obj),v=.ref a∧vs.length=kvs.length∧vh μ S H a=some (.frz o (.dK ((kvs.map (·.1)).zip vs)))∧aw (vh μ S H) vs (kvs.map (·.2))
 | .fn x=>∃ f:Addr,mg x=some (.ref f)∧v=.ref f
 | .sc ns=>∃ l:Addr,v=.ref l∧SqL K (vh μ S H) l (ns.map V.int)
 | .pr x n=>∃ (a:Addr) (u:V),v=.ref a∧vh μ S H a=some (.tup [u,.ref (μ n)])∧Rep (vh μ S H) u x∧n < S.length
inductive bB (μ:Nat→Addr) (S:Sto) (H:Hp):List V→List Vl→Prop
 | nil:bB μ S H [] []
 | cons {v:V} {x:Vl} {vs:List V} {xs:List Vl}:aL K mg μ S H v x→bB μ S H vs xs→bB μ S H (v :: vs) (x :: xs)
structure b8 (μ:Nat→Addr) (S:Sto) (H:Hp) (σ:St) (τ:Nv):Prop where
 len:σ.length=τ.length
 get:∀ (i:Nat) (x:Vl),τ[i]?=some (some x)→∃ v,σ[i]?=some (some v)∧aL K mg μ S H v x
end
section
variable {K:PySem.W.Frag} {mg:Str→Option Value} {μ μ':Nat→Addr} {S S':Sto} {H H':Hp}
theorem SqL.mono {l:Addr} {xs:List V} {H H':Hp} (k:dE H H') (h:SqL K H l xs):SqL K H' l xs:=by
 rcases h with (h | ⟨o,h⟩) | h
 ·exact .inl (.inl (k _ _ h))
 ·exact .inl (.inr ⟨o,k _ _ h⟩)
 ·exact .inr h
theorem aL.step {v:V} {x:Vl} (a:Step μ S H μ' S' H') (h:aL K mg μ S H v x):aL K mg μ' S' H' v x:=by
 cases x with
 | d x=>exact Rep.mono a.vis h
 | r n=>obtain ⟨rfl,hn⟩:=h;exact ⟨by rw [a.ag n hn],Nat.lt_of_lt_of_le hn a.le⟩
 | fd kvs=>obtain ⟨p,vs,o,e,l,q,r⟩:=h;exact ⟨p,vs,o,e,l,a.vis _ _ q,r.mono a.vis⟩
 | pr x n=>obtain ⟨p,u,e,q,r,hn⟩:=h;exact ⟨p,u,e,by rw [a.ag n hn];exact a.vis _ _ q,Rep.mono a.vis r,Nat.lt_of_lt_of_le hn a.le⟩
 | fn x=>exact h
 | sc ns=>obtain ⟨l,e,q⟩:=h;exact ⟨l,e,q.mono a.vis⟩
theorem bB.step (a:Step μ S H μ' S' H'):∀ {vs:List V} {xs:List Vl},bB K mg μ S H vs xs→bB K mg μ' S' H' vs xs
 | _,_,.nil=>.nil
 | _,_,.cons r t=>.cons (r.step a) (bB.step a t)
theorem bB.length:∀ {vs:List V} {xs:List Vl},bB K mg μ S H vs xs→vs.length=xs.length
 | _,_,.nil=>rfl
 | _,_,.cons _ t=>by simp [bB.length t]
theorem bB.get:∀ {vs:List V} {xs:List Vl} {i:Nat} {x:Vl},bB K mg μ S H vs xs→xs[i]?=some x→∃ v,vs[i]?=some v∧aL K mg μ S H v x
 | _,_,_,_,.nil,e=>by simp at e
 | _,_,0,_,.cons r _,e=>by simp at e;subst e;exact ⟨_,rfl,r⟩
 | _,_,i+1,x,.cons _ t,e=>by
  obtain ⟨d,h1,h2⟩:=bB.get (i:=i) (x:=x) t (by simpa using e)
  exact ⟨d,by simpa using h1,h2⟩
theorem bB.sY:∀ {vs:List V} {ds:List D},aw (vh μ S H) vs ds→bB K mg μ S H vs (ds.map Vl.d)
 | _,_,.nil=>.nil
 | _,_,.cons r t=>.cons (show aL K mg μ S H _ (.d _) from r) (bB.sY t)
theorem b8.step {σ:St} {τ:Nv} (a:Step μ S H μ' S' H') (h:b8 K mg μ S H σ τ):b8 K mg μ' S' H' σ τ:=
 ⟨h.len,fun i x e=>by obtain ⟨v,e1,r⟩:=h.get i x e;exact ⟨v,e1,r.step a⟩⟩
theorem b8.set {σ:St} {τ:Nv} {v:V} {x:Vl} (i:Nat) (h:b8 K mg μ S H σ τ) (r:aL K mg μ S H v x):b8 K mg μ S H (σ.set i (some v)) (τ.set i (some x)):=by
 refine ⟨by rw [List.length_set,List.length_set];exact h.len,fun j y e=>?_⟩
 rw [List.getElem?_set] at e ⊢
 by_cases q:i=j
 ·subst q
  rw [if_pos rfl] at e ⊢
  by_cases hl:i < τ.length
  ·rw [if_pos hl] at e
   cases e
   exact ⟨v,by rw [if_pos (by rw [h.len];exact hl)],r⟩
  ·rw [if_neg hl] at e;cases e
 ·rw [if_neg q] at e ⊢
  exact h.get j y e
theorem b8.pre {σ:St} {τ:Nv} (k:Nat) (h:b8 K mg μ S H σ τ):b8 K mg μ S H (List.replicate k none++σ) (List.replicate k none++τ):=by
 refine ⟨by simp [h.len],fun i x e=>?_⟩
 by_cases hi:i < k
 ·rw [List.getElem?_append_left (by simpa using hi),List.getElem?_replicate,if_pos hi] at e
  cases e
 ·rw [List.getElem?_append_right (by simpa using hi)] at e ⊢
  simpa using h.get (i - k) x (by simpa using e)
theorem b8.beg {N:List Str} {vs:List V} {us:List Vl} (h:bB K mg μ S H vs us):b8 K mg μ S H (L2.start N vs) (us.map some++List.replicate (N.length - us.length) none):=by
 have l:=h.length
 refine ⟨by simp [L2.start,l],fun i x e=>?_⟩
 unfold L2.start
 by_cases hi:i < us.length
 ·rw [List.getElem?_append_left (by simpa using hi),List.getElem?_map] at e
  cases q:us[i]? with
  | none=>rw [q] at e;cases e
  | some y=>
   rw [q] at e
   cases e
   obtain ⟨v,e1,r⟩:=h.get q
   exact ⟨v,by rw [List.getElem?_append_left (by simp;omega),List.getElem?_map,e1];rfl,r⟩
 ·rw [List.getElem?_append_right (by simpa using hi),List.getElem?_replicate] at e
  split at e<;>cases e
end
abbrev WX:=Str→List (Str×D)→Sto→(Nat→Addr)→Hp→Prop
abbrev W0:WX:=fun _ _ _ _ _=>False
def aN {α β:Type} (Rl:(Nat→Addr)→Sto→Hp→β→α→Prop) (WE:WX) (μ:Nat→Addr) (S:Sto) (H:Hp) (res:R α) (Q:β→Hp→Prop):Prop:=match res with
 | .ok a S'=>∀ b μ' H',Step μ S H μ' S' H'→Rl μ' S' H' b a→Q b H'
 | .ex c xs S'=>∀ μ' H',Step μ S H μ' S' H'→WE c xs S' μ' H'
 | .bad=>False
section
variable {α β γ δ:Type} {Rl:(Nat→Addr)→Sto→Hp→β→α→Prop} {Rl2:(Nat→Addr)→Sto→Hp→δ→γ→Prop} {WE:WX} {μ μ1:Nat→Addr} {S S1:Sto} {H H1:Hp} {res:R α} {Q:β→Hp→Prop} {Q2:δ→Hp→Prop}
theorem aN.shift (h:aN Rl WE μ S H res Q) (a:Step μ S H μ1 S1 H1):aN Rl WE μ1 S1 H1 res Q:=by
 cases res with
 | ok x S'=>exact fun b μ' H' st r=>h b μ' H' (a.trans st) r
 | ex c xs S'=>exact fun μ' H' st=>h μ' H' (a.trans st)
 | bad=>exact h
theorem aN.bind {f:α→Sto→R γ} (h:aN Rl2 WE μ S H (res.bind f) Q2) (k:∀ b a S1 μ1 H1,Step μ S H μ1 S1 H1→Rl μ1 S1 H1 b a→aN Rl2 WE μ1 S1 H1 (f a S1) Q2→Q b H1):aN Rl WE μ S H res Q:=by
 cases res with
 | ok x S'=>exact fun b μ' H' st r=>k b x S' μ' H' st r (aN.shift (show aN Rl2 WE μ S H (f x S') Q2 from h) st)
 | ex c xs S'=>exact h
 | bad=>exact h
theorem aN.here {a:α} {b:β} (hr:HR μ S H) (h:aN Rl WE μ S H (.ok a S) Q) (r:Rl μ S H b a):Q b H:=h b μ H (Step.refl hr) r
end
inductive FlV where
 | nx | bk | ct | rt (v:V)
def Ends.at (D:Ends) (p:FlV×St) (H:Hp):Prop:=match p.1 with
 | .nx=>D.nx p.2 H
 | .bk=>D.bk p.2 H
 | .ct=>D.ct p.2 H
 | .rt v=>D.rt v H
section
variable (K:PySem.W.Frag) (mg:Str→Option Value)
def FlR (μ:Nat→Addr) (S:Sto) (H:Hp):FlV→Fl→Prop
 | .nx,.nx=>True
 | .bk,.bk=>True
 | .ct,.ct=>True
 | .rt v,.rt z=>aL K mg μ S H v z
 | _,_=>False
def RlS (μ:Nat→Addr) (S:Sto) (H:Hp) (p:FlV×St) (q:Fl×Nv):Prop:=b8 K mg μ S H p.2 q.2∧FlR K mg μ S H p.1 q.1
abbrev RlQ {α:Type} (_:Nat→Addr) (_:Sto) (_:Hp) (b a:α):Prop:=b=a
structure gT (μ:Nat→Addr) (S:Sto) (H:Hp) (J:It) (I:Its):Prop where
 ok:I.ok S
 len:I.items.length≤sizeLine
 go:∀ i z μ' S' H',Step μ S H μ' S' H'→I.ok S'→I.items[i]?=some z→J.go i H'
 yld:∀ i z μ' S' H' x H2,Step μ S H μ' S' H'→I.ok S'→I.items[i]?=some z→J.yld i H' x H2→Step μ' S' H' μ' S' H2∧aL K mg μ' S' H2 x z
 stop:∀ i μ' S' H',Step μ S H μ' S' H'→I.ok S'→I.items.length=i→J.stop i H'
def trE (WE:WX) (m:XE):TE:=fun σ H Q=>∃ μ S τ,HR μ S H∧b8 K mg μ S H σ τ∧aN (aL K mg) WE μ S H (m τ S) Q
def trT (WE:WX) (m:XT):TT:=fun σ H Q=>∃ μ S τ,HR μ S H∧b8 K mg μ S H σ τ∧aN RlQ WE μ S H (m τ S) Q
def trA (WE:WX) (m:XA):TA:=fun σ H Q=>∃ μ S τ,HR μ S H∧b8 K mg μ S H σ τ∧aN (bB K mg) WE μ S H (m τ S) Q
def trO (WE:WX) (m:XO):TO:=fun σ H Q=>∃ μ S τ,HR μ S H∧b8 K mg μ S H σ τ∧aN RlQ WE μ S H (m τ S) Q
def trS (WE:WX) (m:XS):TS:=fun D σ H=>∃ μ S τ,HR μ S H∧b8 K mg μ S H σ τ∧aN (RlS K mg) WE μ S H (m τ S) D.at
def trG (WE:WX) (g:XG):TG:=fun v σ H Q=>∃ μ S τ z,HR μ S H∧b8 K mg μ S H σ τ∧aL K mg μ S H v z∧aN (b8 K mg) WE μ S H (g z τ S) Q
def GB (WE:WX) (g:XGs):TGs:=fun vs σ H Q=>∃ μ S τ zs,HR μ S H∧b8 K mg μ S H σ τ∧bB K mg μ S H vs zs∧aN (b8 K mg) WE μ S H (g zs τ S) Q
def trI (WE:WX) (it:XI):TI:=fun σ H Rr=>∃ μ S τ,HR μ S H∧b8 K mg μ S H σ τ∧aN (gT K mg) WE μ S H (it τ S) Rr
end
structure RE (X:Cx) (WE:WX) (e:Expr) (m:XE):Prop where
 h:PE X e (trE X.K X.mg WE m)
structure RT (X:Cx) (WE:WX) (e:Expr) (m:XT):Prop where
 h:PT X e (trT X.K X.mg WE m)
structure RW (X:Cx) (WE:WX) (e:Expr) (m:XT):Prop where
 h:PW X e (trT X.K X.mg WE m)
structure RA (X:Cx) (WE:WX) (es:List Expr) (m:XA):Prop where
 h:PA X es (trA X.K X.mg WE m)
structure RO (X:Cx) (WE:WX) (e:Option Expr) (m:XO):Prop where
 h:PO X e (trO X.K X.mg WE m)
structure RS (X:Cx) (WE:WX) (s:Stmt) (m:XS):Prop where
 h:PS X s (trS X.K X.mg WE m)
structure RB (X:Cx) (WE:WX) (s:List Stmt) (m:XS):Prop where
 h:PSs X s (trS X.K X.mg WE m)
structure RG (X:Cx) (WE:WX) (t:Expr) (g:XG):Prop where
 h:PG X t (trG X.K X.mg WE g)
structure RGs (X:Cx) (WE:WX) (ts:List Expr) (g:XGs):Prop where
 h:PGs X ts (GB X.K X.mg WE g)
structure RI (X:Cx) (WE:WX) (tg iter:Expr) (it:XI):Prop where
 h:PI X tg iter (trI X.K X.mg WE it)
structure RTs (X:Cx) (WE:WX) (ifs:List Expr) (m:XT):Prop where
 h:PTs X ifs (trT X.K X.mg WE m)
section
variable {X:Cx}
theorem PE.weak {e:Expr} {t t':TE} (h:PE X e t) (k:∀ σ H Q,t' σ H Q→t σ H Q):PE X e t':=fun pins s σ H Q I q=>h pins s σ H Q I (k σ H Q q)
theorem PT.weak {e:Expr} {t t':TT} (h:PT X e t) (k:∀ σ H Q,t' σ H Q→t σ H Q):PT X e t':=fun pins s σ H Q I q=>h pins s σ H Q I (k σ H Q q)
theorem PW.weak {e:Expr} {t t':TT} (h:PW X e t) (k:∀ σ H Q,t' σ H Q→t σ H Q):PW X e t':=fun wh pins s σ H Q I q=>h wh pins s σ H Q I (k σ H Q q)
theorem PA.weak {e:List Expr} {t t':TA} (h:PA X e t) (k:∀ σ H Q,t' σ H Q→t σ H Q):PA X e t':=fun po pins s σ H Q I q=>h po pins s σ H Q I (k σ H Q q)
theorem PS.weak {e:Stmt} {t t':TS} (h:PS X e t) (k:∀ D σ H,t' D σ H→t D σ H):PS X e t':=fun pins s σ H D I q=>h pins s σ H D I (k D σ H q)
theorem PSs.weak {e:List Stmt} {t t':TS} (h:PSs X e t) (k:∀ D σ H,t' D σ H→t D σ H):PSs X e t':=fun pins s σ H D I q=>h pins s σ H D I (k D σ H q)
theorem PG.weak {e:Expr} {t t':TG} (h:PG X e t) (k:∀ v σ H Q,t' v σ H Q→t v σ H Q):PG X e t':=fun pins s σ H v u Q I r q=>h pins s σ H v u Q I r (k v σ H Q q)
theorem PGs.weak {e:List Expr} {t t':TGs} (h:PGs X e t) (k:∀ v σ H Q,t' v σ H Q→t v σ H Q):PGs X e t':=fun pins s σ H v u Q I r q=>h pins s σ H v u Q I r (k v σ H Q q)
theorem PI.weak {tg e:Expr} {t t':TI} (h:PI X tg e t) (k:∀ σ H Q,t' σ H Q→t σ H Q):PI X tg e t':=fun pins s σ H Q I q=>h pins s σ H Q I (k σ H Q q)
end
def cO (K:PySem.W.Frag) (mg:Str→Option Value) (r:R2) (f:Vl→Vl→Sto→R Vl):Prop:=∀ (WE:WX) (μ:Nat→Addr) (S:Sto) (H:Hp) (v w:V) (x y:Vl) (Q:VK),HR μ S H→aL K mg μ S H v x→aL K mg μ S H w y→aN (aL K mg) WE μ S H (f x y S) Q→r v w H Q
def B3 (K:PySem.W.Frag) (mg:Str→Option Value) (r:V→Hp→VK→Prop) (f:Vl→Sto→R Vl):Prop:=∀ (WE:WX) (μ:Nat→Addr) (S:Sto) (H:Hp) (v:V) (x:Vl) (Q:VK),HR μ S H→aL K mg μ S H v x→aN (aL K mg) WE μ S H (f x S) Q→r v H Q
def eC (K:PySem.W.Frag) (mg:Str→Option Value) (r:List V→Hp→VK→Prop) (f:List Vl→Sto→R Vl):Prop:=∀ (WE:WX) (μ:Nat→Addr) (S:Sto) (H:Hp) (vs:List V) (xs:List Vl) (Q:VK),HR μ S H→bB K mg μ S H vs xs→aN (aL K mg) WE μ S H (f xs S) Q→r vs H Q
def aa (i:Nat):XE:=fun τ S=>match τ[i]? with
 | some (some v)=>.ok v S
 | _=>.bad
def xC (d:D):XE:=fun _ S=>.ok (.d d) S
def xFn (x:Str):XE:=fun _ S=>.ok (.fn x) S
def xOp (f:Vl→Vl→Sto→R Vl) (a b:XE):XE:=fun τ S=>(a τ S).bind fun x S1=>(b τ S1).bind fun y S2=>f x y S2
def xUn (f:Vl→Sto→R Vl) (a:XE):XE:=fun τ S=>(a τ S).bind fun x S1=>f x S1
def fO (f f':Vl→Vl→Sto→R Vl) (a b c:XE):XE:=fun τ S=>(a τ S).bind fun x S1=>(b τ S1).bind fun y S2=>(f x y S2).bind fun z S3=>match z with
 | .d (.bl k)=>if k=true then (c τ S3).bind fun w S4=>f' y w S4 else .ok (.d (.bl false)) S3
 | _=>.bad
def asB (z:Vl) (S:Sto):R Bool:=match z with
 | .d (.bl b)=>.ok b S
 | _=>.bad
def aM (a:XE):XT:=fun τ S=>(a τ S).bind asB
def tru (z:Vl) (S:Sto):R Bool:=match z with
 | .d .non=>.ok false S
 | .d (.bl b)=>.ok b S
 | .d (.int i)=>.ok (i != 0) S
 | .d (.tup xs)=>.ok (!xs.isEmpty) S
 | .d (.lst xs)=>.ok (!xs.isEmpty) S
 | .r n=>match S[n]? with
  | some (.lst xs)=>.ok (!xs.isEmpty) S
  | some (.dct kvs)=>.ok (!kvs.isEmpty) S
  | _=>.bad
 | _=>.bad
def bW (a:XE):XT:=fun τ S=>(a τ S).bind tru
def G3 (a b:XT):XT:=fun τ S=>(a τ S).bind fun c S1=>if c=true then b τ S1 else .ok false S1
def xOr (a b:XT):XT:=fun τ S=>(a τ S).bind fun c S1=>if c=true then .ok true S1 else b τ S1
def dr (a:XT):XT:=fun τ S=>(a τ S).bind fun c S1=>.ok (!c) S1
def bT (a b:XE):XE:=fun τ S=>(a τ S).bind fun x S1=>(asB x S1).bind fun c S2=>if c=true then b τ S2 else .ok (.d (.bl false)) S2
def yM (a b:XE):XE:=fun τ S=>(a τ S).bind fun x S1=>(asB x S1).bind fun c S2=>if c=true then .ok (.d (.bl true)) S2 else b τ S2
def pY (a:XE):XE:=fun τ S=>(a τ S).bind fun x S1=>(asB x S1).bind fun c S2=>.ok (.d (.bl (!c))) S2
def G9 (c:XT) (a b:XE):XE:=fun τ S=>(c τ S).bind fun k S1=>if k=true then a τ S1 else b τ S1
def aj:XA:=fun _ S=>.ok [] S
def ab (a:XE) (r:XA):XA:=fun τ S=>(a τ S).bind fun x S1=>(r τ S1).bind fun xs S2=>.ok (x :: xs) S2
def iM:List Vl→Option (List D)
 | []=>some []
 | .d x :: r=>(iM r).map (x :: ·)
 | _=>none
def mkT (xs:List Vl) (S:Sto):R Vl:=match iM xs with
 | some ds=>if ds.length≤100000 then .ok (.d (.tup ds)) S else .bad
 | none=>.bad
def mkL (xs:List Vl) (S:Sto):R Vl:=match iM xs with
 | some ds=>if ds.length≤100000 then .ok (.d (.lst ds)) S else .bad
 | none=>.bad
def mkM (xs:List Vl) (S:Sto):R Vl:=match iM xs with
 | some ds=>if ds.length≤100000 then .ok (.r S.length) (S++[.lst ds]) else .bad
 | none=>.bad
def xN (f:List Vl→Sto→R Vl) (as:XA):XE:=fun τ S=>(as τ S).bind f
def frz (z:Vl) (S:Sto):R Vl:=match z with
 | .r n=>match S[n]? with
  | some (.lst xs)=>.ok (.d (.lst xs)) (S.set n .dead)
  | some (.dct kvs)=>.ok (.fd kvs) (S.set n .dead)
  | _=>.bad
 | z=>.ok z S
def xFz (a:XE):XE:=fun τ S=>(a τ S).bind frz
def n4:XO:=fun _ S=>.ok none S
def nM (a:XE):XO:=fun τ S=>(a τ S).bind fun x S1=>match x with
 | .d (.int i)=>.ok (some i) S1
 | _=>.bad
def xSl (f:Vl→Option Int→Option Int→Sto→R Vl) (a:XE) (l h:XO):XE:=fun τ S=>(a τ S).bind fun x S1=>(l τ S1).bind fun i S2=>(h τ S2).bind fun j S3=>f x i j S3
section
variable {X:Cx} {WE:WX} {a b c e:Expr} {xa xb xc xe:XE} {pos:Pos} {es:List Expr} {t u:XT}
theorem rv (i:Nat) {x:Str} (hN:X.N[i]?=some x:=by rfl) (hv:Vis X.env.scope x:=by first | exact Or.inl rfl | exact Or.inr (Or.inl rfl) | exact Or.inr (Or.inr rfl)) (hd:(x == ("__debug__":Str))=false:=by decide)
  (hcd:(x == ("__classdict__":Str))=false:=by decide):RE X WE (.Name x pos) (aa i):=⟨(BX hN hv hd hcd).weak fun σ H Q ⟨μ,S,τ,hr,sr,p⟩=>by
 unfold aa at p
 split at p
 ·obtain ⟨v,e1,r⟩:=sr.get _ _ ‹_›
  exact ⟨v,e1,p.here hr r⟩
 ·exact p.elim⟩
theorem ai {i j}:RE X WE (.Constant (.int i) j pos) (xC (.int i)):=⟨B1.weak fun _ _ _ ⟨_,_,_,hr,_,p⟩=>p.here hr (Rep.int i)⟩
theorem bY {i j}:RE X WE (.Constant (.bool i) j pos) (xC (.bl i)):=⟨FE.weak fun _ _ _ ⟨_,_,_,hr,_,p⟩=>p.here hr (Rep.bl i)⟩
theorem xp {j}:RE X WE (.Constant .none j pos) (xC .non):=⟨Ek.weak fun _ _ _ ⟨_,_,_,hr,_,p⟩=>p.here hr Rep.non⟩
theorem cB {x j}:RE X WE (.Constant (.str x) j pos) (xC (.str x)):=⟨CL.weak fun _ _ _ ⟨_,_,_,hr,_,p⟩=>p.here hr (Rep.str x)⟩
theorem two {r:R2} {f:Vl→Vl→Sto→R Vl} (hf:cO X.K X.mg r f) {σ:St} {H:Hp} {Q:VK} (h:trE X.K X.mg WE (xOp f xa xb) σ H Q):tOp r (trE X.K X.mg WE xa) (trE X.K X.mg WE xb) σ H Q:=by
 obtain ⟨μ,S,τ,hr,sr,p⟩:=h
 refine ⟨μ,S,τ,hr,sr,p.bind fun v x S1 μ1 H1 st1 r1 p1=>?_⟩
 refine ⟨μ1,S1,τ,st1.hr,sr.step st1,p1.bind fun w y S2 μ2 H2 st2 r2 p2=>?_⟩
 exact hf WE μ2 S2 H2 v w x y Q st2.hr (r1.step st2) r2 p2
theorem aP {op:Operator} {r:R2} {f:Vl→Vl→Sto→R Vl} (ho:OpR X (binaryOp op) r) (hf:cO X.K X.mg r f) (ha:RE X WE a xa) (hb:RE X WE b xb):RE X WE (.BinOp a op b pos) (xOp f xa xb):=
 ⟨(FO ho ha.h hb.h).weak fun _ _ _ h=>two hf h⟩
theorem nH {op:UnaryOp} {r:V→Hp→VK→Prop} {f:Vl→Sto→R Vl} (ho:UnR X (unaryOp op) r) (hf:B3 X.K X.mg r f) (ha:RE X WE a xa):RE X WE (.UnaryOp op a pos) (xUn f xa):=
 ⟨(E1 ho ha.h).weak fun σ H Q ⟨μ,S,τ,hr,sr,p⟩=>⟨μ,S,τ,hr,sr,p.bind fun v x S1 μ1 H1 st1 r1 p1=>hf WE μ1 S1 H1 v x Q st1.hr r1 p1⟩⟩
theorem b_ {op:CmpOp} {r:R2} {f:Vl→Vl→Sto→R Vl} (ho:OpR X (compareOp op) r) (hf:cO X.K X.mg r f) (ha:RE X WE a xa) (hb:RE X WE b xb) (hm:behindInMarks op b=false:=by first | exact vq _ | with_unfolding_all rfl):RE X WE (.Compare a [op] [b] pos) (xOp f xa xb):=
 ⟨(Bj ho ha.h hb.h hm).weak fun _ _ _ h=>two hf h⟩
theorem tT {σ:St} {H:Hp} {Q:Bool→Hp→Prop} (h:trT X.K X.mg WE (aM xa) σ H Q):trE X.K X.mg WE xa σ H fun v H'=>∃ k,v=.bl k∧Q k H':=by
 obtain ⟨μ,S,τ,hr,sr,p⟩:=h
 refine ⟨μ,S,τ,hr,sr,p.bind fun v x S1 μ1 H1 st1 r1 p1=>?_⟩
 unfold asB at p1
 split at p1
 ·cases (show Rep (vh μ1 S1 H1) v (.bl _) from r1)
  exact ⟨_,rfl,p1.here st1.hr rfl⟩
 ·exact p1.elim
theorem aK {op:CmpOp} {r:R2} {f:Vl→Vl→Sto→R Vl} (ho:OpR X (compareOp op) r) (hf:cO X.K X.mg r f) (ha:RE X WE a xa) (hb:RE X WE b xb) (hm:behindInMarks op b=false:=by first | exact vq _ | with_unfolding_all rfl):RT X WE (.Compare a [op] [b] pos) (aM (xOp f xa xb)):=
 ⟨(Ai ho ha.h hb.h hm).weak fun _ _ _ h=>two hf (tT h)⟩
theorem qT {r r':R2} {f f':Vl→Vl→Sto→R Vl} (hf:cO X.K X.mg r f) (hf':cO X.K X.mg r' f') {σ:St} {H:Hp} {Q:VK} (h:trE X.K X.mg WE (fO f f' xa xb xc) σ H Q):qf r r' (trE X.K X.mg WE xa) (trE X.K X.mg WE xb) (trE X.K X.mg WE xc) σ H Q:=by
 obtain ⟨μ,S,τ,hr,sr,p⟩:=h
 refine ⟨μ,S,τ,hr,sr,p.bind fun v x S1 μ1 H1 st1 r1 p1=>?_⟩
 refine ⟨μ1,S1,τ,st1.hr,sr.step st1,p1.bind fun w y S2 μ2 H2 st2 r2 p2=>?_⟩
 refine hf WE μ2 S2 H2 v w x y _ st2.hr (r1.step st2) r2 (p2.bind fun z zz S3 μ3 H3 st3 r3 p3=>?_)
 try dsimp only at p3
 split at p3
 ·cases (show Rep (vh μ3 S3 H3) z (.bl _) from r3)
  refine ⟨_,rfl,?_⟩
  split at p3
  ·rename_i k hk
   rw [if_pos hk]
   refine ⟨μ3,S3,τ,st3.hr,sr.step (st1.trans (st2.trans st3)),p3.bind fun q qq S4 μ4 H4 st4 r4 p4=>?_⟩
   exact hf' WE μ4 S4 H4 w q y qq Q st4.hr (r2.step (st3.trans st4)) r4 p4
  ·rename_i k hk
   rw [if_neg hk]
   exact p3.here st3.hr (Rep.bl false)
 ·exact p3.elim
theorem mM {op op':CmpOp} {r r':R2} {f f':Vl→Vl→Sto→R Vl} (ho:OpR X (compareOp op) r) (hf:cO X.K X.mg r f) (ho':OpR X (compareOp op') r') (hf':cO X.K X.mg r' f') (ha:RE X WE a xa) (hb:RE X WE b xb) (hc:RE X WE c xc)
  (hm:lastMarks [op,op'] [b,c]=false:=by with_unfolding_all rfl):RE X WE (.Compare a [op,op'] [b,c] pos) (fO f f' xa xb xc):=⟨(ye ho ho' ha.h hb.h hc.h hm).weak fun _ _ _ h=>qT hf hf' h⟩
theorem yg {op op':CmpOp} {r r':R2} {f f':Vl→Vl→Sto→R Vl} (ho:OpR X (compareOp op) r) (hf:cO X.K X.mg r f) (ho':OpR X (compareOp op') r') (hf':cO X.K X.mg r' f') (ha:RE X WE a xa) (hb:RE X WE b xb) (hc:RE X WE c xc)
  (hm:lastMarks [op,op'] [b,c]=false:=by with_unfolding_all rfl):RT X WE (.Compare a [op,op'] [b,c] pos) (aM (fO f f' xa xb xc)):=⟨(yH ho ho' ha.h hb.h hc.h hm).weak fun _ _ _ h=>qT hf hf' (tT h)⟩
theorem isE {α β:Type} {xs:List α} {ys:List β} (h:xs.length=ys.length):(!xs.isEmpty)=!ys.isEmpty:=by
  cases xs<;>cases ys<;>first | rfl | simp at h
theorem DJ {K:PySem.W.Frag} {mg:Str→Option Value} {WE:WX} {μ:Nat→Addr} {S:Sto} {H:Hp} {v:V} {x:Vl} {Q:Bool→Hp→Prop} (hr:HR μ S H) (r:aL K mg μ S H v x) (p:aN RlQ WE μ S H (tru x S) Q):∃ k,xD K v H k∧Q k H:=by
 unfold tru at p
 split at p
 ·cases (show Rep (vh μ S H) v .non from r);exact ⟨false,rfl,p.here hr rfl⟩
 ·cases (show Rep (vh μ S H) v (.bl _) from r);exact ⟨_,rfl,p.here hr rfl⟩
 ·cases (show Rep (vh μ S H) v (.int _) from r);exact ⟨_,rfl,p.here hr rfl⟩
 ·cases (show Rep (vh μ S H) v (.tup _) from r) with
  | tup h rs=>exact ⟨_,.inr (.inl ⟨_,SqT.of (aR h).2,rfl⟩),by rw [isE rs.length];exact p.here hr rfl⟩
 ·cases (show Rep (vh μ S H) v (.lst _) from r) with
  | lst h rs=>exact ⟨_,.inl ⟨_,SqL.of (aR h).2,rfl⟩,by rw [isE rs.length];exact p.here hr rfl⟩
 ·obtain ⟨rfl,hn⟩:=r
  split at p
  ·rename_i xs e
   obtain ⟨vs,h,rs⟩:=hr.ob _ _ e
   exact ⟨_,.inl ⟨_,SqL.of h,rfl⟩,by rw [isE rs.length];exact p.here hr rfl⟩
  ·rename_i kvs e
   obtain ⟨vs,l,h,rs⟩:=hr.ob _ _ e
   exact ⟨_,.inr (.inr ⟨_,h,rfl⟩),by rw [isE (ys:=kvs) (by simp [l])];exact p.here hr rfl⟩
  ·exact p.elim
 ·exact p.elim
theorem bh (ha:RE X WE a xa) (he:∀ whole,isTrue a X.env whole=(do let v ← whole;standAt a.pos;holding [v] (truthy v)):=by intro _;rfl):RT X WE a (bW xa):=
 ⟨(yY ha.h he).weak fun σ H Q ⟨μ,S,τ,hr,sr,p⟩=>⟨μ,S,τ,hr,sr,p.bind fun v x S1 μ1 H1 st1 r1 p1=>DJ st1.hr r1 p1⟩⟩
theorem dj (ha:RT X WE a t):RW X WE (.BoolOp .Or [a] pos) t:=⟨Cp ha.h⟩
theorem dv (ha:RT X WE a t) (hb:RW X WE (.BoolOp .Or (b :: es) pos) u):RW X WE (.BoolOp .Or (a :: b :: es) pos) (xOr t u):=
 ⟨(ET ha.h hb.h).weak fun σ H Q ⟨μ,S,τ,hr,sr,p⟩=>⟨μ,S,τ,hr,sr,p.bind fun k k' S1 μ1 H1 st1 r1 p1=>by
  cases (show k=k' from r1)
  try dsimp only at p1
  split at p1
  ·rename_i hk;rw [if_pos hk];exact p1.here st1.hr rfl
  ·rename_i hk;rw [if_neg hk];exact ⟨μ1,S1,τ,st1.hr,sr.step st1,p1⟩⟩⟩
theorem RW.rt (h:RW X WE a t):RT X WE a t:=⟨h.h.pt⟩
theorem cy (ha:RT X WE a t):RT X WE (.UnaryOp .Not a pos) (dr t):=
 ⟨(CB ha.h).weak fun σ H Q ⟨μ,S,τ,hr,sr,p⟩=>⟨μ,S,τ,hr,sr,p.bind fun k k' S1 μ1 H1 st1 r1 p1=>by
  cases (show k=k' from r1)
  exact p1.here st1.hr rfl⟩⟩
theorem rH {K:PySem.W.Frag} {mg:Str→Option Value} {α β:Type} {Rl:(Nat→Addr)→Sto→Hp→β→α→Prop} {μ:Nat→Addr} {S:Sto} {H:Hp} {v:V} {x:Vl} {Q:β→Hp→Prop} {f:Bool→Sto→R α} (r:aL K mg μ S H v x) (p:aN Rl WE μ S H ((asB x S).bind f) Q):∃ k,v=.bl k∧aN Rl WE μ S H (f k S) Q:=by
 unfold asB at p
 split at p
 ·cases (show Rep (vh μ S H) v (.bl _) from r)
  exact ⟨_,rfl,p⟩
 ·exact p.elim
theorem cb {op} (ha:RE X WE a xa):RE X WE (.BoolOp op [a] pos) xa:=⟨Ce ha.h⟩
theorem bK (ha:RE X WE a xa) (hb:RE X WE (.BoolOp .And (b :: es) pos) xb):RE X WE (.BoolOp .And (a :: b :: es) pos) (bT xa xb):=
 ⟨(C5 ha.h hb.h).weak fun σ H Q ⟨μ,S,τ,hr,sr,p⟩=>⟨μ,S,τ,hr,sr,p.bind fun v x S1 μ1 H1 st1 r1 p1=>by
  obtain ⟨k,rfl,p1⟩:=rH r1 p1
  refine ⟨k,rfl,?_⟩
  split at p1
  ·rename_i hk;rw [if_pos hk];exact ⟨μ1,S1,τ,st1.hr,sr.step st1,p1⟩
  ·rename_i hk;rw [if_neg hk];exact p1.here st1.hr (Rep.bl false)⟩⟩
theorem Fz (ha:RE X WE a xa) (hb:RE X WE (.BoolOp .Or (b :: es) pos) xb):RE X WE (.BoolOp .Or (a :: b :: es) pos) (yM xa xb):=
 ⟨(ER ha.h hb.h).weak fun σ H Q ⟨μ,S,τ,hr,sr,p⟩=>⟨μ,S,τ,hr,sr,p.bind fun v x S1 μ1 H1 st1 r1 p1=>by
  obtain ⟨k,rfl,p1⟩:=rH r1 p1
  refine ⟨k,rfl,?_⟩
  split at p1
  ·rename_i hk;rw [if_pos hk];exact p1.here st1.hr (Rep.bl true)
  ·rename_i hk;rw [if_neg hk];exact ⟨μ1,S1,τ,st1.hr,sr.step st1,p1⟩⟩⟩
theorem xt (ha:RE X WE a xa):RE X WE (.UnaryOp .Not a pos) (pY xa):=
 ⟨(BM ha.h).weak fun σ H Q ⟨μ,S,τ,hr,sr,p⟩=>⟨μ,S,τ,hr,sr,p.bind fun v x S1 μ1 H1 st1 r1 p1=>by
  obtain ⟨k,rfl,p1⟩:=rH r1 p1
  exact ⟨k,rfl,p1.here st1.hr (Rep.bl _)⟩⟩⟩
theorem ah:RA X WE [] aj:=⟨fK.weak fun σ H Q ⟨μ,S,τ,hr,sr,p⟩=>p.here hr .nil⟩
theorem ae {ts:XA} [n:NS e] (ha:RE X WE e xe) (hr:RA X WE es ts):RA X WE (e :: es) (ab xe ts):=
 ⟨(dH ha.h hr.h (n.eq es X.env)).weak fun σ H Q ⟨μ,S,τ,hr,sr,p⟩=>⟨μ,S,τ,hr,sr,p.bind fun v x S1 μ1 H1 st1 r1 p1=>⟨μ1,S1,τ,st1.hr,sr.step st1,p1.bind fun vs xs S2 μ2 H2 st2 r2 p2=>
  p2.here st2.hr (.cons (r1.step st2) r2)⟩⟩⟩
theorem gz {K:PySem.W.Frag} {mg:Str→Option Value} {μ:Nat→Addr} {S:Sto} {H:Hp}:∀ {vs:List V} {xs:List Vl} {ds:List D},bB K mg μ S H vs xs→iM xs=some ds→aw (vh μ S H) vs ds
 | _,_,_,.nil,e=>by simp [iM] at e;subst e;exact .nil
 | _,_,ds,@bB.cons _ _ _ _ _ v x vs xs r t,e=>by
  cases x with
  | d x=>
   simp only [iM,Option.map_eq_some_iff] at e
   obtain ⟨es,e1,rfl⟩:=e
   exact .cons r (gz t e1)
  | _=>simp [iM] at e
theorem js {n:Nat} (h:n≤100000):n≤sizeLine:=by rw [sizeLine_eq];omega
theorem aN.yT {K:PySem.W.Frag} {mg:Str→Option Value} {μ:Nat→Addr} {S:Sto} {H:Hp} {Q:VK} {vs:List V} {ds:List D} (hr:HR μ S H) (rs:aw (vh μ S H) vs ds) (p:aN (aL K mg) WE μ S H (.ok (.d (.tup ds)) S) Q) (q:Addr) (hq:H q=none):Q (.ref q) (upd H q (.tup vs)):=by
 have st:=Step.new hr hq (.tup vs)
 exact p _ μ _ st (Rep.tup (bJ bC (hr.nal hq)) (rs.mono st.vis))
theorem cz {ts:XA} {k:Nat} (h:RA X WE es ts):RE X WE (.Tuple es k pos) (xN mkT ts):=
 ⟨(CH h.h).weak fun σ H Q ⟨μ,S,τ,hr,sr,p⟩=>⟨μ,S,τ,hr,sr,p.bind fun vs xs S1 μ1 H1 st1 r1 p1=>by
  unfold mkT at p1
  split at p1
  ·rename_i ds e
   split at p1
   ·have rs:=gz r1 e
    refine ⟨js (by rw [rs.length];assumption),fun q hq=>p1.yT st1.hr rs q hq⟩
   ·exact p1.elim
  ·exact p1.elim⟩⟩
end
section
variable {X:Cx} {WE:WX} {a b c e:Expr} {xa xb xc xe:XE} {pos:Pos} {es:List Expr} {t u:XT} {K:PySem.W.Frag} {mg:Str→Option Value} {μ:Nat→Addr} {S:Sto} {H:Hp} {Q:VK} {vs:List V} {ds:List D}
theorem aN.iX (hr:HR μ S H) (rs:aw (vh μ S H) vs ds) (p:aN (aL K mg) WE μ S H (.ok (.d (.lst ds)) S) Q) (q:Addr) (hq:H q=none):Q (.ref q) (upd H q (.lst vs)):=by
 have st:=Step.new hr hq (.lst vs)
 exact p _ μ _ st (Rep.lst (bJ bC (hr.nal hq)) (rs.mono st.vis))
theorem aN.yB (hr:HR μ S H) (rs:aw (vh μ S H) vs ds) (p:aN (aL K mg) WE μ S H (.ok (.r S.length) (S++[.lst ds])) Q) (q:Addr) (hq:H q=none):Q (.ref q) (upd H q (.lst vs)):=
 p _ _ _ (Step.alloc hr hq (ob:=.lst ds) ⟨vs,rfl,rs⟩) ⟨by rw [cQ],by simp⟩
theorem di {ts:XA} (h:RA X WE es ts):RE X WE (.List es pos) (xN mkL ts):=
 ⟨(vw h.h).weak fun σ H Q ⟨μ,S,τ,hr,sr,p⟩=>⟨μ,S,τ,hr,sr,p.bind fun vs xs S1 μ1 H1 st1 r1 p1=>by
  unfold mkL at p1
  split at p1
  ·rename_i ds e
   split at p1
   ·have rs:=gz r1 e
    refine ⟨js (by rw [rs.length];assumption),fun q hq=>p1.iX st1.hr rs q hq⟩
   ·exact p1.elim
  ·exact p1.elim⟩⟩
theorem gH {ts:XA} (h:RA X WE es ts):RE X WE (.List es pos) (xN mkM ts):=
 ⟨(vw h.h).weak fun σ H Q ⟨μ,S,τ,hr,sr,p⟩=>⟨μ,S,τ,hr,sr,p.bind fun vs xs S1 μ1 H1 st1 r1 p1=>by
  unfold mkM at p1
  split at p1
  ·rename_i ds e
   split at p1
   ·have rs:=gz r1 e
    refine ⟨js (by rw [rs.length];assumption),fun q hq=>p1.yB st1.hr rs q hq⟩
   ·exact p1.elim
  ·exact p1.elim⟩⟩
theorem mT (ha:RE X WE a xa):RE X WE a (xFz xa):=
 ⟨fun pins s σ H Q I ⟨μ,S,τ,hr,sr,p⟩=>by
  refine thn (ha.h pins s σ H (fun v H1=>∃ μ1 S1 x,HR μ1 S1 H1∧aL X.K X.mg μ1 S1 H1 v x∧aN (aL X.K X.mg) WE μ1 S1 H1 (frz x S1) Q) I ⟨μ,S,τ,hr,sr,p.bind fun v x S1 μ1 H1 st1 r1 p1=>⟨μ1,S1,x,st1.hr,r1,p1⟩⟩) fun u s1 ⟨v,H1,I1,ru,μ1,S1,x,hr1,r1,p1⟩=>?_
  unfold frz at p1
  split at p1
  ·obtain ⟨rfl,hn⟩:=r1
   split at p1
   ·rename_i n xs e
    obtain ⟨vs,h,rs⟩:=hr1.ob _ _ e
    obtain ⟨st2,na⟩:=Step.freeze hr1 e (by simp)
    exact ⟨_,H1,I1,ru,p1 _ _ _ st2 (Rep.lst (bJ h na) (rs.mono st2.vis))⟩
   ·rename_i n _ kvs e
    obtain ⟨vs,l,h,rs⟩:=hr1.ob _ _ e
    have ok:bj X.prog X.w H1 s1.heap (μ1 n) (.dK ((kvs.map (·.1)).zip vs)):=I1.hok _ _ h
    obtain ⟨z1,z2,ws,rel,o,es,ep,ho,r⟩:=ok
    obtain ⟨st2,na⟩:=Step.rX hr1 (.frz o (.dK ((kvs.map (·.1)).zip vs))) e (by simp)
    exact ⟨_,_,I1.write (o:=.frz o (.dK ((kvs.map (·.1)).zip vs))) (h':=s1.heap) (x:=μ1 n) (e:=μ1 n) (t':=s1.toks) (by rw [h];exact True.intro) (.inl rfl) (fun b q _ hq=>hq) ⟨o,ho⟩ (show _∧_ from ⟨ho,z1,z2,ws,rel,o,es,ep,ho,r⟩),ru,p1 _ _ _ st2 ⟨_,vs,o,rfl,l,bJ bC na,rs.mono st2.vis⟩⟩
   ·exact p1.elim
  ·exact ⟨_,H1,I1,ru,p1.here hr1 r1⟩⟩
theorem aD {x:Str} {p:Pos} {id:String} {r:List V→Hp→VK→Prop} {f:List Vl→Sto→R Vl} {ts:XA} [n:NS e] (hc:bw X (.builtin id) r) (hf:eC X.K X.mg r f) (hm:X.mg x=none) (hv:bootBuiltins x=some (.builtin id)) (ha:RA X WE (e :: es) ts) (hg:Gl X x:=by exact rfl) (hn:x≠"__name__":=by decide) (hdb:(x == ("__debug__":Str))=false:=by decide)
  (hpl:(backTo pos (starEach es X.env)).any (·.1)=false:=by rfl):RE X WE (.Call (.Name x p) (e :: es) [] pos) (xN f ts):=
 ⟨(zk hc hg hm hv ha.h hn hdb (n.eq es X.env) hpl).weak fun σ H Q ⟨μ,S,τ,hr,sr,p⟩=>⟨μ,S,τ,hr,sr,p.bind fun vs xs S1 μ1 H1 st1 r1 p1=>hf WE μ1 S1 H1 vs xs Q st1.hr r1 p1⟩⟩
theorem bM {x:Str} {p:Pos} {T:String} {r:List V→Hp→VK→Prop} {f:List Vl→Sto→R Vl} {ts:XA} [n:NS e] (hc:bw X (.type T) r) (hf:eC X.K X.mg r f) (hm:X.mg x=none) (hv:bootBuiltins x=some (.type T)) (ha:RA X WE (e :: es) ts) (hg:Gl X x:=by exact rfl) (hn:x≠"__name__":=by decide) (hdb:(x == ("__debug__":Str))=false:=by decide)
  (hpl:(backTo pos (starEach es X.env)).any (·.1)=false:=by rfl):RE X WE (.Call (.Name x p) (e :: es) [] pos) (xN f ts):=
 ⟨(xr hc hg hm hv ha.h hn hdb (n.eq es X.env) hpl).weak fun σ H Q ⟨μ,S,τ,hr,sr,p⟩=>⟨μ,S,τ,hr,sr,p.bind fun vs xs S1 μ1 H1 st1 r1 p1=>hf WE μ1 S1 H1 vs xs Q st1.hr r1 p1⟩⟩
def spM (K:PySem.W.Frag) (mg:Str→Option Value) (F:XF):Sp:=fun vs H Q _=>∃ μ S us,HR μ S H∧bB K mg μ S H vs us∧aN (aL K mg) W0 μ S H (F us S) Q
def noX {α:Type} (r:R α):R α:=match r with
 | .ex _ _ _=>.bad
 | r=>r
def az (F:XF) (as:XA):XE:=fun τ S=>(as τ S).bind fun us S1=>noX (F us S1)
theorem aN.noX {α β:Type} {Rl:(Nat→Addr)→Sto→Hp→β→α→Prop} {res:R α} {Q:β→Hp→Prop} (h:aN Rl WE μ S H (noX res) Q):aN Rl W0 μ S H res Q:=by
 cases res with
 | ok a S'=>exact h
 | ex c xs S'=>exact h.elim
 | bad=>exact h.elim
end
section
variable {X:Cx} {WE:WX} {e:Expr} {es:List Expr} {pos p:Pos} {lev j:Nat} {ps:List Str} {F:XF} {x:Str} {ts:XA}
def OkE (P:Program) (w:World) (K:PySem.W.Frag) (mg:Str→Option Value) (lev:Nat) (x:Str) (ps:List Str) (M:XF):Prop:=∃ (f:Addr) (fd:FuncData),mg x=some (.ref f)∧PySem.W.keepIn K (.ref f)=true∧(∀ us:List Value,us.length=ps.length→bindArgs fd ⟨us,[]⟩=pure (ps.zip us))∧∀ base,ff P w K mg base CX0 lev f fd ps (spM K mg M)
theorem av [n:NS e] (G:OkE X.prog X.w X.K X.mg lev x ps F) (hr:c9 j X.A) (ha:RA X WE (e :: es) ts) (hj:lev≤j:=by decide) (hg:Gl X x:=by exact rfl)
  (hdb:(x == ("__debug__":Str))=false:=by decide) (hpl:(backTo pos (starEach es X.env)).any (·.1)=false:=by rfl):RE X WE (.Call (.Name x p) (e :: es) [] pos) (az F ts):=by
 obtain ⟨f,fd,hm,hk,hb,G⟩:=G
 exact ⟨(AR (G X.base) (hr.mono hj) hg hm hk (.all hb) .nil E3 ha.h hdb (n.eq es X.env) hpl).weak fun σ H Q ⟨μ,S,τ,hr,sr,p⟩=>⟨μ,S,τ,hr,sr,p.bind fun vs xs S1 μ1 H1 st1 r1 p1=>by
  rw [List.append_nil]
  exact ⟨μ1,S1,xs,st1.hr,r1,p1.noX⟩⟩⟩
end
def out (S:Sto) (z:Vl) (S':Sto):R Vl:=match z with
 | .r n=>if n < S.length then .ok (.r n) (S'.take S.length) else match S'[n]? with
  | some (.lst xs)=>.ok (.r S.length) (S'.take S.length++[.lst xs])
  | some (.dct kvs)=>.ok (.r S.length) (S'.take S.length++[.dct kvs])
  | _=>.bad
 | .pr x n=>if n < S.length then .ok (.pr x n) (S'.take S.length) else match S'[n]? with
  | some (.lst xs)=>.ok (.pr x S.length) (S'.take S.length++[.lst xs])
  | _=>.bad
 | z=>.ok z (S'.take S.length)
def leave (S:Sto) (r:R (Fl×Nv)):R Vl:=match r with
 | .ok q S'=>(match q.1 with
  | .nx=>out S (.d .non) S'
  | .rt z=>out S z S'
  | _=>.bad)
 | .ex c xs S'=>.ex c xs (S'.take S.length)
 | .bad=>.bad
def aH (k n:Nat) (b:XS):XF:=fun us S=>if us.length=k then leave S (b (us.map some++List.replicate (n - k) none) S) else .bad
section
variable {K:PySem.W.Frag} {mg:Str→Option Value} {μ μ':Nat→Addr} {S S':Sto} {H H':Hp} {Q:VK}
theorem fb {k:Nat}:dE (vh μ S H) (vh μ (S.take k) H):=fun b u q=>by
 obtain ⟨z,q⟩:=aR q
 refine bJ q ?_
 rintro ⟨m,u,e,d,rfl⟩
 exact z ⟨m,u,(df e).2,d,rfl⟩
theorem Ba {k n:Nat} {ob:Ob} (hk:k≤S.length) (e0:S[n]?=some ob) (d0:ob≠.dead):dE (vh μ S H) (vh (ext μ k (μ n)) (S.take k++[ob]) H):=fun b u q=>by
 obtain ⟨z,q⟩:=aR q
 refine bJ q ?_
 rintro ⟨m,u,e,d,rfl⟩
 have lt:(S.take k).length=k:=by rw [List.length_take];omega
 by_cases hm:m < k
 ·rw [List.getElem?_append_left (by omega)] at e
  exact z ⟨m,u,(df e).2,d,by rw [kB (Nat.ne_of_lt hm)]⟩
 ·have hm':m=k:=by
   have:=(List.getElem?_eq_some_iff.mp e).1
   simp only [List.length_append,lt,List.length_singleton] at this
   omega
  subst hm'
  exact z ⟨n,ob,e0,d0,by rw [cQ]⟩
theorem xv {WE:WX} {v:V} {z:Vl} (st:Step μ S H μ' S' H') (r:aL K mg μ' S' H' v z) (p:aN (aL K mg) WE μ S H (out S z S') Q):Q v H':=by
 have st':=st.take
 cases z with
 | d x=>exact p v μ' H' st' (Rep.mono fb r)
 | fd kvs=>obtain ⟨a,vs,o,e,l,h,rs⟩:=r;exact p v μ' H' st' ⟨a,vs,o,e,l,fb _ _ h,rs.mono fb⟩
 | fn x=>exact p v μ' H' st' r
 | sc ns=>obtain ⟨l,e,h⟩:=r;exact p v μ' H' st' ⟨l,e,h.mono fb⟩
 | pr x n=>
  obtain ⟨a,u,rfl,h,ru,hn⟩:=r
  unfold out at p
  try dsimp only at p
  split at p
  ·exact p _ μ' H' st' ⟨a,u,rfl,fb _ _ h,Rep.mono fb ru,by rw [List.length_take];omega⟩
  ·have lt:(S'.take S.length).length=S.length:=by rw [List.length_take];have:=st.le;omega
   split at p
   ·rename_i xs e
    have k:=Ba (μ:=μ') (H:=H') (k:=S.length) st.le e (by simp)
    exact p _ _ H' (st.move (by omega) e (by simp)) ⟨a,u,rfl,by rw [cQ];exact k _ _ h,Rep.mono k ru,by simp [lt]⟩
   ·exact p.elim
 | r n=>
  obtain ⟨rfl,hn⟩:=r
  unfold out at p
  try dsimp only at p
  split at p
  ·exact p _ μ' H' st' ⟨rfl,by rw [List.length_take];omega⟩
  ·have lt:(S'.take S.length).length=S.length:=by rw [List.length_take];have:=st.le;omega
   split at p
   ·rename_i xs e
    exact p _ _ H' (st.move (by omega) e (by simp)) ⟨by rw [cQ],by simp [lt]⟩
   ·rename_i xs e
    exact p _ _ H' (st.move (by omega) e (by simp)) ⟨by rw [cQ],by simp [lt]⟩
   ·exact p.elim
theorem G8 {P:Program} {w:World} {base:Heap} {x qual:Str} {st:Stmt} {f:Addr} {fd:FuncData} {N ps:List Str} {lev:Nat} {m:XS} (F:Fun K x qual st f fd) (Sc:i9 N ps (bQ st))
  (hb:∀ (cdv:Value) (A:Around) (outer:List Env) (s:Shared) (H:Hp) (E:XK),c9 lev (A.deeper (envOfC qual (bQ st) s.heap.objs.size f cdv))→RB (kR CX0 P w K mg base N qual (bQ st) f cdv A outer s H E).nox W0 (eE st) m) :
  ff P w K mg base CX0 (lev+1) f fd ps (spM K mg (aH ps.length N.length m)):=by
 refine F.ok Sc (fun vs H Q E h=>?_) (fun cdv A outer s H vs Q E hr h=>?_)
 ·obtain ⟨μ,S,us,hr,rs,p⟩:=h
  unfold aH at p
  split at p
  ·rw [rs.length];assumption
  ·exact p.elim
 ·refine ⟨_,(hb cdv A outer s H E hr).h,?_⟩
  obtain ⟨μ,S,us,hr,rs,p⟩:=h
  unfold aH at p
  split at p
  ·rename_i hl
   have sr:b8 K mg μ S H (start N vs) (us.map some++List.replicate (N.length - ps.length) none):=by
    rw [← hl];exact b8.beg rs
   refine ⟨μ,S,_,hr,sr,?_⟩
   generalize m (us.map some++List.replicate (N.length - ps.length) none) S=res at p
   cases res with
   | bad=>exact p.elim
   | ex c xs S'=>exact fun μ' H' st=>p μ' H' st.take
   | ok q S'=>
    obtain ⟨fl,τ'⟩:=q
    rintro ⟨fv,σ'⟩ μ' H' st ⟨sr',fr⟩
    cases fl with
    | nx=>
     cases fv with
     | nx=>exact xv (K:=K) (mg:=mg) (v:=.non) (z:=.d .non) st Rep.non p
     | _=>exact (show False from fr).elim
    | rt z=>
     cases fv with
     | rt v=>exact xv st fr p
     | _=>exact (show False from fr).elim
    | bk=>exact (show False from p).elim
    | ct=>exact (show False from p).elim
  ·exact p.elim
end
def aO:XS:=fun τ S=>.ok (.nx,τ) S
def ay (a b:XS):XS:=fun τ S=>(a τ S).bind fun q S1=>match q.1 with
 | .nx=>b q.2 S1
 | _=>.ok q S1
def ed (e:XE):XS:=fun τ S=>(e τ S).bind fun _ S1=>.ok (.nx,τ) S1
def aE (e:XE):XS:=fun τ S=>(e τ S).bind fun z S1=>.ok (.rt z,τ) S1
def E_:XS:=fun τ S=>.ok (.rt (.d .non),τ) S
def BV:XS:=fun τ S=>.ok (.bk,τ) S
def p6:XS:=fun τ S=>.ok (.ct,τ) S
def xIf (c:XT) (a b:XS):XS:=fun τ S=>(c τ S).bind fun k S1=>if k=true then a τ S1 else b τ S1
def cK:XS:=fun _ _=>.bad
def aQ (e:XE) (g:XG):XS:=fun τ S=>(e τ S).bind fun z S1=>(g z τ S1).bind fun τ1 S2=>.ok (.nx,τ1) S2
def gNm (i:Nat):XG:=fun z τ S=>.ok (τ.set i (some z)) S
def gTu (n:Nat) (g:XGs):XG:=fun z τ S=>match z with
 | .d (.tup xs)=>if xs.length=n then g (xs.map Vl.d) τ S else .bad
 | _=>.bad
def gN0:XGs:=fun zs τ S=>match zs with
 | []=>.ok τ S
 | _=>.bad
def gCo (g:XG) (gs:XGs):XGs:=fun zs τ S=>match zs with
 | z :: r=>(g z τ S).bind fun τ1 S1=>gs r τ1 S1
 | []=>.bad
def gSb (o i:XE) (f:Vl→Vl→Vl→Sto→R Unit):XG:=fun z τ S=>(o τ S).bind fun x S1=>(i τ S1).bind fun y S2=>(f x y z S2).bind fun _ S3=>.ok τ S3
def gok (gd:Option (Nat×Ob)) (S:Sto):Prop:=match gd with
 | none=>True
 | some (n,o)=>S[n]?=some o
open Classical in
noncomputable def cw (g:XG) (b:XS) (gd:Option (Nat×Ob)):List Vl→Nv→Sto→R (Fl×Nv)
 | [],τ,S=>.ok (.nx,τ) S
 | z :: zs,τ,S=>(g z τ S).bind fun τ1 S1=>(b τ1 S1).bind fun q S2=>match q.1 with
  | .bk=>.ok (.nx,q.2) S2
  | .rt v=>.ok (.rt v,q.2) S2
  | _=>if gok gd S2 then cw g b gd zs q.2 S2 else .bad
noncomputable def cW (it:XI) (g:XG) (b:XS):XS:=fun τ S=>(it τ S).bind fun I S1=>cw g b I.gd I.items τ S1
def c7:Nat→XT→XS→XS
 | 0,_,_=>fun _ _=>.bad
 | n+1,c,b=>fun τ S=>(c τ S).bind fun k S1=>if k=true then (b τ S1).bind fun q S2=>(match q.1 with
  | .bk=>.ok (.nx,q.2) S2
  | .rt v=>.ok (.rt v,q.2) S2
  | _=>c7 n c b q.2 S2) else .ok (.nx,τ) S1
section
variable {X:Cx} {WE:WX} {e c tg iter:Expr} {xe:XE} {t:XT} {pos:Pos} {st:Stmt} {sts sts':List Stmt} {m m':XS} {g:XG} {gs:XGs} {it:XI}
theorem aF:RB X WE [] aO:=⟨Bi.weak fun D σ H ⟨μ,S,τ,hr,sr,p⟩=>p.here (b:=(FlV.nx,σ)) hr ⟨sr,True.intro⟩⟩
theorem aq (h:RS X WE st m):RB X WE [st] m:=⟨A_ h.h⟩
theorem ao (h:RS X WE st m) (h':RB X WE sts m'):RB X WE (st :: sts) (ay m m'):=
 ⟨(xY h.h h'.h).weak fun D σ H ⟨μ,S,τ,hr,sr,p⟩=>⟨μ,S,τ,hr,sr,p.bind fun b q S1 μ1 H1 st1 r1 p1=>by
  obtain ⟨fv,σ1⟩:=b
  obtain ⟨fl,τ1⟩:=q
  obtain ⟨sr1,fr⟩:=r1
  cases fl with
  | nx=>cases fv with
   | nx=>exact ⟨μ1,S1,τ1,st1.hr,sr1,p1⟩
   | _=>exact (show False from fr).elim
  | bk=>cases fv with
   | bk=>exact (show D.at (FlV.bk,σ1) H1 from aN.here (b:=(FlV.bk,σ1)) st1.hr p1 ⟨sr1,True.intro⟩)
   | _=>exact (show False from fr).elim
  | ct=>cases fv with
   | ct=>exact (show D.at (FlV.ct,σ1) H1 from aN.here (b:=(FlV.ct,σ1)) st1.hr p1 ⟨sr1,True.intro⟩)
   | _=>exact (show False from fr).elim
  | rt z=>cases fv with
   | rt v=>exact (show D.at (FlV.rt v,σ1) H1 from aN.here (b:=(FlV.rt v,σ1)) st1.hr p1 ⟨sr1,fr⟩)
   | _=>exact (show False from fr).elim⟩⟩
theorem dN (he:RE X WE e xe) (hs:swapsWith e none pos.line X.env=pure false:=by rfl):RS X WE (.Expr e pos) (ed xe):=
 ⟨(Bp he.h hs).weak fun D σ H ⟨μ,S,τ,hr,sr,p⟩=>⟨μ,S,τ,hr,sr,p.bind fun v x S1 μ1 H1 st1 r1 p1=>p1.here (b:=(FlV.nx,σ)) st1.hr ⟨sr.step st1,True.intro⟩⟩⟩
theorem ax (he:RE X WE e xe):RS X WE (.Return (some e) pos) (aE xe):=
 ⟨(C2 he.h).weak fun D σ H ⟨μ,S,τ,hr,sr,p⟩=>⟨μ,S,τ,hr,sr,p.bind fun v x S1 μ1 H1 st1 r1 p1=>p1.here (b:=(FlV.rt v,σ)) st1.hr ⟨sr.step st1,r1⟩⟩⟩
theorem tG:RS X WE (.Continue pos) p6:=⟨sD.weak fun D σ H ⟨μ,S,τ,hr,sr,p⟩=>p.here (b:=(FlV.ct,σ)) hr ⟨sr,True.intro⟩⟩
theorem mE:RS X WE st cK:=⟨fun _ _ _ _ _ _ ⟨_,_,_,_,_,p⟩=>p.elim⟩
theorem aT (hc:RT X WE c t) (ha:RB X WE sts m) (hb:RB X WE sts' m'):RS X WE (.If c sts sts' pos) (xIf t m m'):=
 ⟨(FJ hc.h ha.h hb.h).weak fun D σ H ⟨μ,S,τ,hr,sr,p⟩=>⟨μ,S,τ,hr,sr,p.bind fun k k' S1 μ1 H1 st1 r1 p1=>by
  cases (show k=k' from r1)
  try dsimp only at p1
  split at p1
  ·rename_i hk;rw [if_pos hk];exact ⟨μ1,S1,τ,st1.hr,sr.step st1,p1⟩
  ·rename_i hk;rw [if_neg hk];exact ⟨μ1,S1,τ,st1.hr,sr.step st1,p1⟩⟩⟩
structure LQ (sc:Scope) (N:List Str):Prop where
 nd:N.Nodup
theorem aA {i:Nat} {x:Str} {sc:Scope} (q:LQ sc X.N) (hi:X.N[i]?=some x:=by exact rfl) (hx:Loc X.env.scope x:=by first | exact .inl rfl | exact .inr rfl) (hf:X.fn x=true∨X.env.scope.names.lookup x=some .local:=by first | exact .inl rfl | exact .inr rfl | assumption):RG X WE (.Name x pos) (gNm i):=
 ⟨(Bn q.nd hi hx hf).weak fun v σ H Q ⟨μ,S,τ,z,hr,sr,r,p⟩=>p.here hr (sr.set i r)⟩
theorem ji:RGs X WE [] gN0:=⟨Bt.weak fun vs σ H Q ⟨μ,S,τ,zs,hr,sr,r,p⟩=>by
 unfold gN0 at p
 split at p
 ·cases r;exact ⟨rfl,p.here hr sr⟩
 ·exact p.elim⟩
theorem cc {es:List Expr} (h:RG X WE e g) (h':RGs X WE es gs) (hs:(assignEach (e :: es) X.env).map (·.2)=assign e X.env :: (assignEach es X.env).map (·.2):=by rfl):RGs X WE (e :: es) (gCo g gs):=
 ⟨(y_ h.h h'.h hs).weak fun vs σ H Q ⟨μ,S,τ,zs,hr,sr,r,p⟩=>by
  unfold gCo at p
  split at p
  ·cases r with
   | cons r1 rr=>exact ⟨_,_,rfl,μ,S,τ,_,hr,sr,r1,p.bind fun σ1 τ1 S1 μ1 H1 st1 sr1 p1=>⟨μ1,S1,τ1,_,st1.hr,sr1,rr.step st1,p1⟩⟩
  ·exact p.elim⟩
theorem la {n:Nat} {es:List Expr} {k:Nat} (h:RGs X WE es gs) (hc:X.calm=true:=by exact rfl) (hn:(assignEach es X.env).length=n:=by rfl) (hst:(assignEach es X.env).findIdx? (·.1)=none:=by rfl):RG X WE (.Tuple es k pos) (gTu n gs):=
 ⟨(DT hc h.h hn hst).weak fun v σ H Q ⟨μ,S,τ,z,hr,sr,r,p⟩=>by
  unfold gTu at p
  split at p
  ·split at p
   ·rename_i xs hl
    cases (show Rep (vh μ S H) v (.tup xs) from r) with
    | tup h rs=>exact ⟨_,_,rfl,SqT.of (aR h).2,by rw [rs.length];exact hl,μ,S,τ,_,hr,sr,bB.sY rs,p⟩
   ·exact p.elim
  ·exact p.elim⟩
def vM (K:PySem.W.Frag) (mg:Str→Option Value) (ts:qi) (f:Vl→Vl→Vl→Sto→R Unit):Prop:=∀ (WE:WX) (μ:Nat→Addr) (S:Sto) (H:Hp) (o i v:V) (x y z:Vl) (Q:Unit→Hp→Prop),HR μ S H→aL K mg μ S H o x→aL K mg μ S H i y→aL K mg μ S H v z→aN (fun _ _ _ (_ _:Unit)=>True) WE μ S H (f x y z S) Q→ts o i v H (Q ())
theorem lG {o i:Expr} {xo xi:XE} {ts:qi} {f:Vl→Vl→Vl→Sto→R Unit} (ho:RE X WE o xo) (hi:RE X WE i xi) (hs:uL X ts) (hf:vM X.K X.mg ts f)
  (ha:∀ v,assign (.Subscript o i pos) X.env v=(do
   let ov ← holding [v] (eval o X.env)
   let iv ← holding [v,ov] (eval i X.env)
   standAt pos
   holding [v,ov,iv] (setItem ov iv v)
   release [v,ov,iv] []):=by intro _;rfl):RG X WE (.Subscript o i pos) (gSb xo xi f):=
 ⟨(CN ho.h hi.h hs ha).weak fun v σ H Q ⟨μ,S,τ,z,hr,sr,r,p⟩=>⟨μ,S,τ,hr,sr,p.bind fun ov x S1 μ1 H1 st1 r1 p1=>⟨μ1,S1,τ,st1.hr,sr.step st1,p1.bind fun iv y S2 μ2 H2 st2 r2 p2=>
  hf WE μ2 S2 H2 ov iv v x y z (fun _ H3=>Q σ H3) st2.hr (r1.step st2) r2 (r.step (st1.trans st2)) (p2.bind fun _ _ S3 μ3 H3 st3 _ p3=>p3.here st3.hr (sr.step (st1.trans (st2.trans st3))))⟩⟩⟩
theorem lD (he:RE X WE e xe) (hg:RG X WE tg g) (hs:swapsWithSole [tg] e pos.line X.env=pure false:=by rfl) (hw:swappedStores [tg] e X.env=pure none:=by rfl)
  (h1:(assignEach [tg] X.env).map (·.2)=[assign tg X.env]:=by rfl):RS X WE (.Assign [tg] e pos) (aQ xe g):=
 ⟨(Dm he.h hg.h hs hw h1).weak fun D σ H ⟨μ,S,τ,hr,sr,p⟩=>⟨μ,S,τ,hr,sr,p.bind fun v x S1 μ1 H1 st1 r1 p1=>⟨μ1,S1,τ,x,st1.hr,sr.step st1,r1,p1.bind fun σ2 τ2 S2 μ2 H2 st2 sr2 p2=>p2.here (b:=(FlV.nx,σ2)) st2.hr ⟨sr2,True.intro⟩⟩⟩⟩
theorem aG {i:Nat} {x:Str} {pos':Pos} {sc:Scope} (q:LQ sc X.N) (he:RE X WE e xe) (hi:X.N[i]?=some x:=by exact rfl) (hx:Loc X.env.scope x:=by first | exact .inl rfl | exact .inr rfl) (hs:swapsWith e (some (.Name x pos')) pos.line X.env=pure false:=by rfl) (hf:X.fn x=true∨X.env.scope.names.lookup x=some .local:=by first | exact .inl rfl | exact .inr rfl | assumption) :
  RS X WE (.Assign [.Name x pos'] e pos) (aQ xe (gNm i)):=
 ⟨(Ee q.nd hi hx he.h hs hf).weak fun D σ H ⟨μ,S,τ,hr,sr,p⟩=>⟨μ,S,τ,hr,sr,p.bind fun v x S1 μ1 H1 st1 r1 p1=>p1.here (b:=(FlV.nx,σ.set i (some v))) st1.hr ⟨(sr.step st1).set i r1,True.intro⟩⟩⟩
theorem DW {I:Its} {S:Sto} (h:gok I.gd S):I.ok S:=h
open Classical in
theorem ck (hi:RI X WE tg iter it) (hg:RG X WE tg g) (hb:RB X WE sts m) (hp:PassesOwn (model X.prog X.w) X.A X.env X.xe:=by exact PassesOwn.never) (hc:X.calm=true:=by exact rfl) (hs:∀ x,foldedSetIterable iter X.env x=pure x:=by intro _;rfl):RS X WE (.For tg iter sts [] pos) (cW it g m):=
 ⟨(BI hp hc hi.h hg.h hb.h hs).weak fun D σ H ⟨μ,S,τ,hr,sr,p⟩=>⟨μ,S,τ,hr,sr,p.bind fun J I S1 μ1 H1 st1 io p1=>by
  refine ⟨fun i k σ' H'=>∃ μ' S' τ',Step μ1 S1 H1 μ' S' H'∧b8 X.K X.mg μ' S' H' σ' τ'∧I.ok S'∧k+i=I.items.length∧aN (RlS X.K X.mg) WE μ' S' H' (cw g m I.gd (I.items.drop i) τ' S') D.at,
   ⟨I.items.length,μ1,S1,τ,Step.refl st1.hr,sr.step st1,io.ok,by simp,p1⟩,?_⟩
  rintro i k σ' H' ⟨μ',S',τ',st',sr',ok',hk,p'⟩
  by_cases hlt:i < I.items.length
  ·have hz:I.items[i]?=some I.items[i]:=List.getElem?_eq_getElem hlt
   rw [List.drop_eq_getElem_cons hlt,cw] at p'
   refine .inr ⟨io.go i _ μ' S' H' st' ok' hz,_,fun σ2 H2 n=>⟨I.items.length - (i+1),by omega,n⟩,fun x H2 y=>?_⟩
   obtain ⟨st2,rx⟩:=io.yld i _ μ' S' H' x H2 st' ok' hz y
   refine ⟨μ',S',τ',_,st2.hr,sr'.step st2,rx,(p'.shift st2).bind fun σ3 τ3 S3 μ3 H3 st3 sr3 p3=>⟨μ3,S3,τ3,st3.hr,sr3,p3.bind fun q qq S4 μ4 H4 st4 r4 p4=>?_⟩⟩
   obtain ⟨fv,σ4⟩:=q
   obtain ⟨fl,τ4⟩:=qq
   obtain ⟨sr4,fr⟩:=r4
   have go:∀ {b},aN (RlS X.K X.mg) WE μ4 S4 H4 (if gok I.gd S4 then cw g m I.gd (I.items.drop (i+1)) τ4 S4 else .bad) D.at→b=σ4→∃ μ' S' τ',Step μ1 S1 H1 μ' S' H4∧b8 X.K X.mg μ' S' H4 b τ'∧I.ok S'∧I.items.length - (i+1)+(i+1)=I.items.length∧aN (RlS X.K X.mg) WE μ' S' H4 (cw g m I.gd (I.items.drop (i+1)) τ' S') D.at:=by
    rintro b p5 rfl
    split at p5
    ·exact ⟨μ4,S4,τ4,st'.trans (st2.trans (st3.trans st4)),sr4,DW ‹_›,by omega,p5⟩
    ·exact p5.elim
   cases fl with
   | nx=>cases fv with
    | nx=>exact go p4 rfl
    | _=>exact (show False from fr).elim
   | ct=>cases fv with
    | ct=>exact go p4 rfl
    | _=>exact (show False from fr).elim
   | bk=>cases fv with
    | bk=>exact (show D.at (FlV.nx,σ4) H4 from aN.here (b:=(FlV.nx,σ4)) st4.hr p4 ⟨sr4,True.intro⟩)
    | _=>exact (show False from fr).elim
   | rt z=>cases fv with
    | rt v=>exact (show D.at (FlV.rt v,σ4) H4 from aN.here (b:=(FlV.rt v,σ4)) st4.hr p4 ⟨sr4,fr⟩)
    | _=>exact (show False from fr).elim
  ·rw [List.drop_eq_nil_of_le (by omega),cw] at p'
   exact .inl ⟨io.stop i μ' S' H' st' ok' (by omega),p'.here (b:=(FlV.nx,σ')) st'.hr ⟨sr',True.intro⟩⟩⟩⟩
theorem yn {n:Nat} (hc:RT X WE c t) (hb:RB X WE sts m) (hp:PassesOwn (model X.prog X.w) X.A X.env X.xe:=by exact PassesOwn.never):RS X WE (.While c sts [] pos) (c7 n t m):=
 ⟨(zf hp hc.h hb.h).weak fun D σ H h=>by
  refine ⟨fun k σ' H'=>trS X.K X.mg WE (c7 k t m) D σ' H',⟨n,h⟩,?_⟩
  rintro k σ' H' ⟨μ,S,τ,hr,sr,p⟩
  cases k with
  | zero=>exact p.elim
  | succ k=>
   refine ⟨μ,S,τ,hr,sr,p.bind fun b b' S1 μ1 H1 st1 r1 p1=>?_⟩
   cases (show b=b' from r1)
   try dsimp only at p1
   split at p1
   ·rename_i hk
    rw [if_pos hk]
    refine ⟨fun σ2 H2=>trS X.K X.mg WE (c7 k t m) D σ2 H2,fun σ2 H2 q=>⟨k,Nat.lt_succ_self k,q⟩,μ1,S1,τ,st1.hr,sr.step st1,p1.bind fun q qq S4 μ4 H4 st4 r4 p4=>?_⟩
    obtain ⟨fv,σ4⟩:=q
    obtain ⟨fl,τ4⟩:=qq
    obtain ⟨sr4,fr⟩:=r4
    cases fl with
    | nx=>cases fv with
     | nx=>exact ⟨μ4,S4,τ4,st4.hr,sr4,p4⟩
     | _=>exact (show False from fr).elim
    | ct=>cases fv with
     | ct=>exact ⟨μ4,S4,τ4,st4.hr,sr4,p4⟩
     | _=>exact (show False from fr).elim
    | bk=>cases fv with
     | bk=>exact (show D.at (FlV.nx,σ4) H4 from aN.here (b:=(FlV.nx,σ4)) st4.hr p4 ⟨sr4,True.intro⟩)
     | _=>exact (show False from fr).elim
    | rt z=>cases fv with
     | rt v=>exact (show D.at (FlV.rt v,σ4) H4 from aN.here (b:=(FlV.rt v,σ4)) st4.hr p4 ⟨sr4,fr⟩)
     | _=>exact (show False from fr).elim
   ·rename_i hk
    rw [if_neg hk]
    exact p1.here (b:=(FlV.nx,σ')) st1.hr ⟨sr.step st1,True.intro⟩⟩
end
open Classical in
noncomputable def eA (g:XG) (t:XT) (e:XE) (n:Nat) (gd:Option (Nat×Ob)):List Vl→List D→Nv→Sto→R (List D)
 | [],acc,_,S=>if S[n]?=some (.lst acc) then .ok acc S else .bad
 | z :: zs,acc,τ,S=>(g z τ S).bind fun τ1 S1=>(t τ1 S1).bind fun b S2=>if b=true then (e τ1 S2).bind fun v S3=>(match v with
   | .d x=>if S3[n]?=some (.lst acc)∧gok gd (S3.set n (.lst (acc++[x]))) then eA g t e n gd zs (acc++[x]) τ1 (S3.set n (.lst (acc++[x]))) else .bad
   | _=>.bad)
  else if gok gd S2 then eA g t e n gd zs acc τ1 S2 else .bad
def lJ (n:Nat) (acc:List D) (S:Sto):R Vl:=.ok (.d (.lst acc)) (if S.length=n+1 then S.take n else S.set n .dead)
noncomputable def rF (fin:Nat→List D→Sto→R Vl) (it:XI) (k:Nat) (g:XG) (t:XT) (e:XE):XE:=fun τ S=>(it τ S).bind fun I S1=>(eA g t e S1.length I.gd I.items [] (List.replicate k none++τ) (S1++[.lst []])).bind fun acc S2=>fin S1.length acc S2
noncomputable abbrev xLC:XI→Nat→XG→XT→XE→XE:=rF lJ
def p7 (fin:Nat→List D→Sto→R Vl):Prop:=∀ (K:PySem.W.Frag) (mg:Str→Option Value) (WE:WX) (μ μ':Nat→Addr) (S S':Sto) (H H':Hp) (acc:List D) (D:Addr) (Q:VK),Step μ S H μ' S' H'→S'[S.length]?=some (.lst acc)→μ' S.length=D→aN (aL K mg) WE μ S H (fin S.length acc S') Q→Q (.ref D) H'
theorem bq:p7 lJ:=by
 intro K mg WE μ μ' S S' H H' acc D Q st e hD p
 obtain ⟨vs,h,rs⟩:=st.hr.ob _ _ e
 have hn:S.length < S'.length:=(List.getElem?_eq_some_iff.mp e).1
 unfold lJ at p
 by_cases hl:S'.length=S.length+1
 ·rw [if_pos hl] at p
  refine p _ _ _ st.take (Rep.lst (vs:=vs) (bJ (by rw [← hD];exact h) ?_) (rs.mono fb))
  rintro ⟨m,u,e2,d2,q⟩
  obtain ⟨hm,e3⟩:=df e2
  have:=st.hr.inj m S.length u _ e3 e d2 (by simp) (by rw [q,hD])
  omega
 ·rw [if_neg hl] at p
  obtain ⟨st2,na⟩:=Step.freeze st.hr e (by simp)
  refine p _ _ _ (st.trans st2) (Rep.lst (vs:=vs) (bJ (by rw [← hD];exact h) (by rw [← hD];exact na)) (rs.mono st2.vis))
section
variable {X:Cx} {WE:WX} {tg elt iter:Expr} {ifs:List Expr} {scope:Scope} {pos:Pos} {it:XI} {g:XG} {t:XT} {e:XE} {N:List Str} {k:Nat} {fin:Nat→List D→Sto→R Vl}
theorem Av:RTs X WE [] (fun _ S=>.ok true S):=⟨fun pins s σ H Q I ⟨μ,S,τ,hr,sr,p⟩=>Au pins s σ H Q I (p.here hr rfl)⟩
theorem dF {c:Expr} (h:RT X WE c t):RTs X WE [c] t:=⟨Ap h.h⟩
theorem aN.pU {α β γ δ:Type} {Rl:(Nat→Addr)→Sto→Hp→β→α→Prop} {Rl2:(Nat→Addr)→Sto→Hp→δ→γ→Prop} {μ μ1:Nat→Addr} {S S1:Sto} {H H1:Hp} {res:R α} {Q:β→Hp→Prop} {Q2:δ→Hp→Prop} {f:α→Sto→R γ}
  (h:aN Rl2 WE μ S H (res.bind f) Q2) (a:Step μ S H μ1 S1 H1) (kk:∀ b x S2 μ2 H2,Step μ1 S1 H1 μ2 S2 H2→Rl μ2 S2 H2 b x→aN Rl2 WE μ S H (f x S2) Q2→Q b H2):aN Rl WE μ1 S1 H1 res Q:=by
 cases res with
 | ok x S'=>exact fun b μ' H' st r=>kk b x S' μ' H' st r h
 | ex c xs S'=>exact fun μ' H' st=>h μ' H' (a.trans st)
 | bad=>exact h
open Classical in
theorem z4 (hfin:p7 fin) {σ:St} {H:Hp} {Q:VK} (h:trE X.K X.mg WE (rF fin it k g t e) σ H Q):tLC (trI X.K X.mg WE it) (trG X.K X.mg WE g) (trT X.K X.mg WE t) (trE X.K X.mg WE e) k σ H Q:=by
 obtain ⟨μ,S,τ,hr,sr,p⟩:=h
 refine ⟨μ,S,τ,hr,sr,p.bind fun J I S1 μ1 H1 st1 io p1=>fun D hD=>?_⟩
 have st0:Step μ1 S1 H1 (ext μ1 S1.length D) (S1++[.lst []]) (upd H1 D (.lst [])):=Step.alloc st1.hr hD (ob:=.lst []) ⟨[],rfl,.nil⟩
 have hlen:(S1++[Ob.lst []]).length=S1.length+1:=by simp
 refine ⟨fun i j σ' H'=>∃ μ' S' τ' acc,Step (ext μ1 S1.length D) (S1++[.lst []]) (upd H1 D (.lst [])) μ' S' H'∧b8 X.K X.mg μ' S' H' σ' τ'∧I.ok S'∧j+i=I.items.length∧acc.length≤i ∧
   aN (aL X.K X.mg) WE μ1 S1 H1 ((eA g t e S1.length I.gd (I.items.drop i) acc τ' S').bind fun acc S2=>fin S1.length acc S2) Q,
  ⟨I.items.length,_,_,_,[],Step.refl st0.hr,((sr.step st1).step st0).pre k,?_,by simp,Nat.le_refl _,p1⟩,?_⟩
 ·have ok:=io.ok
  unfold Its.ok at ok ⊢
  split
  ·trivial
  ·rename_i n o hg
   rw [hg] at ok
   have hn:n < S1.length:=(List.getElem?_eq_some_iff.mp ok).1
   rw [List.getElem?_append_left hn];exact ok
 rintro i j σ' H' ⟨μ',S',τ',acc,st',sr',ok',hj,hacc,p'⟩
 have stA:=st0.trans st'
 have hn:S1.length < S'.length:=by have:=st'.le;omega
 have hμ:μ' S1.length=D:=by rw [st'.ag S1.length (by omega),cQ]
 by_cases hlt:i < I.items.length
 ·have hz:I.items[i]?=some I.items[i]:=List.getElem?_eq_getElem hlt
  rw [List.drop_eq_getElem_cons hlt,eA] at p'
  refine .inr ⟨io.go i _ μ' S' H' stA ok' hz,_,fun σ2 H2 n=>⟨I.items.length - (i+1),by omega,n⟩,fun x H2 y=>?_⟩
  obtain ⟨st2,rx⟩:=io.yld i _ μ' S' H' x H2 stA ok' hz y
  have bb:∀ {α β γ:Type} (r:R α) (f:α→Sto→R β) (f':β→Sto→R γ),(r.bind f).bind f'=r.bind fun a S=>(f a S).bind f':=fun r f f'=>by cases r<;>rfl
  simp only [bb] at p'
  refine ⟨μ',S',τ',_,st2.hr,sr'.step st2,rx,p'.pU (stA.trans st2) fun σ3 τ3 S3 μ3 H3 st3 sr3 p3=>?_⟩
  refine ⟨μ3,S3,τ3,st3.hr,sr3,p3.pU (stA.trans (st2.trans st3)) fun b b' S4 μ4 H4 st4 r4 p4=>?_⟩
  cases (show b=b' from r4)
  have st24:=st2.trans (st3.trans st4)
  by_cases hb:b=true
  ·rw [if_pos hb] at p4 ⊢
   rw [bb] at p4
   refine ⟨μ4,S4,τ3,st4.hr,sr3.step st4,p4.pU (stA.trans st24) fun v z S5 μ5 H5 st5 r5 p5=>?_⟩
   have st25:=st24.trans st5
   cases z with
   | d x=>
    try dsimp only at p5
    by_cases hif:S5[S1.length]?=some (.lst acc)∧gok I.gd (S5.set S1.length (.lst (acc++[x])))
    ·rw [if_pos hif] at p5
     obtain ⟨vs,h5,rs⟩:=st5.hr.ob _ _ hif.1
     have hμ5:μ5 S1.length=D:=by rw [st25.ag S1.length (by omega)];exact hμ
     rw [hμ5] at h5
     have sp:Step μ5 S5 H5 μ5 (S5.set S1.length (.lst (acc++[x]))) (upd H5 (μ5 S1.length) (.lst (vs++[v]))):=Step.put st5.hr hif.1 (by simp) (ob:=.lst (acc++[x])) ⟨_,rfl,rs.append (.cons r5 .nil)⟩
     rw [hμ5] at sp
     have lz:=io.len
     have lv:=rs.length
     refine ⟨vs,h5,by omega,μ5,_,τ3,acc++[x],st'.trans (st25.trans sp),(sr3.step (st4.trans st5)).step sp,hif.2,by omega,by simp;omega,p5⟩
    ·rw [if_neg hif] at p5
     exact p5.elim
   | _=>exact p5.elim
  ·rw [if_neg hb] at p4 ⊢
   by_cases hif:gok I.gd S4
   ·rw [if_pos hif] at p4
    exact ⟨μ4,S4,τ3,acc,st'.trans st24,sr3.step st4,hif,by omega,by omega,p4⟩
   ·rw [if_neg hif] at p4
    exact p4.elim
 ·rw [List.drop_eq_nil_of_le (by omega),eA] at p'
  refine .inl ⟨io.stop i μ' S' H' stA ok' (by omega),?_⟩
  by_cases hif:S'[S1.length]?=some (.lst acc)
  ·rw [if_pos hif] at p'
   exact hfin X.K X.mg WE μ1 μ' S1 S' H1 H' acc D Q stA hif hμ p'
  ·rw [if_neg hif] at p'
   exact p'.elim
theorem rt0:∀ C s H fp,RTs (cn X scope N C s H fp) WE [] (fun _ S=>.ok true S):=fun _ _ _ _=>Av
theorem bS {esc:Scope} {EN:List Str} (hfin:p7 fin) (N:List Str) (q:LQ esc EN) (hi:RI X WE tg iter it) (hg:∀ C s H fp,LQ scope N→RG (cn X scope N C s H fp) WE tg g) (ht:∀ C s H fp,RTs (cn X scope N C s H fp) WE ifs t) (he:∀ C s H fp,RE (cn X scope N C s H fp) WE elt e) (hd:N.Nodup:=by decide +kernel)
  (Sc:eG esc scope EN N k:=by exact ⟨rfl,by decide +kernel,by decide +kernel,by decide +kernel,by decide +kernel,by decide +kernel⟩) (h1:X.env.scope=esc:=by exact rfl) (h2:X.N=EN:=by exact rfl) (hc:X.calm=true:=by exact rfl) (hs:∀ x,foldedSetIterable iter X.env x=pure x:=by intro _;rfl):RE X WE (.ListComp elt [⟨tg,iter,ifs,0⟩] scope pos) (rF fin it k g t e):=
 ⟨(EK hc Sc h1 h2 hi.h (fun C s H fp=>(hg C s H fp ⟨hd⟩).h) (fun C s H fp=>(ht C s H fp).h) (fun C s H fp=>(he C s H fp).h) hs).weak fun σ H Q h=>z4 (X:=X) hfin h⟩
theorem zZ {esc:Scope} {EN:List Str} {i:Nat} {y:Str} {py spos:Pos} (hfin:p7 fin) (N:List Str) (q:LQ esc EN) (hi:RI X WE tg iter it) (hg:∀ C s H fp,LQ scope N→RG (cn X scope N C s H fp) WE tg g) (ht:∀ C s H fp,RTs (cn X scope N C s H fp) WE ifs t) (he:∀ C s H fp,RE (cn X scope N C s H fp) WE elt e)
  (hi':X.N[i]?=some y:=by exact rfl) (hy:Loc X.env.scope y:=by first | exact .inl rfl | exact .inr rfl) (hd:N.Nodup:=by decide +kernel)
  (Sc:eG esc scope EN N k:=by exact ⟨rfl,by decide +kernel,by decide +kernel,by decide +kernel,by decide +kernel,by decide +kernel⟩) (h1:X.env.scope=esc:=by exact rfl) (h2:X.N=EN:=by exact rfl) (hc:X.calm=true:=by exact rfl)
  (hsw:swapsWith (.ListComp elt [⟨tg,iter,ifs,0⟩] scope pos) (some (.Name y py)) spos.line X.env=pure true:=by rfl)
  (hs:∀ x,foldedSetIterable iter X.env x=pure x:=by intro _;rfl) (hf:X.fn y=true∨X.env.scope.names.lookup y=some .local:=by first | exact .inl rfl | exact .inr rfl | assumption) :
  RS X WE (.Assign [.Name y py] (.ListComp elt [⟨tg,iter,ifs,0⟩] scope pos) spos) (aQ (rF fin it k g t e) (gNm i)):=
 ⟨(FV (h2 ▸ q.nd) hi' hy hc Sc h1 h2 hi.h (fun C s H fp=>(hg C s H fp ⟨hd⟩).h) (fun C s H fp=>(ht C s H fp).h) (fun C s H fp=>(he C s H fp).h) hsw hs hf).weak fun D0 σ H ⟨μ,S,τ,hr,sr,p⟩=>by
  refine z4 (X:=X) (WE:=WE) (g:=g) (t:=t) (e:=e) hfin ⟨μ,S,τ,hr,sr,?_⟩
  exact p.bind fun v x S1 μ1 H1 st1 r1 p1=>p1.here (b:=(FlV.nx,σ.set i (some v))) st1.hr ⟨(sr.step st1).set i r1,True.intro⟩⟩
end
def cu (x:Vl) (S:Sto):Option (List D):=match x with
 | .d (.lst xs)=>some xs
 | .r n=>(match S[n]? with
  | some (.lst xs)=>some xs
  | _=>none)
 | _=>none
def bP (x:Vl) (S:Sto):Option (List D):=match x with
 | .d (.tup xs)=>some xs
 | x=>cu x S
section
variable {K:PySem.W.Frag} {mg:Str→Option Value} {μ:Nat→Addr} {S:Sto} {H:Hp} {v:V} {x:Vl} {ds:List D} {WE:WX} {Q:VK}
theorem dC (hr:HR μ S H) (r:aL K mg μ S H v x) (e:cu x S=some ds):∃ a vs,v=.ref a∧H a=some (.lst vs)∧aw (vh μ S H) vs ds:=by
 unfold cu at e
 split at e
 ·cases e
  cases (show Rep (vh μ S H) v (.lst _) from r) with
  | lst h rs=>exact ⟨_,_,rfl,(aR h).2,rs⟩
 ·split at e
  ·rename_i q
   cases e
   obtain ⟨rfl,hn⟩:=r
   obtain ⟨vs,h,rs⟩:=hr.ob _ _ q
   exact ⟨_,vs,rfl,h,rs⟩
  ·cases e
 ·cases e
theorem gX (hr:HR μ S H) (r:aL K mg μ S H v x) (e:bP x S=some ds):∃ a vs,v=.ref a∧(H a=some (.lst vs)∨H a=some (.tup vs))∧aw (vh μ S H) vs ds:=by
 unfold bP at e
 split at e
 ·cases e
  cases (show Rep (vh μ S H) v (.tup _) from r) with
  | tup h rs=>exact ⟨_,_,rfl,.inr (aR h).2,rs⟩
 ·obtain ⟨a,vs,e1,e2,e3⟩:=dC hr r e
  exact ⟨a,vs,e1,.inl e2,e3⟩
theorem i7 {a:Addr} {vs:List V} (h:H a=some (.lst vs)∨H a=some (.tup vs)):hZ H a=some vs:=h.elim BU Dl
theorem a4 {i:Int} (r:aL K mg μ S H v (.d (.int i))):v=.int i:=by cases (show Rep (vh μ S H) v (.int i) from r);rfl
theorem mU {i:Bool} (r:aL K mg μ S H v (.d (.bl i))):v=.bl i:=by cases (show Rep (vh μ S H) v (.bl i) from r);rfl
theorem fM {i:Str} (r:aL K mg μ S H v (.d (.str i))):v=.str i:=by cases (show Rep (vh μ S H) v (.str i) from r);rfl
theorem dO (r:aL K mg μ S H v (.d .non)):v=.non:=by cases (show Rep (vh μ S H) v .non from r);rfl
theorem kQ (r:aL K mg μ S H v (.d (.tup ds))):∃ a vs,v=.ref a∧H a=some (.tup vs)∧vh μ S H a=some (.tup vs)∧aw (vh μ S H) vs ds:=by
 cases (show Rep (vh μ S H) v (.tup _) from r) with
 | tup h rs=>exact ⟨_,_,rfl,(aR h).2,h,rs⟩
end
def oI (C:Int→Int→Prop) [∀ i j,Decidable (C i j)] (f:Int→Int→D) (x y:Vl) (S:Sto):R Vl:=match x,y with
 | .d (.int i),.d (.int j)=>if C i j then .ok (.d (f i j)) S else .bad
 | _,_=>.bad
def oI0 (f:Int→Int→D) (x y:Vl) (S:Sto):R Vl:=match x,y with
 | .d (.int i),.d (.int j)=>.ok (.d (f i j)) S
 | _,_=>.bad
section
variable {K:PySem.W.Frag} {mg:Str→Option Value}
theorem b9 {C:Int→Int→Prop} [∀ i j,Decidable (C i j)] (f:Int→Int→Int):cO K mg (rI C fun i j=>V.int (f i j)) (oI C fun i j=>D.int (f i j)):=by
 intro WE μ S H v w x y Q hr rx ry p
 unfold oI at p
 split at p
 ·split at p
  ·exact ⟨_,_,a4 rx,a4 ry,‹_›,p.here hr (Rep.int _)⟩
  ·exact p.elim
 ·exact p.elim
theorem nk (f:Int→Int→Int):cO K mg (rI0 fun i j=>V.int (f i j)) (oI0 fun i j=>D.int (f i j)):=by
 intro WE μ S H v w x y Q hr rx ry p
 unfold oI0 at p
 split at p
 ·exact ⟨_,_,a4 rx,a4 ry,p.here hr (Rep.int _)⟩
 ·exact p.elim
theorem bu (f:Int→Int→Bool):cO K mg (rI0 fun i j=>V.bl (f i j)) (oI0 fun i j=>D.bl (f i j)):=by
 intro WE μ S H v w x y Q hr rx ry p
 unfold oI0 at p
 split at p
 ·exact ⟨_,_,a4 rx,a4 ry,p.here hr (Rep.bl _)⟩
 ·exact p.elim
end
instance (i j:Int):Decidable (jt i j):=by unfold jt;infer_instance
instance (i j:Int):Decidable (n6 i j):=by unfold n6;infer_instance
instance (i j:Int):Decidable (n8 i j):=by unfold n8;infer_instance
abbrev qc:=oI0 fun i j=>D.int (i - j)
abbrev gU:=oI jt fun i j=>D.int (i * j)
abbrev oMod:=oI (fun _ j=>0 < j) fun i j=>D.int (i % j)
abbrev oDiv:=oI n6 fun i j=>D.int (i / j)
abbrev uG:=oI n8 fun i j=>D.int (i ^ j.toNat)
abbrev oLt:=oI0 fun i j=>D.bl (decide (i < j))
abbrev oLe:=oI0 fun i j=>D.bl (decide (i≤j))
abbrev oGt:=oI0 fun i j=>D.bl (decide (j < i))
abbrev oGe:=oI0 fun i j=>D.bl (decide (j≤i))
def ky (x:Vl) (S:Sto):R Vl:=match x with
 | .d (.int i)=>.ok (.d (.int (-i))) S
 | _=>.bad
def bU (x y:Vl) (S:Sto):R Vl:=match x,y with
 | .d (.int i),.d (.int j)=>.ok (.d (.int (i+j))) S
 | .d (.tup a),.d (.tup b)=>if a.length+b.length≤100000 then .ok (.d (.tup (a++b))) S else .bad
 | .d (.str a),.d (.str b)=>if a.length+b.length≤100000 then .ok (.d (.str (a++b))) S else .bad
 | x,y=>(match cu x S,cu y S with
  | some a,some b=>if a.length+b.length≤100000 then .ok (.d (.lst (a++b))) S else .bad
  | _,_=>.bad)
def eqD (x y:Vl) (S:Sto):Option Bool:=match x,y with
 | .d .non,.d .non=>some true
 | .d .non,.d (.int _)=>some false
 | .d .non,.d (.str _)=>some false
 | .d (.int _),.d .non=>some false
 | .d (.str _),.d .non=>some false
 | .d (.int i),.d (.int j)=>some (decide (i=j))
 | .d (.bl i),.d (.bl j)=>some (decide (i=j))
 | .d (.str i),.d (.str j)=>some (decide (i=j))
 | .d (.int _),.d (.str _)=>some false
 | .d (.str _),.d (.int _)=>some false
 | .d (.tup a),.d (.tup b)=>if D.depth (.tup a)≤50 then some (D.bG a b) else none
 | x,y=>(match cu x S,cu y S with
  | some a,some b=>if D.depth (.lst a)≤50 then some (D.bG a b) else none
  | _,_=>none)
def oEq (x y:Vl) (S:Sto):R Vl:=match eqD x y S with
 | some b=>.ok (.d (.bl b)) S
 | none=>.bad
def oNe (x y:Vl) (S:Sto):R Vl:=match eqD x y S with
 | some b=>.ok (.d (.bl (!b))) S
 | none=>.bad
def oIs (x y:Vl) (S:Sto):R Vl:=match x,y with
 | .d (.bl a),.d (.bl b)=>.ok (.d (.bl (a == b))) S
 | .d .non,.d .non=>.ok (.d (.bl true)) S
 | .fn _,_=>.bad
 | .sc _,_=>.bad
 | _,.d .non=>.ok (.d (.bl false)) S
 | _,_=>.bad
def pS (x y:Vl) (S:Sto):R Vl:=match x,y with
 | .d (.bl a),.d (.bl b)=>.ok (.d (.bl (a != b))) S
 | .d .non,.d .non=>.ok (.d (.bl false)) S
 | .fn _,_=>.bad
 | .sc _,_=>.bad
 | _,.d .non=>.ok (.d (.bl true)) S
 | _,_=>.bad
section
variable {K:PySem.W.Frag} {mg:Str→Option Value}
theorem jb:B3 K mg (rU fun i=>.int (-i)) ky:=by
 intro WE μ S H v x Q hr rx p
 unfold ky at p
 split at p
 ·exact ⟨_,a4 rx,p.here hr (Rep.int _)⟩
 ·exact p.elim
def zH:R2:=fun x y H Q=>zJ x y H Q∨∃ i j,x=.str i∧y=.str j∧i.length+j.length≤sizeLine∧Q (.str (i++j)) H
theorem bt {X:Cx}:OpR X (binaryOp .Add) zH:=Bk.or uI
theorem br:cO K mg zH bU:=by
 intro WE μ S H v w x y Q hr rx ry p
 unfold bU at p
 split at p
 ·exact .inl (.inl ⟨_,_,a4 rx,a4 ry,p.here hr (Rep.int _)⟩)
 ·split at p
  ·rename_i a b hl
   obtain ⟨p1,us,rfl,h1,g1,r1⟩:=kQ rx
   obtain ⟨p2,ws,rfl,h2,g2,r2⟩:=kQ ry
   have l1:=r1.length
   have l2:=r2.length
   refine .inl (.inr ⟨p1,p2,rfl,rfl,.inl ⟨us,ws,h1,h2,js (by omega),fun e=>?_,fun _ e=>?_,fun _ _ q hq=>p.yT hr (r1.append r2) q hq⟩⟩)
   ·subst e
    have:a=[]:=List.eq_nil_of_length_eq_zero l1.symm
    subst this
    exact p.here hr (Rep.tup g2 r2)
   ·subst e
    have:b=[]:=List.eq_nil_of_length_eq_zero l2.symm
    subst this
    rw [List.append_nil] at p
    exact p.here hr (Rep.tup g1 r1)
  ·exact p.elim
 ·split at p
  ·exact .inr ⟨_,_,fM rx,fM ry,js ‹_›,p.here hr (Rep.str _)⟩
  ·exact p.elim
 ·split at p
  ·rename_i a b e1 e2
   split at p
   ·obtain ⟨p1,us,rfl,h1,r1⟩:=dC hr rx e1
    obtain ⟨p2,ws,rfl,h2,r2⟩:=dC hr ry e2
    have l1:=r1.length
    have l2:=r2.length
    exact .inl (.inr ⟨p1,p2,rfl,rfl,.inr ⟨us,ws,h1,h2,js (by omega),fun q hq=>p.iX hr (r1.append r2) q hq⟩⟩)
   ·exact p.elim
  ·exact p.elim
theorem zK {μ:Nat→Addr} {S:Sto} {H:Hp} {v w:V} {x y:Vl} {b:Bool} (hr:HR μ S H) (rx:aL K mg μ S H v x) (ry:aL K mg μ S H w y) (e:eqD x y S=some b) :
  (yu v w=true∧decide (v=w)=b)∨∃ d e,Rep H v d∧Rep H w e∧D.depth d≤50∧((∃ ds es,d=.tup ds∧e=.tup es)∨∃ ds es,d=.lst ds∧e=.lst es)∧D.eqv d e=b:=by
 unfold eqD at e
 split at e
 ·cases e;rw [dO rx,dO ry];exact .inl ⟨rfl,by decide⟩
 ·cases e;rw [dO rx,a4 ry];exact .inl ⟨rfl,by simp⟩
 ·cases e;rw [dO rx,fM ry];exact .inl ⟨rfl,by simp⟩
 ·cases e;rw [a4 rx,dO ry];exact .inl ⟨rfl,by simp⟩
 ·cases e;rw [fM rx,dO ry];exact .inl ⟨rfl,by simp⟩
 ·cases e;rw [a4 rx,a4 ry];exact .inl ⟨rfl,by simp only [V.int.injEq]⟩
 ·cases e;rw [mU rx,mU ry];exact .inl ⟨rfl,by simp only [V.bl.injEq]⟩
 ·cases e;rw [fM rx,fM ry];exact .inl ⟨rfl,by simp only [V.str.injEq]⟩
 ·cases e;rw [a4 rx,fM ry];exact .inl ⟨rfl,by simp⟩
 ·cases e;rw [fM rx,a4 ry];exact .inl ⟨rfl,by simp⟩
 ·split at e
  ·cases e
   refine .inr ⟨_,_,Rep.mono fB rx,Rep.mono fB ry,‹_›,.inl ⟨_,_,rfl,rfl⟩,?_⟩
   simp only [D.eqv]
  ·cases e
 ·split at e
  ·rename_i a b e1 e2
   split at e
   ·cases e
    obtain ⟨p1,us,rfl,h1,r1⟩:=dC hr rx e1
    obtain ⟨p2,ws,rfl,h2,r2⟩:=dC hr ry e2
    refine .inr ⟨.lst a,.lst b,.lst h1 (r1.mono fB),.lst h2 (r2.mono fB),‹_›,.inr ⟨_,_,rfl,rfl⟩,?_⟩
    simp only [D.eqv]
   ·cases e
  ·cases e
theorem cj:cO K mg Ei oEq:=by
 intro WE μ S H v w x y Q hr rx ry p
 unfold oEq at p
 split at p
 ·rename_i b e
  have q:=p.here hr (Rep.bl b)
  rcases zK hr rx ry e with ⟨h1,h2⟩ | ⟨d,d',h1,h2,h3,h4,h5⟩
  ·exact .inl ⟨h1,by rw [h2];exact q⟩
  ·exact .inr ⟨d,d',h1,h2,h3,h4,by rw [h5];exact q⟩
 ·exact p.elim
theorem d9:cO K mg D7 oNe:=by
 intro WE μ S H v w x y Q hr rx ry p
 unfold oNe at p
 split at p
 ·rename_i b e
  have q:=p.here hr (Rep.bl (!b))
  rcases zK hr rx ry e with ⟨h1,h2⟩ | ⟨d,d',h1,h2,h3,h4,h5⟩
  ·exact .inl ⟨h1,by rw [h2];exact q⟩
  ·exact .inr ⟨d,d',h1,h2,h3,h4,by rw [h5];exact q⟩
 ·exact p.elim
theorem Bh {μ:Nat→Addr} {S:Sto} {H:Hp} {v:V} {x:Vl} (r:aL K mg μ S H v x) (h1:x≠.d .non):v≠.non:=by
 rintro rfl
 cases x with
 | d x=>cases (show Rep (vh μ S H) .non x from r);exact h1 rfl
 | r n=>obtain ⟨e,_⟩:=r;cases e
 | fd kvs=>obtain ⟨_,_,_,e,_⟩:=r;cases e
 | pr x n=>obtain ⟨_,_,e,_⟩:=r;cases e
 | fn x=>obtain ⟨_,_,e⟩:=r;cases e
 | sc ns=>obtain ⟨_,e,_⟩:=r;cases e
theorem vm:cO K mg Cq oIs:=by
 intro WE μ S H v w x y Q hr rx ry p
 unfold oIs at p
 split at p
 ·rw [mU rx,mU ry];exact .inl ⟨_,_,rfl,rfl,p.here hr (Rep.bl _)⟩
 ·rw [dO rx,dO ry];exact .inr ⟨rfl,by rw [decide_eq_true rfl];exact p.here hr (Rep.bl _)⟩
 ·exact p.elim
 ·exact p.elim
 ·rename_i h _ _
  rw [dO ry]
  exact .inr ⟨rfl,by rw [decide_eq_false (Bh rx h)];exact p.here hr (Rep.bl _)⟩
 ·exact p.elim
end
def D.flat:D→Bool
 | .tup _=>false
 | .lst _=>false
 | _=>true
def inD (x:D) (ds:List D):Bool:=ds.any fun e=>D.eqv e x
def inX (x y:Vl) (S:Sto):Option Bool:=match x with
 | .d x=>(match bP y S with
  | some ds=>if (D.flat x && ds.all D.flat)=true then some (inD x ds) else (match cu y S with
   | some ds=>if D.cA ds≤50 then some (inD x ds) else none
   | none=>none)
  | none=>none)
 | _=>none
def oIn (x y:Vl) (S:Sto):R Vl:=match inX x y S with
 | some b=>.ok (.d (.bl b)) S
 | none=>.bad
def ee (x y:Vl) (S:Sto):R Vl:=match inX x y S with
 | some b=>.ok (.d (.bl (!b))) S
 | none=>.bad
def oIx (x y:Vl) (S:Sto):R Vl:=match y with
 | .d (.int i)=>(match bP x S with
  | some ds=>(match atI ds i with
   | some z=>.ok (.d z) S
   | none=>.bad)
  | none=>.bad)
 | _=>.bad
def fU (xs:List D) (lo hi:Option Int):List D:=(xs.drop (HT.sIx xs.length 0 lo)).take (HT.sIx xs.length xs.length hi - HT.sIx xs.length 0 lo)
def oSl (x:Vl) (lo hi:Option Int) (S:Sto):R Vl:=match x with
 | .d (.tup xs)=>.ok (.d (.tup (fU xs lo hi))) S
 | x=>(match cu x S with
  | some xs=>.ok (.d (.lst (fU xs lo hi))) S
  | none=>.bad)
def GN (x y:Vl) (S:Sto):R Vl:=match x,y with
 | .d (.tup xs),.d (.int i)=>if i=-1 then .ok (.d (.tup xs.reverse)) S else .bad
 | _,_=>.bad
section
variable {K:PySem.W.Frag} {mg:Str→Option Value}
theorem rl {H:Hp} {v:V} {d:D} (r:Rep H v d) (h:D.flat d=true):d_ v=true:=by cases r<;>first | rfl | cases h
theorem DH {H:Hp} {v w:V} {d e:D} (r:Rep H v d) (q:Rep H w e) (h:D.flat d=true) (h':D.flat e=true):eqV v w=D.eqv d e:=by
  cases r<;>cases q<;>first | rfl | cases h | cases h' | simp [eqV,D.eqv]
theorem oR {H:Hp}:∀ {vs:List V} {ds:List D},aw H vs ds→ds.all D.flat=true→vs.all d_=true
 | _,_,.nil,_=>rfl
 | _,_,.cons r t,h=>by
  rw [List.all_cons,Bool.and_eq_true] at h ⊢
  exact ⟨rl r h.1,oR t h.2⟩
theorem v5 {H:Hp} {v:V} {d:D} (r:Rep H v d) (h:D.flat d=true):∀ {vs:List V} {ds:List D},aw H vs ds→ds.all D.flat=true→inV v vs=inD d ds
 | _,_,.nil,_=>rfl
 | _,_,.cons q t,h'=>by
  rw [List.all_cons,Bool.and_eq_true] at h'
  have ih:=v5 r h t h'.2
  unfold inV inD at ih ⊢
  rw [List.any_cons,List.any_cons,DH q r h'.1 h,ih]
def rO (neg:Bool):R2:=fun x y H Q=>yp neg x y H Q∨yx neg x y H Q
theorem in_of {μ:Nat→Addr} {S:Sto} {H:Hp} {v w:V} {x y:Vl} {b neg:Bool} {Q:VK} (hr:HR μ S H) (rx:aL K mg μ S H v x) (ry:aL K mg μ S H w y) (e:inX x y S=some b) (q:Q (.bl (if neg then !b else b)) H):rO neg v w H Q:=by
 unfold inX at e
 split at e
 ·rename_i x
  split at e
  ·rename_i ds e1
   obtain ⟨a,vs,rfl,ha,rs⟩:=gX hr ry e1
   split at e
   ·rename_i hf
    rw [Bool.and_eq_true] at hf
    cases e
    refine .inl ⟨a,vs,rfl,i7 ha,rl rx hf.1,oR rs hf.2,?_⟩
    rw [v5 rx hf.1 rs hf.2]
    exact q
   ·split at e
    ·rename_i ds e2
     split at e
     ·cases e
      obtain ⟨a',vs',e3,ha',rs'⟩:=dC hr ry e2
      cases e3
      exact .inr ⟨_,vs',x,_,rfl,ha',rs'.mono fB,Rep.mono fB rx,‹_›,q⟩
     ·cases e
    ·cases e
  ·cases e
 ·cases e
theorem qy {X:Cx} (hu:X.A.units+64 < cLine):OpR X (compareOp .In) (rO false):=DP.or (DO hu)
theorem jk {X:Cx} (hu:X.A.units+64 < cLine):OpR X (compareOp .NotIn) (rO true):=vS.or (wj hu)
theorem p_:cO K mg (rO false) oIn:=by
 intro WE μ S H v w x y Q hr rx ry p
 unfold oIn at p
 split at p
 ·rename_i b e
  exact in_of hr rx ry e (p.here hr (Rep.bl b))
 ·exact p.elim
theorem jj:cO K mg (rO true) ee:=by
 intro WE μ S H v w x y Q hr rx ry p
 unfold ee at p
 split at p
 ·rename_i b e
  exact in_of hr rx ry e (p.here hr (Rep.bl (!b)))
 ·exact p.elim
theorem zc {H:Hp} {vs:List V} {ds:List D} {i:Int} {z:D} (rs:aw H vs ds) (e:atI ds i=some z):∃ v,atI vs i=some v∧Rep H v z:=by
 unfold atI at e ⊢
 rw [rs.length]
 cases q:ixN ds.length i with
 | none=>rw [q] at e;cases e
 | some j=>
  rw [q] at e
  obtain ⟨v,e1,r⟩:=rs.get' (show ds[j]?=some z from e)
  exact ⟨v,e1,r⟩
theorem BK:cO K mg CK oIx:=by
 intro WE μ S H v w x y Q hr rx ry p
 unfold oIx at p
 split at p
 ·split at p
  ·rename_i ds e1
   obtain ⟨a,vs,rfl,ha,rs⟩:=gX hr rx e1
   split at p
   ·rename_i z e2
    obtain ⟨u,e3,ru⟩:=zc rs e2
    rw [a4 ry]
    exact ⟨a,_,vs,u,rfl,rfl,i7 ha,e3,p.here hr ru⟩
   ·exact p.elim
  ·exact p.elim
 ·exact p.elim
theorem xE {H:Hp} {vs:List V} {ds:List D} (rs:aw H vs ds) (lo hi:Option Int):aw H (oe vs lo hi) (fU ds lo hi):=by
 unfold oe fU
 rw [rs.length]
 exact (rs.drop _).take _
theorem AS {X:Cx} {WE:WX}:RO X WE none n4:=⟨fun pins s σ H Q I ⟨μ,S,τ,hr,sr,p⟩=>A6 pins s σ H Q I (p.here hr rfl)⟩
theorem og {X:Cx} {WE:WX} {e:Expr} {xa:XE} (he:RE X WE e xa):RO X WE (some e) (nM xa):=⟨fun pins s σ H Q I ⟨μ,S,τ,hr,sr,p⟩=>Az he.h pins s σ H Q I ⟨μ,S,τ,hr,sr,p.bind fun v x S1 μ1 H1 st1 r1 p1=>by
 try dsimp only at p1
 split at p1
 ·exact ⟨_,a4 r1,p1.here st1.hr rfl⟩
 ·exact p1.elim⟩⟩
theorem aC {X:Cx} {WE:WX} {a b:Expr} {xa xb:XE} {pos:Pos} (ha:RE X WE a xa) (hb:RE X WE b xb) (hs:sZ b:=by exact fun _ _=>rfl):RE X WE (.Subscript a b pos) (xOp oIx xa xb):=⟨(F8 GW ha.h hb.h hs).weak fun _ _ _ h=>two (X:=X) BK h⟩
end
def gD:List D→Option (List Bool)
 | []=>some []
 | .bl b :: r=>(gD r).map (b :: ·)
 | _=>none
def intsOf:List D→Option (List Int)
 | []=>some []
 | .int b :: r=>(intsOf r).map (b :: ·)
 | _=>none
theorem rC:∀ {ds:List D} {bs:List Bool},gD ds=some bs→ds=bs.map D.bl
 | [],_,e=>by simp [gD] at e;subst e;rfl
 | d :: ds,bs,e=>by
  cases d with
  | bl b=>
   simp only [gD,Option.map_eq_some_iff] at e
   obtain ⟨cs,e1,rfl⟩:=e
   rw [rC e1];rfl
  | _=>simp [gD] at e
theorem fT:∀ {ds:List D} {bs:List Int},intsOf ds=some bs→ds=bs.map D.int
 | [],_,e=>by simp [intsOf] at e;subst e;rfl
 | d :: ds,bs,e=>by
  cases d with
  | int b=>
   simp only [intsOf,Option.map_eq_some_iff] at e
   obtain ⟨cs,e1,rfl⟩:=e
   rw [fT e1];rfl
  | _=>simp [intsOf] at e
theorem gc:∀ bs:List Int,intsOf (bs.map D.int)=some bs
 | []=>rfl
 | b :: bs=>by simp [intsOf,gc bs]
theorem aw.vi {H:Hp}:∀ {vs:List V} {ns:List Bool},aw H vs (ns.map D.bl)→vs=ns.map V.bl
 | [],[],.nil=>rfl
 | v :: vs,n :: ns,.cons r t=>by
  cases r
  rw [List.map_cons,aw.vi t]
def insI (x:Int):List Int→List Int
 | []=>[x]
 | y :: ys=>if x≤y then x :: y :: ys else y :: insI x ys
def sortI:List Int→List Int
 | []=>[]
 | x :: xs=>insI x (sortI xs)
theorem insI_perm (x:Int):∀ ys,(insI x ys).Perm (x :: ys)
 | []=>.refl _
 | y :: ys=>by
  unfold insI
  split
  ·exact .refl _
  ·exact ((insI_perm x ys).cons y).trans (.swap x y ys)
theorem sortI_perm:∀ xs,(sortI xs).Perm xs
 | []=>.refl _
 | x :: xs=>(insI_perm x _).trans ((sortI_perm xs).cons x)
theorem oY (x:Int):∀ ys:List Int,ys.Pairwise (·≤·)→(insI x ys).Pairwise (·≤·)
 | [],_=>by simp [insI]
 | y :: ys,h=>by
  unfold insI
  split
  ·rename_i hxy
   refine List.pairwise_cons.mpr ⟨fun z hz=>?_,h⟩
   rcases List.mem_cons.mp hz with e | e
   ·omega
   ·have:=(List.pairwise_cons.mp h).1 z e;omega
  ·rename_i hxy
   obtain ⟨h1,h2⟩:=List.pairwise_cons.mp h
   refine List.pairwise_cons.mpr ⟨fun z hz=>?_,oY x ys h2⟩
   rcases List.mem_cons.mp ((insI_perm x ys).mem_iff.mp hz) with e | e
   ·omega
   ·exact h1 z e
theorem jK:∀ xs,(sortI xs).Pairwise (·≤·)
 | []=>.nil
 | x :: xs=>oY x _ (jK xs)
theorem nS:∀ {xs ys:List Int},xs.Perm ys→xs.Pairwise (·≤·)→ys.Pairwise (·≤·)→xs=ys
 | [],ys,h,_,_=>by rw [List.nil_perm.mp h]
 | x :: xs,[],h,_,_=>by simpa using h.length_eq
 | x :: xs,y :: ys,h,h1,h2=>by
  obtain ⟨a1,a2⟩:=List.pairwise_cons.mp h1
  obtain ⟨b1,b2⟩:=List.pairwise_cons.mp h2
  have hx:x∈y :: ys:=h.mem_iff.mp (List.mem_cons_self ..)
  have hy:y∈x :: xs:=h.mem_iff.mpr (List.mem_cons_self ..)
  have e:x=y:=by
   rcases List.mem_cons.mp hx with e | e
   ·exact e
   ·rcases List.mem_cons.mp hy with e' | e'
    ·exact e'.symm
    ·have:=a1 y e';have:=b1 x e;omega
  subst e
  rw [nS (List.Perm.cons_inv h) a2 b2]
theorem my {xs ys:List Int} (h:ys.Perm xs) (h1:ys.Pairwise (·≤·)):ys=sortI xs:=nS (h.trans (sortI_perm xs).symm) h1 (jK xs)
def bA (xs:List Vl) (S:Sto):R Vl:=match xs with
 | [x]=>(match bP x S with
  | some ds=>.ok (.d (.int ds.length)) S
  | none=>.bad)
 | _=>.bad
def cS (xs:List Vl) (S:Sto):R Vl:=match xs with
 | [x]=>(match bP x S with
  | some ds=>.ok (.d (.tup ds)) S
  | none=>.bad)
 | _=>.bad
def l7 (xs:List Vl) (S:Sto):R Vl:=match xs with
 | [x]=>(match bP x S with
  | some ds=>.ok (.d (.lst ds)) S
  | none=>.bad)
 | _=>.bad
def lr (xs:List Vl) (S:Sto):R Vl:=match xs with
 | [x]=>(match bP x S with
  | some ds=>.ok (.r S.length) (S++[.lst ds])
  | none=>.bad)
 | _=>.bad
def ix (xs:List Vl) (S:Sto):R Vl:=match xs with
 | [x]=>(match (cu x S).bind gD with
  | some bs=>.ok (.d (.bl (bs.all id))) S
  | none=>.bad)
 | _=>.bad
def nV (xs:List Vl) (S:Sto):R Vl:=match xs with
 | [x]=>(match (cu x S).bind intsOf with
  | some ns=>if ns.length≤1000∧∀ n∈ns,-1000000≤n∧n≤1000000 then .ok (.d (.int ns.sum)) S else .bad
  | none=>.bad)
 | _=>.bad
def ub (xs:List Vl) (S:Sto):R Vl:=match xs with
 | [.d (.int i),.d (.int j)]=>.ok (.d (.int (if j > i then j else i))) S
 | _=>.bad
def rq (xs:List Vl) (S:Sto):R Vl:=match xs with
 | [.d (.int i),.d (.int j)]=>.ok (.d (.int (if j < i then j else i))) S
 | _=>.bad
section
variable {K:PySem.W.Frag} {mg:Str→Option Value}
theorem bB.one {μ:Nat→Addr} {S:Sto} {H:Hp} {vs:List V} {x:Vl} (r:bB K mg μ S H vs [x]):∃ v,vs=[v]∧aL K mg μ S H v x:=by
 cases r with | cons r t=>cases t;exact ⟨_,rfl,r⟩
theorem bB.two {μ:Nat→Addr} {S:Sto} {H:Hp} {vs:List V} {x y:Vl} (r:bB K mg μ S H vs [x,y]):∃ v w,vs=[v,w]∧aL K mg μ S H v x∧aL K mg μ S H w y:=by
 cases r with | cons r t=>cases t with | cons r' t'=>cases t';exact ⟨_,_,rfl,r,r'⟩
theorem aY:eC K mg zX bA:=by
 intro WE μ S H vs xs Q hr rs p
 unfold bA at p
 split at p
 ·obtain ⟨v,rfl,r⟩:=rs.one
  split at p
  ·obtain ⟨a,us,rfl,ha,rr⟩:=gX hr r ‹_›
   exact ⟨a,us,rfl,i7 ha,by rw [rr.length];exact p.here hr (Rep.int _)⟩
  ·exact p.elim
 ·exact p.elim
theorem dc:eC K mg tq cS:=by
 intro WE μ S H vs xs Q hr rs p
 unfold cS at p
 split at p
 ·rename_i x
  obtain ⟨v,rfl,r⟩:=rs.one
  split at p
  ·rename_i ds e
   unfold bP at e
   split at e
   ·cases e
    obtain ⟨a,us,rfl,h,g,rr⟩:=kQ r
    exact ⟨a,rfl,.inr ⟨us,h,p.here hr (Rep.tup g rr)⟩⟩
   ·obtain ⟨a,us,rfl,h,rr⟩:=dC hr r e
    exact ⟨a,rfl,.inl ⟨us,h,fun q hq=>p.yT hr rr q hq⟩⟩
  ·exact p.elim
 ·exact p.elim
theorem vA:eC K mg rK l7:=by
 intro WE μ S H vs xs Q hr rs p
 unfold l7 at p
 split at p
 ·obtain ⟨v,rfl,r⟩:=rs.one
  split at p
  ·obtain ⟨a,us,rfl,ha,rr⟩:=gX hr r ‹_›
   exact ⟨a,us,rfl,i7 ha,fun q hq=>p.iX hr rr q hq⟩
  ·exact p.elim
 ·exact p.elim
theorem uH:eC K mg rK lr:=by
 intro WE μ S H vs xs Q hr rs p
 unfold lr at p
 split at p
 ·obtain ⟨v,rfl,r⟩:=rs.one
  split at p
  ·obtain ⟨a,us,rfl,ha,rr⟩:=gX hr r ‹_›
   exact ⟨a,us,rfl,i7 ha,fun q hq=>p.yB hr rr q hq⟩
  ·exact p.elim
 ·exact p.elim
theorem iu:eC K mg zQ ix:=by
 intro WE μ S H vs xs Q hr rs p
 unfold ix at p
 split at p
 ·obtain ⟨v,rfl,r⟩:=rs.one
  split at p
  ·rename_i bs e
   obtain ⟨ds,e1,e2⟩:=Option.bind_eq_some_iff.mp e
   obtain ⟨a,us,rfl,ha,rr⟩:=dC hr r e1
   rw [rC e2] at rr
   rw [aw.vi rr] at ha
   exact ⟨a,bs,rfl,ha,p.here hr (Rep.bl _)⟩
  ·exact p.elim
 ·exact p.elim
theorem rT:eC K mg zI nV:=by
 intro WE μ S H vs xs Q hr rs p
 unfold nV at p
 split at p
 ·obtain ⟨v,rfl,r⟩:=rs.one
  split at p
  ·rename_i bs e
   split at p
   ·rename_i hb
    obtain ⟨ds,e1,e2⟩:=Option.bind_eq_some_iff.mp e
    obtain ⟨a,us,rfl,ha,rr⟩:=dC hr r e1
    rw [fT e2] at rr
    rw [aw.i6 rr] at ha
    exact ⟨a,bs,rfl,ha,hb.1,hb.2,p.here hr (Rep.int _)⟩
   ·exact p.elim
  ·exact p.elim
 ·exact p.elim
theorem xX:eC K mg Cm ub:=by
 intro WE μ S H vs xs Q hr rs p
 unfold ub at p
 split at p
 ·obtain ⟨v,w,rfl,r1,r2⟩:=rs.two
  exact ⟨_,_,by rw [a4 r1,a4 r2],p.here hr (Rep.int _)⟩
 ·exact p.elim
theorem q0:eC K mg CP rq:=by
 intro WE μ S H vs xs Q hr rs p
 unfold rq at p
 split at p
 ·obtain ⟨v,w,rfl,r1,r2⟩:=rs.two
  exact ⟨_,_,by rw [a4 r1,a4 r2],p.here hr (Rep.int _)⟩
 ·exact p.elim
end
def cC (T:String) (x:Vl) (S:Sto):R Vl:=match x with
 | .d d=>.ok (.d (.bl (isT T d))) S
 | .r n=>(match S[n]? with
  | some (.lst xs)=>.ok (.d (.bl (isT T (.lst xs)))) S
  | _=>.bad)
 | _=>.bad
section
variable {X:Cx} {WE:WX}
theorem a5 {e:Expr} {xa:XE} {nm:Str} {T:String} {p p2 pos:Pos} [n:NS e] (hm:X.mg "isinstance"=none) (hm2:X.mg nm=none) (hv:bootBuiltins nm=some (.type T)) (ha:RE X WE e xa) (hg:Gl X "isinstance":=by exact rfl) (hg2:Gl X nm:=by exact rfl) (ho:okT T=true:=by exact rfl)
  (hn:nm≠"__name__":=by decide) (hd:(nm == ("__debug__":Str))=false:=by decide) (hb:bootBuiltins "isinstance"=some (.builtin "isinstance"):=by decide +kernel)
  (hs2:starEach [.Name nm p2] X.env=(false,eval (.Name nm p2) X.env) :: starEach [] X.env:=by rfl) (hpl:(backTo pos (starEach [.Name nm p2] X.env)).any (·.1)=false:=by rfl) :
  RE X WE (.Call (.Name "isinstance" p) [e,.Name nm p2] [] pos) (xUn (cC T) xa):=
 ⟨(vR hg hm hg2 hm2 hv ho ha.h hn hd hb (n.eq _ X.env) hs2 hpl).weak fun σ H Q ⟨μ,S,τ,hr,sr,p⟩=>⟨μ,S,τ,hr,sr,p.bind fun v x S1 μ1 H1 st1 r1 p1=>by
  unfold cC at p1
  split at p1
  ·exact ⟨_,Rep.mono fB r1,p1.here st1.hr (Rep.bl _)⟩
  ·split at p1
   ·rename_i e
    obtain ⟨rfl,hn⟩:=r1
    obtain ⟨vs,h,rs⟩:=st1.hr.ob _ _ e
    exact ⟨_,Rep.lst h (rs.mono fB),p1.here st1.hr (Rep.bl _)⟩
   ·exact p1.elim
  ·exact p1.elim⟩⟩
def xLm (f:Nat→List D→D→Sto→R Vl) (o e:XE):XE:=fun τ S=>(o τ S).bind fun x S1=>match x with
 | .r n=>(match S1[n]? with
  | some (.lst _)=>(e τ S1).bind fun y S2=>(match y with
   | .d z=>(match S2[n]? with
    | some (.lst xs)=>f n xs z S2
    | _=>.bad)
   | _=>.bad)
  | _=>.bad)
 | _=>.bad
def kT (n:Nat) (xs:List D) (z:D) (S:Sto):R Vl:=if xs.length < 100000 then .ok (.d .non) (S.set n (.lst (xs++[z]))) else .bad
theorem rW {o e:Expr} {xo xe:XE} {apos cpos:Pos} (ho:RE X WE o xo) (he:RE X WE e xe)
  (hbase:attributeBase o "append" X.env (eval o X.env)=eval o X.env:=by rfl)
  (hfew:((backTo cpos (starEach [e] X.env)).all (fun x=>!x.1) && (backToKw cpos (keywordEach [] X.env)).all (fun x=>x.1.isSome) && decide ([e].length+([]:List Keyword).length+(if ([]:List Keyword).isEmpty then 0 else 1) < 30))=true:=by rfl)
  (hline:(apos.endLine == cpos.line)=true:=by rfl) (hs:starEach [e] X.env=(false,eval e X.env) :: starEach [] X.env:=by rfl):RE X WE (.Call (.Attribute o "append" apos) [e] [] cpos) (xLm kT xo xe):=
 ⟨(BN ho.h he.h hbase hfew hline hs).weak fun σ H Q ⟨μ,S,τ,hr,sr,p⟩=>⟨μ,S,τ,hr,sr,p.bind fun v x S1 μ1 H1 st1 r1 p1=>by
  try dsimp only at p1
  split at p1
  ·rename_i n
   obtain ⟨rfl,hn⟩:=r1
   split at p1
   ·rename_i xs0 e0
    obtain ⟨vs0,h0,_⟩:=st1.hr.ob _ _ e0
    refine ⟨_,vs0,rfl,h0,μ1,S1,τ,st1.hr,sr.step st1,p1.bind fun w y S2 μ2 H2 st2 r2 p2=>?_⟩
    try dsimp only at p2
    split at p2
    ·split at p2
     ·rename_i z _ xs e2
      obtain ⟨vs,h2,rs⟩:=st2.hr.ob _ _ e2
      rw [st2.ag n hn] at h2
      unfold kT at p2
      split at p2
      ·have lv:=rs.length
       have sp:=Step.put st2.hr e2 (by simp) (ob:=.lst (xs++[z])) ⟨_,rfl,rs.append (.cons r2 .nil)⟩
       rw [st2.ag n hn] at sp
       refine ⟨vs,h2,by rw [sizeLine_eq];omega,p2 _ _ _ sp Rep.non⟩
      ·exact p2.elim
     ·exact p2.elim
    ·exact p2.elim
   ·exact p1.elim
  ·exact p1.elim⟩⟩
def yk (r:V→List V→Hp→VK→Prop) (f:Nat→List D→D→Sto→R Vl):Prop:=∀ (K:PySem.W.Frag) (mg:Str→Option Value) (WE:WX) (μ:Nat→Addr) (S:Sto) (H:Hp) (n:Nat) (xs:List D) (vs:List V) (w:V) (z:D) (Q:VK),HR μ S H→S[n]?=some (.lst xs)→H (μ n)=some (.lst vs)→aw (vh μ S H) vs xs→Rep (vh μ S H) w z→aN (aL K mg) WE μ S H (f n xs z S) Q→r (.ref (μ n)) [w] H Q
theorem uN {r:V→List V→Hp→VK→Prop} {f:Nat→List D→D→Sto→R Vl} {name:Str} {id:String} {o e:Expr} {xo xe:XE} {apos cpos:Pos} (slot:Slot "list" name id) (hty:typeOf (.builtin id)=pure (.type "method_descriptor")) (hm:MtM X id r) (hf:yk r f) (ho:RE X WE o xo) (he:RE X WE e xe)
  (hbase:attributeBase o name X.env (eval o X.env)=eval o X.env:=by rfl)
  (hfew:((backTo cpos (starEach [e] X.env)).all (fun x=>!x.1) && (backToKw cpos (keywordEach [] X.env)).all (fun x=>x.1.isSome) && decide ([e].length+([]:List Keyword).length+(if ([]:List Keyword).isEmpty then 0 else 1) < 30))=true:=by rfl)
  (hline:(apos.endLine == cpos.line)=true:=by rfl) (hs:starEach [e] X.env=(false,eval e X.env) :: starEach [] X.env:=by rfl):RE X WE (.Call (.Attribute o name apos) [e] [] cpos) (xLm f xo xe):=
 ⟨(zU slot hty hm ho.h he.h hbase hfew hline hs).weak fun σ H Q ⟨μ,S,τ,hr,sr,p⟩=>⟨μ,S,τ,hr,sr,p.bind fun v x S1 μ1 H1 st1 r1 p1=>by
  try dsimp only at p1
  split at p1
  ·rename_i n
   obtain ⟨rfl,hn⟩:=r1
   split at p1
   ·rename_i xs0 e0
    obtain ⟨vs0,h0,_⟩:=st1.hr.ob _ _ e0
    refine ⟨_,vs0,rfl,h0,μ1,S1,τ,st1.hr,sr.step st1,p1.bind fun w y S2 μ2 H2 st2 r2 p2=>?_⟩
    try dsimp only at p2
    split at p2
    ·split at p2
     ·rename_i z _ xs e2
      obtain ⟨vs,h2,rs⟩:=st2.hr.ob _ _ e2
      rw [← st2.ag n hn]
      exact hf X.K X.mg WE μ2 S2 H2 n xs vs w z Q st2.hr e2 h2 rs r2 p2
     ·exact p2.elim
    ·exact p2.elim
   ·exact p1.elim
  ·exact p1.elim⟩⟩
def qv (n:Nat) (xs:List D) (z:D) (S:Sto):R Vl:=match z with
 | .int i=>if 0≤i∧i < 2 ^ 63 then (match xs[i.toNat]? with
  | some y=>.ok (.d y) (S.set n (.lst (xs.eraseIdx i.toNat)))
  | none=>.bad) else .bad
 | _=>.bad
theorem aw.erase {H:Hp}:∀ {vs:List V} {ds:List D} (i:Nat),aw H vs ds→aw H (vs.eraseIdx i) (ds.eraseIdx i)
 | _,_,_,.nil=>.nil
 | _,_,0,.cons _ t=>t
 | _,_,i+1,.cons r t=>.cons r (aw.erase i t)
theorem yq:yk wZ qv:=by
 intro K mg WE μ S H n xs vs w z Q hr e h rs rw' p
 unfold qv at p
 split at p
 ·rename_i i
  split at p
  ·rename_i hi
   split at p
   ·rename_i y ey
    obtain ⟨u,eu,ru⟩:=rs.get' ey
    have hl:i.toNat < vs.length:=(List.getElem?_eq_some_iff.mp eu).1
    cases rw'
    refine ⟨_,vs,i,i.toNat,u,rfl,rfl,h,by omega,hi.2,PySem.StrLaws.seqIndex_nonneg hi.1 (by omega),eu,?_⟩
    have sp:=Step.put hr e (by simp) (ob:=.lst (xs.eraseIdx i.toNat)) ⟨_,rfl,rs.erase i.toNat⟩
    exact p _ _ _ sp (Rep.mono sp.vis ru)
   ·exact p.elim
  ·exact p.elim
 ·exact p.elim
end
def bz (e:XE):XI:=fun τ S=>(e τ S).bind fun z S1=>match z with
 | .d (.tup xs)=>.ok ⟨xs.map Vl.d,none⟩ S1
 | .d (.lst xs)=>.ok ⟨xs.map Vl.d,none⟩ S1
 | .r n=>(match S1[n]? with
  | some (.lst xs)=>.ok ⟨xs.map Vl.d,some (n,.lst xs)⟩ S1
  | _=>.bad)
 | _=>.bad
def lj (as:XA):XI:=fun τ S=>(as τ S).bind fun zs S1=>match zs with
 | [.d (.int j)]=>if -100000≤j∧j≤100000 then .ok ⟨(List.range j.toNat).map fun i=>Vl.d (.int (i:Nat)),none⟩ S1 else .bad
 | _=>.bad
def yo (as:XA):XI:=fun τ S=>(as τ S).bind fun zs S1=>match zs with
 | [.d (.int i),.d (.int j)]=>if (-100000≤i∧i≤100000)∧-100000≤j∧j≤100000 then .ok ⟨(List.range (j - i).toNat).map fun k=>Vl.d (.int (i+(k:Nat))),none⟩ S1 else .bad
 | _=>.bad
section
variable {X:Cx} {WE:WX} {K:PySem.W.Frag} {mg:Str→Option Value} {μ:Nat→Addr} {S:Sto} {H:Hp}
theorem gF {xs:List D} {i:Nat} {z:Vl} (e:(xs.map Vl.d)[i]?=some z):∃ x,xs[i]?=some x∧z=.d x:=by
 rw [List.getElem?_map] at e
 cases q:xs[i]? with
 | none=>rw [q] at e;cases e
 | some x=>rw [q] at e;cases e;exact ⟨x,rfl,rfl⟩
theorem DB {a:Addr} {vs:List V} {xs:List D} (g:vh μ S H a=some (.tup vs)) (rs:aw (vh μ S H) vs xs) (hz:vs.length≤sizeLine):gT K mg μ S H (Itt K a) ⟨xs.map Vl.d,none⟩ where
 ok:=True.intro
 len:=by simp only [List.length_map];rw [← rs.length];exact hz
 go:=fun i z μ' S' H' st _ e=>by
  obtain ⟨x,e1,rfl⟩:=gF e
  obtain ⟨u,e2,_⟩:=rs.get' e1
  exact ⟨vs,u,SqT.of (aR (st.vis _ _ g)).2,e2⟩
 yld:=fun i z μ' S' H' u H2 st _ e y=>by
  obtain ⟨rfl,y⟩:=y
  obtain ⟨x,e1,rfl⟩:=gF e
  have e2:=y vs (SqT.of (aR (st.vis _ _ g)).2)
  obtain ⟨x',e3,r⟩:=rs.get e2
  rw [e1] at e3;cases e3
  exact ⟨Step.refl st.hr,Rep.mono st.vis r⟩
 stop:=fun i μ' S' H' st _ hi=>⟨vs,SqT.of (aR (st.vis _ _ g)).2,by rw [rs.length];simpa using Nat.le_of_eq hi⟩
theorem CV {a:Addr} {vs:List V} {xs:List D} (g:vh μ S H a=some (.lst vs)) (rs:aw (vh μ S H) vs xs) (hz:vs.length≤sizeLine):gT K mg μ S H (Itl K a) ⟨xs.map Vl.d,none⟩ where
 ok:=True.intro
 len:=by simp only [List.length_map];rw [← rs.length];exact hz
 go:=fun i z μ' S' H' st _ e=>by
  obtain ⟨x,e1,rfl⟩:=gF e
  obtain ⟨u,e2,_⟩:=rs.get' e1
  exact ⟨vs,u,SqL.of (aR (st.vis _ _ g)).2,e2⟩
 yld:=fun i z μ' S' H' u H2 st _ e y=>by
  obtain ⟨rfl,y⟩:=y
  obtain ⟨x,e1,rfl⟩:=gF e
  have e2:=y vs (SqL.of (aR (st.vis _ _ g)).2)
  obtain ⟨x',e3,r⟩:=rs.get e2
  rw [e1] at e3;cases e3
  exact ⟨Step.refl st.hr,Rep.mono st.vis r⟩
 stop:=fun i μ' S' H' st _ hi=>⟨vs,SqL.of (aR (st.vis _ _ g)).2,by rw [rs.length];simpa using Nat.le_of_eq hi⟩
theorem B0 {n:Nat} {vs:List V} {xs:List D} (hn:n < S.length) (e0:S[n]?=some (.lst xs)) (rs:aw (vh μ S H) vs xs) (hz:vs.length≤sizeLine):gT K mg μ S H (Itl K (μ n)) ⟨xs.map Vl.d,some (n,.lst xs)⟩ where
 ok:=e0
 len:=by simp only [List.length_map];rw [← rs.length];exact hz
 go:=fun i z μ' S' H' st ok e=>by
  obtain ⟨us,h,rs'⟩:=st.hr.ob n _ ok
  rw [st.ag n hn] at h
  obtain ⟨x,e1,rfl⟩:=gF e
  obtain ⟨u,e2,_⟩:=rs'.get' e1
  exact ⟨us,u,SqL.of h,e2⟩
 yld:=fun i z μ' S' H' u H2 st ok e y=>by
  obtain ⟨rfl,y⟩:=y
  obtain ⟨us,h,rs'⟩:=st.hr.ob n _ ok
  rw [st.ag n hn] at h
  obtain ⟨x,e1,rfl⟩:=gF e
  have e2:=y us (SqL.of h)
  obtain ⟨x',e3,r⟩:=rs'.get e2
  rw [e1] at e3;cases e3
  exact ⟨Step.refl st.hr,r⟩
 stop:=fun i μ' S' H' st ok hi=>by
  replace hi:=Nat.le_of_eq hi
  obtain ⟨us,h,rs'⟩:=st.hr.ob n _ ok
  rw [st.ag n hn] at h
  exact ⟨us,SqL.of h,by rw [rs'.length];simpa using hi⟩
theorem we {lo:Int} {m:Nat} (hr:HR μ S H) (hm:m≤sizeLine):gT K mg μ S H (Itr lo m) ⟨(List.range m).map fun k=>Vl.d (.int (lo+(k:Nat))),none⟩ where
 ok:=True.intro
 len:=by simpa using hm
 go:=fun i z μ' S' H' st _ e=>by
  have:=(List.getElem?_eq_some_iff.mp e).1
  exact (show i < m by simpa using this)
 yld:=fun i z μ' S' H' u H2 st _ e y=>by
  obtain ⟨rfl,rfl⟩:=y
  have hi:i < m:=by simpa using (List.getElem?_eq_some_iff.mp e).1
  rw [List.getElem?_map,List.getElem?_range hi] at e
  cases e
  exact ⟨Step.refl st.hr,Rep.int _⟩
 stop:=fun i μ' S' H' st _ hi=>(show m≤i by simpa using Nat.le_of_eq hi)
theorem a6 {tg l:Expr} {xl:XE} (hl:RE X WE l xl):RI X WE tg l (bz xl):=⟨by
 intro pins s σ H Rr I h
 obtain ⟨μ,S,τ,hr,sr,p⟩:=h
 refine thn (hl.h pins s σ H _ I ⟨μ,S,τ,hr,sr,p.bind (Q:=fun v H1=>∃ μ1 S1 z,HR μ1 S1 H1∧aL X.K X.mg μ1 S1 H1 v z∧aN (gT X.K X.mg) WE μ1 S1 H1 (match z with
   | .d (.tup xs)=>.ok ⟨xs.map Vl.d,none⟩ S1
   | .d (.lst xs)=>.ok ⟨xs.map Vl.d,none⟩ S1
   | .r n=>(match S1[n]? with
    | some (.lst xs)=>.ok ⟨xs.map Vl.d,some (n,.lst xs)⟩ S1
    | _=>.bad)
   | _=>.bad) Rr) fun v x S1 μ1 H1 st1 r1 p1=>⟨μ1,S1,x,st1.hr,r1,p1⟩⟩) fun v s1 ⟨u,H1,I1,ru,μ1,S1,z,hr1,r1,p1⟩=>?_
 have goT:∀ a vs xs,u=.ref a→vh μ1 S1 H1 a=some (.tup vs)→aw (vh μ1 S1 H1) vs xs→Rr (Itt X.K a) H1→wpAny (model X.prog X.w) X.A (pyIter v) (PIE X pins σ tg Rr) X.xe s1:=by
  rintro a vs xs rfl g rs q
  cases ru
  obtain ⟨its,rv,pp,hz⟩:=I1.tuple (SqT.of (aR g).2)
  refine wpAny_pyIter_tuple (show s1.heap.IsTuple a its.toArray from pp) ?_
  refine ⟨s1.heap.objs.size,[s1.heap.objs.size],_,_,H1,rfl,I1.kept (t':=s1.toks) fun b o e=>Heap.get?_push_of_some _ e,u5 a _,⟨_,Heap.get?_push_size _ rfl,rfl,rfl⟩,fun b hb=>?_,q⟩
  rw [List.mem_singleton.mp hb]
  exact I1.lq (Nat.le_refl _) (I1.hok.fresh (Nat.le_refl _))
 have goL:∀ a vs,u=.ref a→H1 a=some (.lst vs)→Rr (Itl X.K a) H1→wpAny (model X.prog X.w) X.A (pyIter v) (PIE X pins σ tg Rr) X.xe s1:=by
  rintro a vs rfl g q
  cases ru
  obtain ⟨its,rv,pp,hz⟩:=I1.list (SqL.of g)
  refine wpAny_pyIter_list pp.isList ?_
  refine ⟨s1.heap.objs.size,[s1.heap.objs.size],_,_,H1,rfl,I1.kept (t':=s1.toks) fun b o e=>Heap.get?_push_of_some _ e,vC a _,⟨_,Heap.get?_push_size _ rfl,rfl,rfl⟩,fun b hb=>?_,q⟩
  rw [List.mem_singleton.mp hb]
  exact I1.lq (Nat.le_refl _) (I1.hok.fresh (Nat.le_refl _))
 split at p1
 ·obtain ⟨a,vs,rfl,h,g,rs⟩:=kQ r1
  obtain ⟨its,rv,pp,hz⟩:=I1.tuple (SqT.of h)
  exact goT a vs _ rfl g rs (p1.here hr1 (DB g rs hz))
 ·cases (show Rep (vh μ1 S1 H1) u (.lst _) from r1) with
  | lst g rs=>
   obtain ⟨its,rv,pp,hz⟩:=I1.list (SqL.of (aR g).2)
   exact goL _ _ rfl (aR g).2 (p1.here hr1 (CV g rs hz))
 ·split at p1
  ·rename_i e
   obtain ⟨rfl,hn⟩:=r1
   obtain ⟨vs,h,rs⟩:=hr1.ob _ _ e
   obtain ⟨its,rv,pp,hz⟩:=I1.list (SqL.of h)
   exact goL _ _ rfl h (p1.here hr1 (B0 hn e rs hz))
  ·exact p1.elim
 ·exact p1.elim⟩
theorem eF {tg a:Expr} {as:XA} {p pos:Pos} (hg:Gl X "range") (hm:X.mg "range"=none) (ha:RA X WE [a] as) (hs:starEach [a] X.env=[(false,eval a X.env)]:=by rfl):RI X WE tg (.Call (.Name "range" p) [a] [] pos) (lj as):=
 ⟨(xA hg hm ha.h hs).weak fun σ H Rr ⟨μ,S,τ,hr,sr,p⟩=>⟨μ,S,τ,hr,sr,p.bind fun vs xs S1 μ1 H1 st1 r1 p1=>by
  try dsimp only at p1
  split at p1
  ·split at p1
   ·obtain ⟨v,rfl,r⟩:=r1.one
    rename_i j hj
    refine ⟨j,by rw [a4 r],by omega,by omega,p1.here st1.hr ?_⟩
    have q:=we (K:=X.K) (mg:=X.mg) (lo:=0) (m:=j.toNat) st1.hr (js (by omega))
    have z:∀ k:Nat,(0:Int)+k=k:=fun k=>by omega
    simp only [z] at q
    exact q
   ·exact p1.elim
  ·exact p1.elim⟩⟩
theorem vt {tg a b:Expr} {as:XA} {p pos:Pos} (hg:Gl X "range") (hm:X.mg "range"=none) (ha:RA X WE [a,b] as) (hs:starEach [a,b] X.env=[(false,eval a X.env),(false,eval b X.env)]:=by rfl) (hs2:starEach [b] X.env=[(false,eval b X.env)]:=by rfl):RI X WE tg (.Call (.Name "range" p) [a,b] [] pos) (yo as):=
 ⟨(vb hg hm ha.h hs hs2).weak fun σ H Rr ⟨μ,S,τ,hr,sr,p⟩=>⟨μ,S,τ,hr,sr,p.bind fun vs xs S1 μ1 H1 st1 r1 p1=>by
  try dsimp only at p1
  split at p1
  ·split at p1
   ·obtain ⟨v,w,rfl,r,r'⟩:=r1.two
    rename_i i j hj
    exact ⟨i,j,by rw [a4 r,a4 r'],⟨by omega,by omega,by omega,by omega⟩,p1.here st1.hr (we st1.hr (by rw [sizeLine_eq];omega))⟩
   ·exact p1.elim
  ·exact p1.elim⟩⟩
end
section
variable {prog:Program} {w:World} {A:Around} {E:Value→Shared→Prop} {s:Shared}
theorem sA {l:Addr} {vs:List Value} {Q:List Value→Shared→Prop} (hl:IsTup s.heap l vs.toArray)
  (h:Q vs { s with heap:=(s.heap.push (seqObj "list" #[] 0)).update s.heap.objs.size (Obj.mapSeq (·++vs.toArray)) }) (hsz:vs.length≤sizeLine:=by size_fits) :
  wpAny (model prog w) A (collect (.ref l)) Q E s:=by
 obtain ⟨o,ho,hc,n,hd⟩:=id hl
 unfold collect
 refine wpAny_bind (wpAny_runValue (codeAny_builtin entry_proto_collect' ?_))
 show wpAny _ _ (do again (.builtin "list.__iadd__" ⟨[← newList [],.ref l],[]⟩)) _ _ s
 refine wpAny_bind (wpAny_newList (wpAny_pure ⟨Code.quiet_builtin _ (by decide +kernel),codeAny_builtin entry_list_iadd' ?_⟩))
 show wpAny _ _ (Builtin.List.listExtendWith (.ref s.heap.objs.size) (.ref l) (.ref s.heap.objs.size)) _ _ { s with heap:=s.heap.push (seqObj "list" #[] 0) }
 unfold Builtin.List.listExtendWith
 have ho':(s.heap.push (seqObj "list" #[] 0)).get? l=some o:=Heap.get?_push_of_some _ ho
 refine wpAny_bind (wpAny_typeOf (T:="tuple") ⟨o,ho',hc⟩ ?_)
 have ht:(Value.type "tuple" == Value.type "tuple")=true:=by rfl
 rw [if_pos (by rw [ht];simp)]
 refine wpAny_bind (listItems_at ho' hd ?_)
 refine wpAny_bind (listItems_at (xs:=#[]) (n:=0) (Heap.get?_push_size _ rfl) rfl ?_)
 rw [if_neg (by simp)]
 refine wpAny_bind (listUpdate_at (xs:=#[]) (n:=0) (Heap.get?_push_size _ rfl) rfl ?_ (Nat.zero_le _) (by show (#[]++vs.toArray).size≤sizeLine+1;simp only [Array.size_append,List.size_toArray,List.length_nil];omega))
 refine wpAny_pure ?_
 show wpAny (model prog w) A (do
   let o ← load s.heap.objs.size
   match o.data with
   | .seq xs _=>pure xs.toList
   | _=>unsupported "internal:collect") Q E { s with heap:=(s.heap.push (seqObj "list" #[] 0)).update s.heap.objs.size (Obj.mapSeq (·++vs.toArray)) }
 refine wpAny_bind (wpAny_load (get?_update_seq (Heap.get?_push_size _ rfl) _) ?_)
 show wpAny _ _ (pure ((#[]:Array Value)++vs.toArray).toList) Q E _
 rw [show ((#[]:Array Value)++vs.toArray).toList=vs by simp]
 exact wpAny_pure h
theorem uw {l:Addr} {vs:List Value} {ns:List Int} {Q:Value→Shared→Prop} (hl:IsTup s.heap l vs.toArray) (hI:IntsAre vs ns) (h64:vs.length < 64)
  (h:∀ (out:Array Value) (ns':List Int),IntsAre out.toList ns'→ns'.Perm ns→ns'.Pairwise (·≤·)→Q (.ref (s.heap.objs.size+1)) { s with heap:=sortedAll s.heap vs out }) :
  wpAny (model prog w) A (call (.builtin "sorted") [.ref l]) Q E s:=by
 refine Calls.call_function_entry kind_sorted plain_sorted entry_sorted (args_sorted1 _) ?_
 unfold Builtin.«sorted»
 refine wpAny_bind (m:=checkCount "sorted" 1 1 _) (wpAny_pure ?_)
 refine wpAny_bind (sA hl ?_ (Nat.le_of_lt (dA (by omega))))
 refine wpAny_bind (wpAny_newList ?_)
 have hsz:((s.heap.push (seqObj "list" #[] 0)).update s.heap.objs.size (Obj.mapSeq (·++vs.toArray))).objs.size=s.heap.objs.size+1:=by
  rw [Heap.size_update,size_push']
 have hoL:(((s.heap.push (seqObj "list" #[] 0)).update s.heap.objs.size (Obj.mapSeq (·++vs.toArray))).push (seqObj "list" vs.toArray 0)).get? (s.heap.objs.size+1)=some (seqObj "list" vs.toArray 0):=by
  rw [← hsz];exact Heap.get?_push_size _ rfl
 show wpAny _ _ _ _ _ { s with heap:=((s.heap.push (seqObj "list" #[] 0)).update s.heap.objs.size (Obj.mapSeq (·++vs.toArray))).push (seqObj "list" vs.toArray 0) }
 rw [hsz]
 refine wpAny_bind (wpAny_holding (wpAny_call_entry slot_list_sort ⟨_,hoL,rfl⟩ entry_list_sort (list_sort_tree hoL hI h64 fun out ns' a1 a2 a3=>⟨_,rfl,?_⟩) (args_list_sort _)))
 exact wpAny_pure ⟨_,rfl,h out ns' a1 a2 a3⟩
end
section
variable {X:Cx}
def xm:List V→Hp→VK→Prop:=fun vs H Q=>∃ (p:Addr) (ns:List Int),vs=[.ref p]∧H p=some (.tup (ns.map V.int))∧ns.length < 64∧∀ (l:Addr) (ms:List Int),H l=none→List.Perm ms ns→ms.Pairwise (·≤·)→Q (.ref l) (upd H l (.lst (ms.map V.int)))
theorem uV:bw X (.builtin "sorted") xm:=by
 intro pins s σ H xs us Q I r h
 obtain ⟨p,ns,rfl,hq,hl,q⟩:=h
 obtain ⟨u,rfl,rx⟩:=vals1 r
 cases rx
 obtain ⟨its,rv,pl,hz⟩:=I.tuple (SqT.of hq)
 have hI:IntsAre its ns:=intsAre_of rv
 have h64:its.length < 64:=by rw [← rv.length,List.length_map];exact hl
 refine uw pl hI h64 fun out ms hout hperm hpair=>?_
 obtain ⟨e,he⟩:=sortedAll_at s.heap its out
 refine ⟨.ref (s.heap.objs.size+1),_,I.laid (t':=s.toks) (o:=.lst (ms.map V.int)) (fun b ob q=>sortedAll_old q) (Nat.le_succ _) ?_,rfl,q _ ms (I.hok.fresh (Nat.le_succ _)) hperm hpair⟩
 have hlm:ms.length=ns.length:=hperm.length_eq
 exact ⟨by rw [List.length_map];have:(64:Nat)≤sizeLine:=(by decide);omega,out.toList,e,eD hout,by simpa using he⟩
def wq:List V→Hp→VK→Prop:=fun vs H Q=>rf vs H Q∨xm vs H Q
theorem jF:bw X (.builtin "sorted") wq:=qF.or uV
def gr (xs:List Vl) (S:Sto):R Vl:=match xs with
 | [x]=>(match (bP x S).bind intsOf with
  | some ns=>if ns.length < 64 then .ok (.d (.lst ((sortI ns).map D.int))) S else .bad
  | none=>.bad)
 | _=>.bad
theorem lE {K:PySem.W.Frag} {mg:Str→Option Value}:eC K mg wq gr:=by
 intro WE μ S H vs xs Q hr rs p
 unfold gr at p
 split at p
 ·obtain ⟨v,rfl,r⟩:=rs.one
  split at p
  ·rename_i ns e
   split at p
   ·rename_i hb
    obtain ⟨ds,e1,e2⟩:=Option.bind_eq_some_iff.mp e
    obtain ⟨a,us,rfl,ha,rr⟩:=gX hr r e1
    rw [fT e2] at rr
    rw [aw.i6 rr] at ha
    rcases ha with ha | ha
    ·refine .inl ⟨a,ns,rfl,ha,hb,fun l ms hl h1 h2=>?_⟩
     rw [my h1 h2]
     exact p.iX hr (aw.ints _) l hl
    ·refine .inr ⟨a,ns,rfl,ha,hb,fun l ms hl h1 h2=>?_⟩
     rw [my h1 h2]
     exact p.iX hr (aw.ints _) l hl
   ·exact p.elim
  ·exact p.elim
 ·exact p.elim
def zy:V→List V→Hp→VK→Prop:=fun x vs H Q=>∃ l b xs zs,x=.ref l∧vs=[.ref b]∧H l=some (.lst xs)∧H b=some (.tup zs)∧xs.length+zs.length≤sizeLine∧Q .non (upd H l (.lst (xs++zs)))
theorem Br:MtM X "list.extend" zy:=by
 intro pins s σ H x vs v us Q I rx rv h
 obtain ⟨l,b,xs,zs,rfl,rfl,hH,hB,hz,q⟩:=h
 cases rx
 obtain ⟨u,rfl,ru⟩:=rv.one
 cases ru
 obtain ⟨z,its,n,r,hl,e⟩:=I.mK hH
 obtain ⟨its2,r2,p2,hz2⟩:=I.tuple (SqT.of hB)
 obtain ⟨o2,g2,c2,n2,d2⟩:=id p2
 have l2:=r2.length
 have hsz:its.toArray.size+its2.toArray.size≤sizeLine:=by rw [List.size_toArray,List.size_toArray];omega
 have hlong:¬(!its.toArray.isEmpty && Builtin.List.listTooLong (its.toArray.size+its2.toArray.size))=true:=by
  rw [jW hsz,Bool.and_false]
  exact Bool.false_ne_true
 refine wpAny_call_entry F.slot_list_extend ⟨_,e,rfl⟩ F.entry_list_extend ?_ (F.args_list_extend_2 _ _)
 unfold Builtin.«list.extend»
 refine wpAny_bind (m:=selfAndOne "list.extend" _) ?_
 refine wpAny_of_eq (a:=(Value.ref l,Value.ref b)) (by first | rfl | (unfold selfAndOne;rfl)) ?_
 dsimp only
 unfold Builtin.List.listExtendWith
 refine wpAny_bind (wpAny_typeOf (T:="tuple") ⟨o2,g2,c2⟩ ?_)
 have ht:(Value.type "tuple" == Value.type "tuple")=true:=by rfl
 rw [if_pos (by rw [ht];simp)]
 refine wpAny_bind (listItems_at g2 d2 ?_)
 refine wpAny_bind (listItems_at (n:=n) e rfl ?_)
 rw [if_neg hlong]
 refine wpAny_bind (listUpdate_at (n:=n) e rfl ?_ (by rw [List.size_toArray];omega) (by rw [Array.size_append];omega))
 refine wpAny_pure ?_
 refine ⟨_,rfl,.non,_,I.uU (its':=its++its2) hH e (by simp) (r.append r2) ?_,rfl,q⟩
 rw [List.length_append]
 omega
end
section
variable {X:Cx} {WE:WX}
def zC:V→List V→Hp→VK→Prop:=fun x vs H Q=>tm x vs H Q∨zy x vs H Q
theorem sT:MtM X "list.extend" zC:=by
 intro pins s σ H x vs v us Q I rx rv h
 rcases h with h | h
 ·exact wU pins s σ H x vs v us Q I rx rv h
 ·exact Br pins s σ H x vs v us Q I rx rv h
def l6 (n:Nat) (xs:List D) (z:D) (S:Sto):R Vl:=match z with
 | .lst ys=>if xs.length+ys.length≤100000 then .ok (.d .non) (S.set n (.lst (xs++ys))) else .bad
 | .tup ys=>if xs.length+ys.length≤100000 then .ok (.d .non) (S.set n (.lst (xs++ys))) else .bad
 | _=>.bad
theorem oz:yk zC l6:=by
 intro K mg WE μ S H n xs vs w z Q hr e h rs rw' p
 unfold l6 at p
 split at p
 ·rename_i ys
  split at p
  ·cases rw' with
   | @lst a us _ h' rs'=>
    have l1:=rs.length
    have l2:=rs'.length
    exact .inl ⟨_,a,vs,us,rfl,rfl,h,(aR h').2,js (by omega),p _ _ _ (Step.put hr e (by simp) (ob:=.lst (xs++ys)) ⟨_,rfl,rs.append rs'⟩) Rep.non⟩
  ·exact p.elim
 ·rename_i ys
  split at p
  ·cases rw' with
   | @tup a us _ h' rs'=>
    have l1:=rs.length
    have l2:=rs'.length
    exact .inr ⟨_,a,vs,us,rfl,rfl,h,(aR h').2,js (by omega),p _ _ _ (Step.put hr e (by simp) (ob:=.lst (xs++ys)) ⟨_,rfl,rs.append rs'⟩) Rep.non⟩
  ·exact p.elim
 ·exact p.elim
def eB (x y z:Vl) (S:Sto):R Unit:=match x,y,z with
 | .r n,.d (.int k),.d w=>(match S[n]? with
  | some (.lst xs)=>(match ixN xs.length k with
   | some j=>.ok () (S.set n (.lst (xs.set j w)))
   | none=>.bad)
  | _=>.bad)
 | _,_,_=>.bad
theorem aw.set {H:Hp} {v:V} {d:D} (r:Rep H v d):∀ {vs:List V} {ds:List D} (i:Nat),aw H vs ds→aw H (vs.set i v) (ds.set i d)
 | _,_,_,.nil=>.nil
 | _,_,0,.cons _ t=>.cons r t
 | _,_,i+1,.cons q t=>.cons q (aw.set r i t)
theorem i_ {K:PySem.W.Frag} {mg:Str→Option Value}:vM K mg uK eB:=by
 intro WE μ S H o i v x y z Q hr ro ri rv p
 unfold eB at p
 split at p
 ·split at p
  ·rename_i n k w _ xs e
   obtain ⟨rfl,hn⟩:=ro
   obtain ⟨vs,h,rs⟩:=hr.ob _ _ e
   split at p
   ·rename_i j ej
    refine ⟨_,vs,k,j,rfl,a4 ri,h,by rw [rs.length];exact ej,?_⟩
    exact p () _ _ (Step.put hr e (by simp) (ob:=.lst (xs.set j w)) ⟨_,rfl,rs.set rv j⟩) True.intro
   ·exact p.elim
  ·exact p.elim
 ·exact p.elim
theorem ng:uL X uK:=set_list
def lrg (fin:List D→Sto→R Vl) (zs:List Vl) (S:Sto):R Vl:=match zs with
 | [.d (.int j)]=>if 0≤j∧j≤1000 then fin ((List.range j.toNat).map fun i=>D.int (i:Nat)) S else .bad
 | _=>.bad
def zj (ds:List D) (S:Sto):R Vl:=.ok (.r S.length) (S++[.lst ds])
theorem mS {H:Hp}:∀ l:List Nat,aw H (l.map fun i=>V.int (i:Nat)) (l.map fun i=>D.int (i:Nat))
 | []=>.nil
 | n :: l=>.cons (.int _) (mS l)
theorem pG {a:Expr} {as:XA} {p1 p2 pos1 pos2:Pos} (hc:X.calm=true) (hgl:Gl X "list") (hml:X.mg "list"=none) (hgr:Gl X "range") (hmr:X.mg "range"=none) (hbl:bootBuiltins "list"=some (.type "list")) (ha:RA X WE [a] as)
  (hs:starEach [a] X.env=[(false,eval a X.env)]:=by rfl)
  (hs2:starEach [Expr.Call (.Name "range" p2) [a] [] pos2] X.env=(false,eval (Expr.Call (.Name "range" p2) [a] [] pos2) X.env) :: starEach [] X.env:=by rfl) :
  RE X WE (.Call (.Name "list" p1) [.Call (.Name "range" p2) [a] [] pos2] [] pos1) (xN (lrg zj) as):=
 ⟨(qk hc hgl hml hgr hmr hbl ha.h hs hs2).weak fun σ H Q ⟨μ,S,τ,hr,sr,p⟩=>⟨μ,S,τ,hr,sr,p.bind fun vs xs S1 μ1 H1 st1 r1 p1=>by
  unfold lrg at p1
  split at p1
  ·split at p1
   ·rename_i j hj
    obtain ⟨v,rfl,r⟩:=r1.one
    exact ⟨j,by rw [a4 r],hj.1,hj.2,fun l hl=>p1.yB st1.hr (mS _) l hl⟩
   ·exact p1.elim
  ·exact p1.elim⟩⟩
end
def hV (x:Int):List Int→List Int
 | []=>[x]
 | y :: ys=>if x < y then x :: y :: ys else if x=y then y :: ys else y :: hV x ys
def aV:List Int→List Int
 | []=>[]
 | x :: xs=>hV x (aV xs)
theorem mP (x z:Int):∀ ys,z∈hV x ys↔z=x∨z∈ys
 | []=>by simp [hV]
 | y :: ys=>by
  unfold hV
  split
  ·simp
  ·split
   ·rename_i h;subst h;simp
   ·simp only [List.mem_cons,mP x z ys]
    constructor
    ·rintro (h | h | h)
     ·exact .inr (.inl h)
     ·exact .inl h
     ·exact .inr (.inr h)
    ·rintro (h | h | h)
     ·exact .inr (.inl h)
     ·exact .inl h
     ·exact .inr (.inr h)
theorem cE (z:Int):∀ xs,z∈aV xs↔z∈xs
 | []=>by simp [aV]
 | x :: xs=>by rw [aV,mP,cE z xs,List.mem_cons]
theorem oM (x:Int):∀ ys:List Int,ys.Pairwise (· < ·)→(hV x ys).Pairwise (· < ·)
 | [],_=>by simp [hV]
 | y :: ys,h=>by
  obtain ⟨h1,h2⟩:=List.pairwise_cons.mp h
  unfold hV
  split
  ·rename_i hxy
   refine List.pairwise_cons.mpr ⟨fun z hz=>?_,h⟩
   rcases List.mem_cons.mp hz with e | e
   ·omega
   ·have:=h1 z e;omega
  ·split
   ·exact h
   ·refine List.pairwise_cons.mpr ⟨fun z hz=>?_,oM x ys h2⟩
    rcases (mP x z ys).mp hz with e | e
    ·omega
    ·exact h1 z e
theorem b6:∀ xs,(aV xs).Pairwise (· < ·)
 | []=>.nil
 | x :: xs=>oM x _ (b6 xs)
theorem om {xs:List Int} (h:xs.Pairwise (· < ·)):xs.Nodup:=h.imp fun z=>by omega
theorem yS {xs ys:List Int} (h:∀ z,z∈xs↔z∈ys) (h1:xs.Pairwise (· < ·)) (h2:ys.Pairwise (· < ·)):xs=ys:=
 nS ((List.perm_ext_iff_of_nodup (om h1) (om h2)).mpr h) (h1.imp fun z=>by omega) (h2.imp fun z=>by omega)
theorem mz {xs ys:List Int} (h:∀ z,z∈ys↔z∈xs) (h1:ys.Pairwise (· < ·)):ys=aV xs:=yS (fun z=>by rw [h,cE]) h1 (b6 xs)
theorem m_ {ks ns:List Int} (h1:ks.Nodup) (h2:∀ x,x∈ks↔x∈ns):ks.length=(aV ns).length:=
 ((List.perm_ext_iff_of_nodup h1 (om (b6 ns))).mpr fun z=>by rw [h2,cE]).length_eq
section
variable {X:Cx} {WE:WX}
def SqI (H:Hp) (a:Addr) (ns:List Int):Prop:=H a=some (.lst (ns.map V.int))∨H a=some (.tup (ns.map V.int))
def Gu (te:TE):TE:=fun σ H Q=>te σ H fun x H1=>∃ (a:Addr) (ns:List Int),x=.ref a∧SqI H1 a ns∧ns.length≤300∧(aV ns).length < 64∧∀ l:Addr,H1 l=none→Q (.ref l) (upd H1 l (.lst ((aV ns).map V.int)))
def G7 (te:TE):TE:=fun σ H Q=>te σ H fun x H1=>∃ (a:Addr) (ns:List Int),x=.ref a∧SqI H1 a ns∧ns.length≤300∧Q (.int (aV ns).length) H1
theorem SqI.at {pins:List (Addr×Obj)} {σ:St} {H:Hp} {s:Shared} {a:Addr} {ns:List Int} (I:Inv X pins σ H s) (h:SqI H a ns):∃ (its:List Value) (k:Bool),IntsAre its ns∧rQ s.heap a its.toArray k:=by
 rcases h with h | h
 ·obtain ⟨its,rv,pl,hz⟩:=I.list (SqL.of h)
  exact ⟨its,true,intsAre_of rv,pl.isList⟩
 ·obtain ⟨its,rv,pl,hz⟩:=I.tuple (SqT.of h)
  exact ⟨its,false,intsAre_of rv,pl⟩
theorem BP {e:Expr} {te:TE} {p1 p2 pos1 pos2:Pos} (hc:X.calm=true) (hgs:Gl X "sorted") (hms:X.mg "sorted"=none) (hgt:Gl X "set") (hmt:X.mg "set"=none) (hbs:bootBuiltins "sorted"=some (.builtin "sorted")) (hbt:bootBuiltins "set"=some (.type "set")) (he:PE X e te)
  (hs:starEach [e] X.env=(false,eval e X.env) :: starEach [] X.env:=by rfl)
  (hs2:starEach [Expr.Call (.Name "set" p2) [e] [] pos2] X.env=(false,eval (Expr.Call (.Name "set" p2) [e] [] pos2) X.env) :: starEach [] X.env:=by rfl) :
  PE X (.Call (.Name "sorted" p1) [.Call (.Name "set" p2) [e] [] pos2] [] pos1) (Gu te):=by
 intro pins s σ H Q I h
 refine wpAny_Call_Name_kw (cT I hgs hms hbs ?_)
 rw [hs2]
 refine Calls.callWith_builtin (by show (false || (backTo pos1 (starEach ([]:List Expr) X.env)).any (·.1))=false;rfl) (Calls.evalArgs_plain ?_)
 show wpAny _ _ (spliced ((false,eval (Expr.Call (.Name "set" p2) [e] [] pos2) X.env) :: backTo pos1 (starEach [] X.env))) _ _ s
 refine Calls.spliced_cons ?_
 have hA:=(dH he fK hs) pos2 pins s σ H (fun vs H1=>∃ x,vs=[x]∧∃ (a:Addr) (ns:List Int),x=.ref a∧SqI H1 a ns∧ns.length≤300∧(aV ns).length < 64∧∀ l:Addr,H1 l=none→Q (.ref l) (upd H1 l (.lst ((aV ns).map V.int)))) I (by
  refine cast (congrArg (te σ H) ?_) h
  funext y H2
  refine propext ⟨fun q=>⟨y,rfl,q⟩,fun ⟨y',e',q⟩=>?_⟩
  cases e'
  exact q)
 refine Call_ (cT I hgt hmt hbt (PyProof.Rows.callWith_type1 (thn hA fun us s1 ⟨vs,H1,I1,r1,x,e1,a,ns,e2,hx,hn,hb,q⟩=>?_) hs rfl))
 subst e1 e2
 obtain ⟨u,rfl,rx⟩:=vals1 r1
 cases rx
 obtain ⟨its,k,hI,pl⟩:=hx.at I1
 have hA0:X.A.handled=none:=I.ok.hd hc
 refine ph hA0 k pl (by simpa using hI) hn fun h' tk ks S1 S2 S3=>?_
 refine wpAny_pure ?_
 have hnd:ks.Nodup:=by obtain ⟨_,_,_,_,_,_,_,_,_,_,_,_,_,_,_,_,g,_⟩:=S1;exact g
 have lk:=m_ hnd S2
 refine uB hA0 S1 (by omega) fun h2 tk2 out ms l c k1 k2 k3 k4 k5 k6 k7=>?_
 have em:ms=aV ns:=mz (fun x=>by rw [k6,S2]) k5
 subst em
 refine ⟨.ref l,_,I1.laid (t':=tk2) (o:=.lst ((aV ns).map V.int)) (fun b o e=>k1 b o (S3 b o e)) (Nat.le_of_lt k2) ⟨?_,out.toList,c,eD k4,?_⟩,rfl,q l (I1.hok.fresh (Nat.le_of_lt k2))⟩
 ·rw [List.length_map]
  exact Nat.le_of_lt (dA (by omega))
 ·simpa [seqObj] using k3
theorem BS {e:Expr} {te:TE} {p1 p2 pos1 pos2:Pos} (hc:X.calm=true) (hgs:Gl X "len") (hms:X.mg "len"=none) (hgt:Gl X "set") (hmt:X.mg "set"=none) (hbs:bootBuiltins "len"=some (.builtin "len")) (hbt:bootBuiltins "set"=some (.type "set")) (he:PE X e te)
  (hs:starEach [e] X.env=(false,eval e X.env) :: starEach [] X.env:=by rfl)
  (hs2:starEach [Expr.Call (.Name "set" p2) [e] [] pos2] X.env=(false,eval (Expr.Call (.Name "set" p2) [e] [] pos2) X.env) :: starEach [] X.env:=by rfl) :
  PE X (.Call (.Name "len" p1) [.Call (.Name "set" p2) [e] [] pos2] [] pos1) (G7 te):=by
 intro pins s σ H Q I h
 refine wpAny_Call_Name_kw (cT I hgs hms hbs ?_)
 rw [hs2]
 refine Calls.callWith_builtin (by show (false || (backTo pos1 (starEach ([]:List Expr) X.env)).any (·.1))=false;rfl) (Calls.evalArgs_plain ?_)
 show wpAny _ _ (spliced ((false,eval (Expr.Call (.Name "set" p2) [e] [] pos2) X.env) :: backTo pos1 (starEach [] X.env))) _ _ s
 refine Calls.spliced_cons ?_
 have hA:=(dH he fK hs) pos2 pins s σ H (fun vs H1=>∃ x,vs=[x]∧∃ (a:Addr) (ns:List Int),x=.ref a∧SqI H1 a ns∧ns.length≤300∧Q (.int (aV ns).length) H1) I (by
  refine cast (congrArg (te σ H) ?_) h
  funext y H2
  refine propext ⟨fun q=>⟨y,rfl,q⟩,fun ⟨y',e',q⟩=>?_⟩
  cases e'
  exact q)
 refine Call_ (cT I hgt hmt hbt (PyProof.Rows.callWith_type1 (thn hA fun us s1 ⟨vs,H1,I1,r1,x,e1,a,ns,e2,hx,hn,q⟩=>?_) hs rfl))
 subst e1 e2
 obtain ⟨u,rfl,rx⟩:=vals1 r1
 cases rx
 obtain ⟨its,k,hI,pl⟩:=hx.at I1
 have hA0:X.A.handled=none:=I.ok.hd hc
 refine ph hA0 k pl (by simpa using hI) hn fun h' tk ks S1 S2 S3=>?_
 refine wpAny_pure ?_
 obtain ⟨o,es,ep,t,pl',g1,g2,g3,g4,g5,g6,g7,g8,⟨g9,g10,g11⟩,g12,g13,g14,g15⟩:=S1
 have lks:es.size=ks.length:=by
  have:=cY g12
  rw [List.length_map,Array.length_toList] at this
  exact this
 refine call_len_set (s:=⟨h',s1.gens,s1.drawn,tk,s1.os⟩) g1 g2 g3 (fits_of g5 (by rw [g8,lks];simpa using g10) (by omega)) (by omega) ?_
 rw [lks,m_ g14 S2]
 exact ⟨.int _,H1,I1.kept (t':=tk+1+1) S3,⟨_,rfl⟩,q⟩
def oSS (x:Vl) (S:Sto):R Vl:=match (bP x S).bind intsOf with
 | some ns=>if ns.length≤300∧(aV ns).length < 64 then .ok (.d (.lst ((aV ns).map D.int))) S else .bad
 | none=>.bad
def oLS (x:Vl) (S:Sto):R Vl:=match (bP x S).bind intsOf with
 | some ns=>if ns.length≤300 then .ok (.d (.int (aV ns).length)) S else .bad
 | none=>.bad
theorem wL {K:PySem.W.Frag} {mg:Str→Option Value} {μ:Nat→Addr} {S:Sto} {H:Hp} {v:V} {x:Vl} {ns:List Int} (hr:HR μ S H) (r:aL K mg μ S H v x) (e:(bP x S).bind intsOf=some ns):∃ a,v=.ref a∧SqI H a ns:=by
 obtain ⟨ds,e1,e2⟩:=Option.bind_eq_some_iff.mp e
 obtain ⟨a,us,rfl,ha,rr⟩:=gX hr r e1
 rw [fT e2] at rr
 rw [aw.i6 rr] at ha
 exact ⟨a,rfl,ha⟩
theorem Ez {e:Expr} {xa:XE} {p1 p2 pos1 pos2:Pos} [n:NS e] (hc:X.calm=true) (hgs:Gl X "sorted") (hms:X.mg "sorted"=none) (hgt:Gl X "set") (hmt:X.mg "set"=none) (hbs:bootBuiltins "sorted"=some (.builtin "sorted")) (hbt:bootBuiltins "set"=some (.type "set")) (he:RE X WE e xa)
  (hs2:starEach [Expr.Call (.Name "set" p2) [e] [] pos2] X.env=(false,eval (Expr.Call (.Name "set" p2) [e] [] pos2) X.env) :: starEach [] X.env:=by rfl) :
  RE X WE (.Call (.Name "sorted" p1) [.Call (.Name "set" p2) [e] [] pos2] [] pos1) (xUn oSS xa):=
 ⟨(BP hc hgs hms hgt hmt hbs hbt he.h (n.eq _ X.env) hs2).weak fun σ H Q ⟨μ,S,τ,hr,sr,p⟩=>⟨μ,S,τ,hr,sr,p.bind fun v x S1 μ1 H1 st1 r1 p1=>by
  unfold oSS at p1
  split at p1
  ·rename_i ns e1
   split at p1
   ·rename_i hb
    obtain ⟨a,rfl,sq⟩:=wL st1.hr r1 e1
    exact ⟨a,ns,rfl,sq,hb.1,hb.2,fun l hl=>p1.iX st1.hr (aw.ints _) l hl⟩
   ·exact p1.elim
  ·exact p1.elim⟩⟩
theorem FX {e:Expr} {xa:XE} {p1 p2 pos1 pos2:Pos} [n:NS e] (hc:X.calm=true) (hgs:Gl X "len") (hms:X.mg "len"=none) (hgt:Gl X "set") (hmt:X.mg "set"=none) (hbs:bootBuiltins "len"=some (.builtin "len")) (hbt:bootBuiltins "set"=some (.type "set")) (he:RE X WE e xa)
  (hs2:starEach [Expr.Call (.Name "set" p2) [e] [] pos2] X.env=(false,eval (Expr.Call (.Name "set" p2) [e] [] pos2) X.env) :: starEach [] X.env:=by rfl) :
  RE X WE (.Call (.Name "len" p1) [.Call (.Name "set" p2) [e] [] pos2] [] pos1) (xUn oLS xa):=
 ⟨(BS hc hgs hms hgt hmt hbs hbt he.h (n.eq _ X.env) hs2).weak fun σ H Q ⟨μ,S,τ,hr,sr,p⟩=>⟨μ,S,τ,hr,sr,p.bind fun v x S1 μ1 H1 st1 r1 p1=>by
  unfold oLS at p1
  split at p1
  ·rename_i ns e1
   split at p1
   ·obtain ⟨a,rfl,sq⟩:=wL st1.hr r1 e1
    exact ⟨a,ns,rfl,sq,‹_›,p1.here st1.hr (Rep.int _)⟩
   ·exact p1.elim
  ·exact p1.elim⟩⟩
end
def cM (k:Nat):List D→List Vl
 | []=>[]
 | x :: xs=>.d (.tup [.int k,x]) :: cM (k+1) xs
theorem fP:∀ (k:Nat) (xs:List D),(cM k xs).length=xs.length
 | _,[]=>rfl
 | k,x :: xs=>by simp [cM,fP (k+1) xs]
theorem dw:∀ (k:Nat) (xs:List D) (i:Nat),(cM k xs)[i]?=(xs[i]?).map fun x=>Vl.d (.tup [.int ((k+i:Nat):Int),x])
 | _,[],_=>by simp [cM]
 | k,x :: xs,0=>by simp [cM]
 | k,x :: xs,i+1=>by
  simp only [cM,List.getElem?_cons_succ,dw (k+1) xs i]
  congr 1
  funext z
  rw [show k+1+i=k+(i+1) by omega]
def yC (e:XE):XI:=fun τ S=>(e τ S).bind fun z S1=>match z with
 | .d (.lst xs)=>.ok ⟨cM 0 xs,none⟩ S1
 | _=>.bad
section
variable {X:Cx} {WE:WX} {K:PySem.W.Frag} {mg:Str→Option Value} {μ:Nat→Addr} {S:Sto} {H:Hp}
theorem x9 {a:Addr} {vs:List V} {xs:List D} (g:vh μ S H a=some (.lst vs)) (rs:aw (vh μ S H) vs xs) (hz:vs.length≤sizeLine):gT K mg μ S H (Ite K a) ⟨cM 0 xs,none⟩ where
 ok:=True.intro
 len:=by simp only [fP];rw [← rs.length];exact hz
 go:=fun i z μ' S' H' st _ e=>by
  rw [dw] at e
  cases q:xs[i]? with
  | none=>rw [q] at e;cases e
  | some x=>
   obtain ⟨u,e2,_⟩:=rs.get' q
   exact ⟨vs,u,SqL.of (aR (st.vis _ _ g)).2,e2⟩
 yld:=fun i z μ' S' H' u H2 st _ e y=>by
  obtain ⟨p,w,hp,rfl,rfl,y⟩:=y
  rw [dw] at e
  cases q:xs[i]? with
  | none=>rw [q] at e;cases e
  | some x=>
   rw [q] at e
   cases e
   have e2:=y vs (SqL.of (aR (st.vis _ _ g)).2)
   obtain ⟨x',e3,r⟩:=rs.get e2
   rw [q] at e3;cases e3
   have st2:=Step.new st.hr hp (.tup [.int i,w])
   refine ⟨st2,Rep.tup (bJ bC (st.hr.nal hp)) (.cons ?_ (.cons (Rep.mono (st.trans st2).vis r) .nil))⟩
   rw [Nat.zero_add]
   exact .int _
 stop:=fun i μ' S' H' st _ hi=>⟨vs,SqL.of (aR (st.vis _ _ g)).2,by rw [rs.length];rw [fP] at hi;exact Nat.le_of_eq hi⟩
end
section
variable {X:Cx} {WE:WX}
theorem xF {es:List Expr} {kk:Nat} {tp:Pos} {l:Expr} {xl:XE} {p pos:Pos} (hg:Gl X "enumerate") (hm:X.mg "enumerate"=none) (hl:RE X WE l xl) (hb:bootBuiltins "enumerate"=some (.type "enumerate"):=by decide +kernel)
  (hs:starEach [l] X.env=[(false,eval l X.env)]:=by rfl):RI X WE (.Tuple es kk tp) (.Call (.Name "enumerate" p) [l] [] pos) (yC xl):=⟨by
 intro pins s σ H R I h
 obtain ⟨μ,S,τ,hr,sr,pp⟩:=h
 refine Call_ (cT I hg hm hb (PyProof.Rows.callWith_type1 (thn ((dH hl.h fK hs) pos pins s σ H (fun vs H1=>∃ x,vs=[x]∧∃ μ1 S1 z,HR μ1 S1 H1∧aL X.K X.mg μ1 S1 H1 x z∧aN (gT X.K X.mg) WE μ1 S1 H1 (match z with
   | .d (.lst xs)=>.ok ⟨cM 0 xs,none⟩ S1
   | _=>.bad) R) I ?_) fun us s1 ⟨vs,H1,I1,r1,q1⟩=>?_) hs rfl))
 ·exact ⟨μ,S,τ,hr,sr,pp.bind fun v x S1 μ1 H1 st1 r1 p1=>⟨v,rfl,μ1,S1,x,st1.hr,r1,p1⟩⟩
 ·obtain ⟨x,e,μ1,S1,z,hr1,rz,p1⟩:=q1
  subst e
  obtain ⟨u,rfl,ru⟩:=vals1 r1
  split at p1
  ·cases (show Rep (vh μ1 S1 H1) x (.lst _) from rz) with
   | @lst a us _ g rs=>
    cases ru
    have hq:SqL X.K H1 a us:=SqL.of (aR g).2
    obtain ⟨its,rv,pl,hz⟩:=I1.list hq
    have q:=p1.here hr1 (x9 g rs hz)
    refine call_enumerate_list pl.isList fun h' he hit hsz hk=>?_
    refine wpAny_pyIter_enum (s:={ s1 with heap:=h' }) he ?_
    have I2:Inv X pins σ H1 { s1 with heap:=h' }:=I1.kept (t':=s1.toks) hk
    refine ⟨s1.heap.objs.size+1,[s1.heap.objs.size+1,s1.heap.objs.size],_,_,H1,rfl,I2,vK a _ _ (Nat.succ_ne_self _),⟨⟨_,he⟩,hit⟩,fun b hb=>?_,q⟩
    have hle:s1.heap.objs.size≤b:=by
     rcases List.mem_cons.mp hb with z | z
     ·rw [z];exact Nat.le_succ _
     ·rw [List.mem_singleton.mp z];exact Nat.le_refl _
    exact I1.lq hle (I1.hok.fresh hle)
  ·exact p1.elim⟩
def qz (x:Vl) (lo hi:Option Int) (S:Sto):R Vl:=match x with
 | .sc ns=>.ok (.d (.lst (fU (ns.map D.int) lo hi))) S
 | _=>.bad
theorem v7 {e:Expr} {lo hi:Option Expr} {xa:XE} {xl xh:XO} {p2 pos:Pos} (he:RE X WE e xa) (hl:RO X WE lo xl) (hh:RO X WE hi xh):RE X WE (.Subscript e (.Slice lo hi none p2) pos) (xSl qz xa xl xh):=
 ⟨(xM AA he.h hl.h hh.h).weak fun σ H Q ⟨μ,S,τ,hr,sr,p⟩=>⟨μ,S,τ,hr,sr,p.bind fun v x S1 μ1 H1 st1 r1 p1=>⟨μ1,S1,τ,st1.hr,sr.step st1,p1.bind fun i i' S2 μ2 H2 st2 r2 p2=>⟨μ2,S2,τ,st2.hr,sr.step (st1.trans st2),p2.bind fun j j' S3 μ3 H3 st3 r3 p3=>by
  cases (show i=i' from r2)
  cases (show j=j' from r3)
  have rv:=r1.step (st2.trans st3)
  unfold qz at p3
  split at p3
  ·rename_i ns
   obtain ⟨l,rfl,hq⟩:=rv
   exact ⟨l,_,rfl,hq.mono fB,fun q hq=>p3.iX st3.hr (xE (aw.ints ns) i j) q hq⟩
  ·exact p3.elim⟩⟩⟩⟩
theorem cX {sts:List Stmt}:RB X WE sts cK:=⟨fun _ _ _ _ _ _ ⟨_,_,_,_,_,p⟩=>p.elim⟩
end
def Df (K:PySem.W.Frag) (mg:Str→Option Value) (x:Str) (st:Stmt):Prop:=∃ (f:Addr) (fd:FuncData),Fun K x x st f fd∧mg x=some (.ref f)
theorem FQ {K:PySem.W.Frag} {h:Heap} {mg:Str→Option Value} {x:Str} {st:Stmt} {f:Addr} {oc:Value} {od an:Option Addr} {osl:Array (Option Value)} {kV doc pm cdv ct:Value} (X:K.In h) (G:h.Ns mainGlobals mg) (a:PySem.W.nsIn K mainGlobals x=some (some (.ref f)))
  (l:K.lookup f=some ⟨oc,od,.func (PySem.W.fnOf x x (jm st) (eE st) (bQ st) .none kV doc pm an cdv ct),osl⟩) (c:PySem.W.codeIn K cdv x=true) (k:PySem.W.keepIn K (.ref f)=true):Df K mg x st:=⟨f,_,C8 l c k,PySem.W.mg_of X G a⟩
theorem aX {K:PySem.W.Frag} {mg:Str→Option Value} {P:Program} {w:World} {x:Str} {st:Stmt} {ps:List Str} {lev:Nat} {k n:Nat} {m:XS} {M:XF} (N:List Str) (F:Df K mg x st)
    (hb:∀ (base:Heap) (f:Addr) (cdv:Value) (A:Around) (outer:List Env) (s:Shared) (H:Hp) (E:XK),c9 lev (A.deeper (envOfC x (bQ st) s.heap.objs.size f cdv))→LQ (bQ st) N→RB (kR CX0 P w K mg base N x (bQ st) f cdv A outer s H E).nox W0 (eE st) m)
    (hM:M=aH k n m:=by rfl) (hk:ps.length=k:=by rfl) (hn:N.length=n:=by rfl) (Sc:i9 N ps (bQ st):=by exact ⟨rfl,rfl,rfl,by decide +kernel,rfl,by decide +kernel,by decide +kernel⟩)
    (hbd:∀ (kV doc pm:Value) (an:Option Addr) (cdv ct:Value) (us:List Value),us.length=ps.length→bindArgs (PySem.W.fnOf x x (jm st) (eE st) (bQ st) .none kV doc pm an cdv ct) ⟨us,[]⟩=pure (ps.zip us):=by
      intro _ _ _ _ _ _ us hl
      rcases us with _ | ⟨a,_ | ⟨b,_ | ⟨c,_ | ⟨d,_ | ⟨e,_ | ⟨f,us⟩⟩⟩⟩⟩⟩<;>first | (simp at hl;done) | rfl):OkE P w K mg (lev+1) x ps M:=by
  subst hM hk hn
  obtain ⟨f,fd,F,hm⟩:=F
  refine ⟨f,fd,hm,F.kp,?_,fun base=>G8 F Sc fun cdv A outer s H E hr=>hb base f cdv A outer s H E hr ⟨Sc.nd⟩⟩
  obtain ⟨oc,od,kV,doc,pm,an,cdv,ct,osl,rfl,lk,hcd⟩:=F.ex
  exact hbd kV doc pm an cdv ct
theorem aI {α β:Type} {a:α} {S:Sto} {f:α→Sto→R β}:(R.ok a S).bind f=f a S:=rfl
theorem Fm {i:Nat} {z:Vl} {τ:Nv} {S:Sto}:gNm i z τ S=.ok (τ.set i (some z)) S:=rfl
theorem jI {S S':Sto} {z:Vl} {τ:Nv}:leave S (.ok (.rt z,τ) S')=out S z S':=rfl
theorem jT {S S':Sto} {τ:Nv}:leave S (.ok (.nx,τ) S')=out S (.d .non) S':=rfl
theorem il {S S':Sto} {x:D}:out S (.d x) S'=.ok (.d x) (S'.take S.length):=rfl
theorem nA {k n:Nat} {b:XS} {us:List Vl} {S:Sto} (h:us.length=k):aH k n b us S=leave S (b (us.map some++List.replicate (n - k) none) S):=by unfold aH;rw [if_pos h]
open Classical in
theorem rZ {g:XG} {b:XS} {gd:Option (Nat×Ob)}:∀ {items:List Vl} {τ:Nv} {S:Sto} (I:Nat→Nv→Sto→Prop),I 0 τ S →
  (∀ i z τ S,items[i]?=some z→I i τ S→∃ τ1 S1 fl τ2 S2,g z τ S=.ok τ1 S1∧b τ1 S1=.ok (fl,τ2) S2∧(fl=.nx∨fl=.ct)∧gok gd S2∧I (i+1) τ2 S2) →
  ∃ τ' S',cw g b gd items τ S=.ok (.nx,τ') S'∧I items.length τ' S'
 | [],τ,S,I,h0,_=>⟨τ,S,rfl,h0⟩
 | z :: zs,τ,S,I,h0,hs=>by
  obtain ⟨τ1,S1,fl,τ2,S2,e1,e2,hf,hg,hI⟩:=hs 0 z τ S rfl h0
  obtain ⟨τ',S',e3,h3⟩:=rZ (items:=zs) (τ:=τ2) (S:=S2) (fun i=>I (i+1)) hI fun i z' τ S hz hi=>hs (i+1) z' τ S (by simpa using hz) hi
  refine ⟨τ',S',?_,h3⟩
  rw [cw,e1,aI,e2,aI]
  rcases hf with rfl | rfl
  ·dsimp only
   rw [if_pos hg];exact e3
  ·dsimp only
   rw [if_pos hg];exact e3
theorem v8 {it:XI} {t:XT} {e:XE} {τ:Nv} {S S1:Sto} {items:List Vl} (hit:it τ S=.ok ⟨items,none⟩ S1) (J:Nat→List D→Sto→Prop) (h0:J 0 [] S1)
  (hs:∀ i z acc Q,items[i]?=some z→J i acc Q→Q.length=S1.length→∃ b Q1,t (some z :: τ) (Q++[.lst acc])=.ok b (Q1++[.lst acc])∧Q1.length=S1.length ∧
   (b=true→∃ x Q2,e (some z :: τ) (Q1++[.lst acc])=.ok (.d x) (Q2++[.lst acc])∧Q2.length=S1.length∧J (i+1) (acc++[x]) Q2)∧(b=false→J (i+1) acc Q1)) :
  ∃ acc Q,xLC it 1 (gNm 0) t e τ S=.ok (.d (.lst acc)) Q∧Q.length=S1.length∧J items.length acc Q:=by
 have key:∀ (zs:List Vl) (i:Nat) (acc:List D) (o:Option Vl) (Q:Sto),(∀ j,zs[j]?=items[i+j]?)→J i acc Q→Q.length=S1.length→∃ acc' Q',eA (gNm 0) t e S1.length none zs acc (o :: τ) (Q++[.lst acc])=.ok acc' (Q'++[.lst acc'])∧Q'.length=S1.length∧J (i+zs.length) acc' Q':=by
  intro zs
  induction zs with
  | nil=>
   intro i acc o Q _ hJ hl
   refine ⟨acc,Q,?_,hl,hJ⟩
   rw [eA,if_pos]
   rw [← hl,List.getElem?_append_right (Nat.le_refl _)]
   simp
  | cons z zs ih=>
   intro i acc o Q hz hJ hl
   have hz0:items[i]?=some z:=by
    have:=hz 0
    simpa using this.symm
   have hz1:∀ j,zs[j]?=items[i+1+j]?:=fun j=>by
    have:=hz (j+1)
    rw [show i+1+j=i+(j+1) by omega]
    simpa using this
   obtain ⟨b,Q1,e1,l1,ht,hf⟩:=hs i z acc Q hz0 hJ hl
   rw [eA,Fm,aI,show (o :: τ).set 0 (some z)=some z :: τ from rfl,e1,aI]
   cases b with
   | true=>
    obtain ⟨x,Q2,e2,l2,hJ2⟩:=ht rfl
    rw [if_pos rfl,e2,aI]
    dsimp only
    have hn:(Q2++[Ob.lst acc])[S1.length]?=some (.lst acc):=by
     rw [← l2,List.getElem?_append_right (Nat.le_refl _)];simp
    rw [if_pos ⟨hn,True.intro⟩]
    have hset:(Q2++[Ob.lst acc]).set S1.length (.lst (acc++[x]))=Q2++[.lst (acc++[x])]:=by
     rw [← l2,List.set_append_right _ _ (Nat.le_refl _)];simp
    rw [hset]
    obtain ⟨acc',Q',e3,l3,h3⟩:=ih (i+1) (acc++[x]) (some z) Q2 hz1 hJ2 l2
    exact ⟨acc',Q',e3,l3,by rw [show i+(z :: zs).length=i+1+zs.length by simp;omega];exact h3⟩
   | false=>
    rw [if_neg Bool.false_ne_true,if_pos (show gok none (Q1++[Ob.lst acc]) from True.intro)]
    obtain ⟨acc',Q',e3,l3,h3⟩:=ih (i+1) acc (some z) Q1 hz1 (hf rfl) l1
    exact ⟨acc',Q',e3,l3,by rw [show i+(z :: zs).length=i+1+zs.length by simp;omega];exact h3⟩
 obtain ⟨acc,Q,e1,l1,h1⟩:=key items 0 [] none S1 (fun j=>by rw [Nat.zero_add]) h0 rfl
 refine ⟨acc,Q,?_,l1,by rw [Nat.zero_add] at h1;exact h1⟩
 show (it τ S).bind _=_
 rw [hit,aI]
 dsimp only
 rw [show List.replicate 1 (none:Option Vl)++τ=none :: τ from rfl,e1,aI]
 unfold lJ
 rw [if_pos (by simp [l1]),← l1,List.take_left]
theorem Bl {it:XI} {t:XT} {e:XE} {τ:Nv} {S S1:Sto} {items:List Vl} (hit:it τ S=.ok ⟨items,none⟩ S1) (f:Vl→Option D)
  (hs:∀ z∈items,∀ S:Sto,(∀ x,f z=some x→t (some z :: τ) S=.ok true S∧e (some z :: τ) S=.ok (.d x) S)∧(f z=none→t (some z :: τ) S=.ok false S)) :
  xLC it 1 (gNm 0) t e τ S=.ok (.d (.lst (items.filterMap f))) S1:=by
 obtain ⟨acc,Q,e1,l1,h1⟩:=v8 (t:=t) (e:=e) hit (fun i acc Q=>acc=(items.take i).filterMap f∧Q=S1) ⟨rfl,rfl⟩ (by
  rintro i z acc Q hz ⟨rfl,rfl⟩ _
  have hm:=List.mem_of_getElem? hz
  have ht:items.take (i+1)=items.take i++[z]:=by rw [List.take_add_one,hz];rfl
  obtain ⟨h1,h2⟩:=hs z hm (Q++[.lst ((items.take i).filterMap f)])
  cases q:f z with
  | some x=>
   obtain ⟨h3,h4⟩:=h1 x q
   refine ⟨true,Q,h3,rfl,fun _=>⟨x,Q,h4,rfl,?_,rfl⟩,fun z=>(by cases z)⟩
   rw [ht,List.filterMap_append]
   simp [q]
  | none=>
   refine ⟨false,Q,h2 q,rfl,fun z=>(by cases z),fun _=>⟨?_,rfl⟩⟩
   rw [ht,List.filterMap_append]
   simp [q])
 obtain ⟨rfl,rfl⟩:=h1
 rw [List.take_length] at e1
 exact e1
theorem rV {it:XI} {e:XE} {τ:Nv} {S S1:Sto} {items:List Vl} (hit:it τ S=.ok ⟨items,none⟩ S1) (f:Vl→D) (hs:∀ z∈items,∀ S:Sto,e (some z :: τ) S=.ok (.d (f z)) S) :
  xLC it 1 (gNm 0) (fun _ S=>.ok true S) e τ S=.ok (.d (.lst (items.map f))) S1:=by
 have:=Bl (t:=fun _ S=>.ok true S) (e:=e) hit (fun z=>some (f z)) fun z hz S=>⟨fun x hx=>⟨rfl,by cases hx;exact hs z hz S⟩,fun h=>by cases h⟩
 rw [this]
 congr 4
 rw [List.filterMap_eq_map']
end L2
namespace L2
section
variable {n:Nat} {b:XS} {x y z u v:Vl} {S:Sto}
theorem bO:aH 1 n b [x] S=leave S (b ([some x]++List.replicate (n - 1) none) S):=nA rfl
theorem c8:aH 2 n b [x,y] S=leave S (b ([some x,some y]++List.replicate (n - 2) none) S):=nA rfl
theorem dk:aH 3 n b [x,y,z] S=leave S (b ([some x,some y,some z]++List.replicate (n - 3) none) S):=nA rfl
theorem nJ:aH 4 n b [x,y,z,u] S=leave S (b ([some x,some y,some z,some u]++List.replicate (n - 4) none) S):=nA rfl
theorem rP:aH 5 n b [x,y,z,u,v] S=leave S (b ([some x,some y,some z,some u,some v]++List.replicate (n - 5) none) S):=nA rfl
end
end L2
theorem L2.af {α:Sort _} {a b:α} (h:a=b):a=b:=h
namespace L2
open PySem PySem.Spec PyProof.Rows
def Eh (f:Vl→Vl→Sto→R Vl) (r:R Vl) (b:XE) (τ:Nv):R Vl:=r.bind fun x S1=>(b τ S1).bind fun y S2=>f x y S2
def zb (f:Vl→Vl→Sto→R Vl) (x:Vl) (r:R Vl):R Vl:=r.bind fun y S2=>f x y S2
def un1 (f:Vl→Sto→R Vl) (r:R Vl):R Vl:=r.bind fun x S1=>f x S1
def ch3 (r:R Vl) (f:Vl→Vl→Sto→R Vl) (y:Vl) (c:XE) (τ:Nv):R Vl:=r.bind fun z S3=>match z with
 | .d (.bl k)=>if k=true then (c τ S3).bind fun w S4=>f y w S4 else .ok (.d (.bl false)) S3
 | _=>.bad
def ch2 (f f2:Vl→Vl→Sto→R Vl) (x:Vl) (r:R Vl) (c:XE) (τ:Nv):R Vl:=r.bind fun y S2=>ch3 (f x y S2) f2 y c τ
def ch1 (f f2:Vl→Vl→Sto→R Vl) (r:R Vl) (b c:XE) (τ:Nv):R Vl:=r.bind fun x S1=>ch2 f f2 x (b τ S1) c τ
def t1 (r:R Vl):R Bool:=r.bind asB
def tr1 (r:R Vl):R Bool:=r.bind tru
def yi (r:R Bool) (b:XT) (τ:Nv):R Bool:=r.bind fun c S1=>if c=true then b τ S1 else .ok false S1
def or1 (r:R Bool) (b:XT) (τ:Nv):R Bool:=r.bind fun c S1=>if c=true then .ok true S1 else b τ S1
def Cn (r:R Bool):R Bool:=r.bind fun c S1=>.ok (!c) S1
def ua (r:R Vl) (b:XE) (τ:Nv):R Vl:=r.bind fun x S1=>(asB x S1).bind fun c S2=>if c=true then b τ S2 else .ok (.d (.bl false)) S2
def xS (r:R Vl) (b:XE) (τ:Nv):R Vl:=r.bind fun x S1=>(asB x S1).bind fun c S2=>if c=true then .ok (.d (.bl true)) S2 else b τ S2
def zO (r:R Vl):R Vl:=r.bind fun x S1=>(asB x S1).bind fun c S2=>.ok (.d (.bl (!c))) S2
def yc (r:R Bool) (a b:XE) (τ:Nv):R Vl:=r.bind fun k S1=>if k=true then a τ S1 else b τ S1
def co2 (x:Vl) (r:R (List Vl)):R (List Vl):=r.bind fun xs S2=>.ok (x :: xs) S2
def co1 (r:R Vl) (t:XA) (τ:Nv):R (List Vl):=r.bind fun x S1=>co2 x (t τ S1)
def n1 (f:List Vl→Sto→R Vl) (r:R (List Vl)):R Vl:=r.bind f
def c1 (F:XF) (r:R (List Vl)):R Vl:=r.bind fun us S1=>noX (F us S1)
def fz1 (r:R Vl):R Vl:=r.bind frz
def p1 (r:R Vl):R (Option Int):=r.bind fun x S1=>match x with
 | .d (.int i)=>.ok (some i) S1
 | _=>.bad
def sl3 (f:Vl→Option Int→Option Int→Sto→R Vl) (x:Vl) (i:Option Int) (r:R (Option Int)):R Vl:=r.bind fun j S3=>f x i j S3
def sl2 (f:Vl→Option Int→Option Int→Sto→R Vl) (x:Vl) (r:R (Option Int)) (h:XO) (τ:Nv):R Vl:=r.bind fun i S2=>sl3 f x i (h τ S2)
def sl1 (f:Vl→Option Int→Option Int→Sto→R Vl) (r:R Vl) (l h:XO) (τ:Nv):R Vl:=r.bind fun x S1=>sl2 f x (l τ S1) h τ
def lm4 (f:Nat→List D→D→Sto→R Vl) (n:Nat) (o:Option Ob) (z:D) (S:Sto):R Vl:=match o with
 | some (.lst xs)=>f n xs z S
 | _=>.bad
def lm3 (f:Nat→List D→D→Sto→R Vl) (n:Nat) (r:R Vl):R Vl:=r.bind fun y S2=>match y with
 | .d z=>lm4 f n S2[n]? z S2
 | _=>.bad
def lm2 (f:Nat→List D→D→Sto→R Vl) (n:Nat) (o:Option Ob) (e:XE) (τ:Nv) (S:Sto):R Vl:=match o with
 | some (.lst _)=>lm3 f n (e τ S)
 | _=>.bad
def lm1 (f:Nat→List D→D→Sto→R Vl) (r:R Vl) (e:XE) (τ:Nv):R Vl:=r.bind fun x S1=>match x with
 | .r n=>lm2 f n S1[n]? e τ S1
 | _=>.bad
def sq1 (r:R (Fl×Nv)) (b:XS):R (Fl×Nv):=r.bind fun q S1=>match q.1 with
 | .nx=>b q.2 S1
 | _=>.ok q S1
def ex1 (r:R Vl) (τ:Nv):R (Fl×Nv):=r.bind fun _ S1=>.ok (.nx,τ) S1
def rt1 (r:R Vl) (τ:Nv):R (Fl×Nv):=r.bind fun z S1=>.ok (.rt z,τ) S1
def if1 (r:R Bool) (a b:XS) (τ:Nv):R (Fl×Nv):=r.bind fun k S1=>if k=true then a τ S1 else b τ S1
def as2 (r:R Nv):R (Fl×Nv):=r.bind fun τ1 S2=>.ok (.nx,τ1) S2
def as1 (r:R Vl) (g:XG) (τ:Nv):R (Fl×Nv):=r.bind fun z S1=>as2 (g z τ S1)
def gc1 (r:R Nv) (gs:XGs) (zs:List Vl):R Nv:=r.bind fun τ1 S1=>gs zs τ1 S1
def gs3 (r:R Unit) (τ:Nv):R Nv:=r.bind fun _ S3=>.ok τ S3
def gs2 (x:Vl) (r:R Vl) (f:Vl→Vl→Vl→Sto→R Unit) (z:Vl) (τ:Nv):R Nv:=r.bind fun y S2=>gs3 (f x y z S2) τ
def gs1 (r:R Vl) (i:XE) (f:Vl→Vl→Vl→Sto→R Unit) (z:Vl) (τ:Nv):R Nv:=r.bind fun x S1=>gs2 x (i τ S1) f z τ
noncomputable def fo1 (r:R Its) (g:XG) (b:XS) (τ:Nv):R (Fl×Nv):=r.bind fun I S1=>cw g b I.gd I.items τ S1
def is2 (n:Nat) (o:Option Ob) (S:Sto):R Its:=match o with
 | some (.lst xs)=>.ok ⟨xs.map Vl.d,some (n,.lst xs)⟩ S
 | _=>.bad
def is1 (r:R Vl):R Its:=r.bind fun z S1=>match z with
 | .d (.tup xs)=>.ok ⟨xs.map Vl.d,none⟩ S1
 | .d (.lst xs)=>.ok ⟨xs.map Vl.d,none⟩ S1
 | .r n=>is2 n S1[n]? S1
 | _=>.bad
def ir1 (r:R (List Vl)):R Its:=r.bind fun zs S1=>match zs with
 | [.d (.int j)]=>if -100000≤j∧j≤100000 then .ok ⟨(List.range j.toNat).map fun i=>Vl.d (.int (i:Nat)),none⟩ S1 else .bad
 | _=>.bad
def ir2 (r:R (List Vl)):R Its:=r.bind fun zs S1=>match zs with
 | [.d (.int i),.d (.int j)]=>if (-100000≤i∧i≤100000)∧-100000≤j∧j≤100000 then .ok ⟨(List.range (j - i).toNat).map fun k=>Vl.d (.int (i+(k:Nat))),none⟩ S1 else .bad
 | _=>.bad
def ie1 (r:R Vl):R Its:=r.bind fun z S1=>match z with
 | .d (.lst xs)=>.ok ⟨cM 0 xs,none⟩ S1
 | _=>.bad
theorem zS {v:Vl} {τ:Nv} {S:Sto}:aa 0 (some v :: τ) S=.ok v S:=af rfl
theorem zP {n:Nat} {o:Option Vl} {τ:Nv} {S:Sto}:aa (n+1) (o :: τ) S=aa n τ S:=af rfl
theorem DM {x:D} {τ:Nv} {S:Sto}:xC x τ S=.ok (.d x) S:=af rfl
theorem FU {x:Str} {τ:Nv} {S:Sto}:xFn x τ S=.ok (.fn x) S:=af rfl
theorem FL {f:Vl→Vl→Sto→R Vl} {a b:XE} {τ:Nv} {S:Sto}:xOp f a b τ S=Eh f (a τ S) b τ:=af rfl
theorem Cy {f:Vl→Vl→Sto→R Vl} {b:XE} {τ:Nv} {S1:Sto} {x:Vl}:Eh f (.ok x S1) b τ=zb f x (b τ S1):=af rfl
theorem DL {f:Vl→Vl→Sto→R Vl} {S1:Sto} {x y:Vl}:zb f x (.ok y S1)=f x y S1:=af rfl
theorem F3 {u:Vl→Sto→R Vl} {a:XE} {τ:Nv} {S:Sto}:xUn u a τ S=un1 u (a τ S):=af rfl
theorem Gh {u:Vl→Sto→R Vl} {S1:Sto} {x:Vl}:un1 u (.ok x S1)=u x S1:=af rfl
theorem yE {f f2:Vl→Vl→Sto→R Vl} {a b c:XE} {τ:Nv} {S:Sto}:fO f f2 a b c τ S=ch1 f f2 (a τ S) b c τ:=af rfl
theorem Ft {f f2:Vl→Vl→Sto→R Vl} {b c:XE} {τ:Nv} {S1:Sto} {x:Vl}:ch1 f f2 (.ok x S1) b c τ=ch2 f f2 x (b τ S1) c τ:=af rfl
theorem Eu {f f2:Vl→Vl→Sto→R Vl} {c:XE} {τ:Nv} {S1:Sto} {x y:Vl}:ch2 f f2 x (.ok y S1) c τ=ch3 (f x y S1) f2 y c τ:=af rfl
theorem Dk {f:Vl→Vl→Sto→R Vl} {c:XE} {τ:Nv} {S1:Sto} {y:Vl}:ch3 (.ok (.d (.bl true)) S1) f y c τ=zb f y (c τ S1):=af rfl
theorem Dp {f:Vl→Vl→Sto→R Vl} {c:XE} {τ:Nv} {S1:Sto} {y:Vl}:ch3 (.ok (.d (.bl false)) S1) f y c τ=.ok (.d (.bl false)) S1:=af rfl
theorem Bm {a:XE} {τ:Nv} {S:Sto}:aM a τ S=t1 (a τ S):=af rfl
theorem Gr {k:Bool} {S:Sto}:t1 (.ok (.d (.bl k)) S)=.ok k S:=af rfl
theorem Dg {a:XE} {τ:Nv} {S:Sto}:bW a τ S=tr1 (a τ S):=af rfl
theorem Gg {z:Vl} {S:Sto}:tr1 (.ok z S)=tru z S:=af rfl
theorem Gk {k:Bool} {S:Sto}:tru (.d (.bl k)) S=.ok k S:=af rfl
theorem F_ {xs:List D} {S:Sto}:tru (.d (.tup xs)) S=.ok (!xs.isEmpty) S:=af rfl
theorem Fe {xs:List D} {S:Sto}:tru (.d (.lst xs)) S=.ok (!xs.isEmpty) S:=af rfl
theorem EB {S:Sto}:tru (.d .non) S=.ok false S:=af rfl
theorem CZ {a b:XT} {τ:Nv} {S:Sto}:G3 a b τ S=yi (a τ S) b τ:=af rfl
theorem DV {b:XT} {τ:Nv} {S:Sto}:yi (.ok true S) b τ=b τ S:=af rfl
theorem Ec {b:XT} {τ:Nv} {S:Sto}:yi (.ok false S) b τ=.ok false S:=af rfl
theorem FY {a b:XT} {τ:Nv} {S:Sto}:xOr a b τ S=or1 (a τ S) b τ:=af rfl
theorem EH {b:XT} {τ:Nv} {S:Sto}:or1 (.ok true S) b τ=.ok true S:=af rfl
theorem FW {b:XT} {τ:Nv} {S:Sto}:or1 (.ok false S) b τ=b τ S:=af rfl
theorem Cz {a:XT} {τ:Nv} {S:Sto}:dr a τ S=Cn (a τ S):=af rfl
theorem DN {S:Sto} {k:Bool}:Cn (.ok k S)=.ok (!k) S:=af rfl
theorem Bd {a b:XE} {τ:Nv} {S:Sto}:bT a b τ S=ua (a τ S) b τ:=af rfl
theorem By {b:XE} {τ:Nv} {S:Sto}:ua (.ok (.d (.bl true)) S) b τ=b τ S:=af rfl
theorem Bc {b:XE} {τ:Nv} {S:Sto}:ua (.ok (.d (.bl false)) S) b τ=.ok (.d (.bl false)) S:=af rfl
theorem BQ {a b:XE} {τ:Nv} {S:Sto}:yM a b τ S=xS (a τ S) b τ:=af rfl
theorem BZ {b:XE} {τ:Nv} {S:Sto}:xS (.ok (.d (.bl true)) S) b τ=.ok (.d (.bl true)) S:=af rfl
theorem D5 {b:XE} {τ:Nv} {S:Sto}:xS (.ok (.d (.bl false)) S) b τ=b τ S:=af rfl
theorem Bf {a:XE} {τ:Nv} {S:Sto}:pY a τ S=zO (a τ S):=af rfl
theorem Bs {k:Bool} {S:Sto}:zO (.ok (.d (.bl k)) S)=.ok (.d (.bl (!k))) S:=af rfl
theorem DR {c:XT} {a b:XE} {τ:Nv} {S:Sto}:G9 c a b τ S=yc (c τ S) a b τ:=af rfl
theorem Dh {a b:XE} {τ:Nv} {S:Sto}:yc (.ok true S) a b τ=a τ S:=af rfl
theorem C1 {a b:XE} {τ:Nv} {S:Sto}:yc (.ok false S) a b τ=b τ S:=af rfl
theorem vO {τ:Nv} {S:Sto}:aj τ S=.ok [] S:=af rfl
theorem tH {a:XE} {r:XA} {τ:Nv} {S:Sto}:ab a r τ S=co1 (a τ S) r τ:=af rfl
theorem zE {r:XA} {τ:Nv} {S:Sto} {x:Vl}:co1 (.ok x S) r τ=co2 x (r τ S):=af rfl
theorem zD {S:Sto} {x:Vl} {xs:List Vl}:co2 x (.ok xs S)=.ok (x :: xs) S:=af rfl
theorem GI {r:XA} {τ:Nv} {S:Sto} {f:List Vl→Sto→R Vl}:xN f r τ S=n1 f (r τ S):=af rfl
theorem GP {S:Sto} {xs:List Vl} {f:List Vl→Sto→R Vl}:n1 f (.ok xs S)=f xs S:=af rfl
theorem tM {r:XA} {τ:Nv} {S:Sto} {F:XF}:az F r τ S=c1 F (r τ S):=af rfl
theorem B7 {S:Sto} {xs:List Vl} {F:XF}:c1 F (.ok xs S)=noX (F xs S):=af rfl
theorem zA {x:Vl} {S:Sto}:noX (R.ok x S)=.ok x S:=af rfl
theorem Gf {a:XE} {τ:Nv} {S:Sto}:xFz a τ S=fz1 (a τ S):=af rfl
theorem ES {z:Vl} {S:Sto}:fz1 (.ok z S)=frz z S:=af rfl
theorem BF {x:D} {S:Sto}:frz (.d x) S=.ok (.d x) S:=af rfl
theorem vT {τ:Nv} {S:Sto}:n4 τ S=.ok none S:=af rfl
theorem z7 {a:XE} {τ:Nv} {S:Sto}:nM a τ S=p1 (a τ S):=af rfl
theorem Gy {i:Int} {S:Sto}:p1 (.ok (.d (.int i)) S)=.ok (some i) S:=af rfl
theorem EW {f:Vl→Option Int→Option Int→Sto→R Vl} {a:XE} {l h:XO} {τ:Nv} {S:Sto}:xSl f a l h τ S=sl1 f (a τ S) l h τ:=af rfl
theorem FC {f:Vl→Option Int→Option Int→Sto→R Vl} {l h:XO} {τ:Nv} {S:Sto} {x:Vl}:sl1 f (.ok x S) l h τ=sl2 f x (l τ S) h τ:=af rfl
theorem FG {f:Vl→Option Int→Option Int→Sto→R Vl} {h:XO} {τ:Nv} {S:Sto} {x:Vl} {i:Option Int}:sl2 f x (.ok i S) h τ=sl3 f x i (h τ S):=af rfl
theorem E7 {f:Vl→Option Int→Option Int→Sto→R Vl} {S:Sto} {x:Vl} {i j:Option Int}:sl3 f x i (.ok j S)=f x i j S:=af rfl
theorem Ff {f:Nat→List D→D→Sto→R Vl} {o e:XE} {τ:Nv} {S:Sto}:xLm f o e τ S=lm1 f (o τ S) e τ:=af rfl
theorem FR {f:Nat→List D→D→Sto→R Vl} {e:XE} {τ:Nv} {S:Sto} {n:Nat}:lm1 f (.ok (.r n) S) e τ=lm2 f n S[n]? e τ S:=af rfl
theorem EF {f:Nat→List D→D→Sto→R Vl} {e:XE} {τ:Nv} {S:Sto} {n:Nat} {xs:List D}:lm2 f n (some (.lst xs)) e τ S=lm3 f n (e τ S):=af rfl
theorem Fo {f:Nat→List D→D→Sto→R Vl} {S:Sto} {n:Nat} {z:D}:lm3 f n (.ok (.d z) S)=lm4 f n S[n]? z S:=af rfl
theorem E6 {f:Nat→List D→D→Sto→R Vl} {S:Sto} {n:Nat} {xs:List D} {z:D}:lm4 f n (some (.lst xs)) z S=f n xs z S:=af rfl
theorem oj {τ:Nv} {S:Sto}:aO τ S=.ok (.nx,τ) S:=af rfl
theorem h_ {a b:XS} {τ:Nv} {S:Sto}:ay a b τ S=sq1 (a τ S) b:=af rfl
theorem jN {b:XS} {τ:Nv} {S:Sto}:sq1 (.ok (.nx,τ) S) b=b τ S:=af rfl
theorem Es {b:XS} {τ:Nv} {S:Sto} {v:Vl}:sq1 (.ok (.rt v,τ) S) b=.ok (.rt v,τ) S:=af rfl
theorem Gb {b:XS} {τ:Nv} {S:Sto}:sq1 (.ok (.bk,τ) S) b=.ok (.bk,τ) S:=af rfl
theorem Gi {b:XS} {τ:Nv} {S:Sto}:sq1 (.ok (.ct,τ) S) b=.ok (.ct,τ) S:=af rfl
theorem BA {τ:Nv} {S:Sto} {e:XE}:ed e τ S=ex1 (e τ S) τ:=af rfl
theorem F6 {τ:Nv} {S:Sto} {z:Vl}:ex1 (.ok z S) τ=.ok (.nx,τ) S:=af rfl
theorem Cc {τ:Nv} {S:Sto} {e:XE}:aE e τ S=rt1 (e τ S) τ:=af rfl
theorem Fw {τ:Nv} {S:Sto} {z:Vl}:rt1 (.ok z S) τ=.ok (.rt z,τ) S:=af rfl
theorem AW {τ:Nv} {S:Sto}:E_ τ S=.ok (.rt (.d .non),τ) S:=af rfl
theorem AX {τ:Nv} {S:Sto}:p6 τ S=.ok (.ct,τ) S:=af rfl
theorem yv {τ:Nv} {S:Sto}:BV τ S=.ok (.bk,τ) S:=af rfl
theorem zW {a b:XS} {τ:Nv} {S:Sto} {t:XT}:xIf t a b τ S=if1 (t τ S) a b τ:=af rfl
theorem Co {a b:XS} {τ:Nv} {S:Sto}:if1 (.ok true S) a b τ=a τ S:=af rfl
theorem qX {a b:XS} {τ:Nv} {S:Sto}:if1 (.ok false S) a b τ=b τ S:=af rfl
theorem ia {τ:Nv} {S:Sto} {e:XE} {g:XG}:aQ e g τ S=as1 (e τ S) g τ:=af rfl
theorem pP {τ:Nv} {S:Sto} {z:Vl} {g:XG}:as1 (.ok z S) g τ=as2 (g z τ S):=af rfl
theorem nq {τ1:Nv} {S:Sto}:as2 (.ok τ1 S)=.ok (.nx,τ1) S:=af rfl
theorem m8 {τ:Nv} {S:Sto} {z:Vl} {i:Nat}:gNm i z τ S=.ok (τ.set i (some z)) S:=af rfl
theorem Ep {gs:XGs} {τ:Nv} {S:Sto} {xs:List D} {n:Nat}:gTu n gs (.d (.tup xs)) τ S=if xs.length=n then gs (xs.map Vl.d) τ S else .bad:=af rfl
theorem F0 {τ:Nv} {S:Sto}:gN0 [] τ S=.ok τ S:=af rfl
theorem Ga {g:XG} {gs:XGs} {τ:Nv} {S:Sto} {z:Vl} {zs:List Vl}:gCo g gs (z :: zs) τ S=gc1 (g z τ S) gs zs:=af rfl
theorem F9 {gs:XGs} {τ1:Nv} {S:Sto} {zs:List Vl}:gc1 (.ok τ1 S) gs zs=gs zs τ1 S:=af rfl
theorem zB {τ:Nv} {S:Sto} {z:Vl} {o e:XE} {f:Vl→Vl→Vl→Sto→R Unit}:gSb o e f z τ S=gs1 (o τ S) e f z τ:=af rfl
theorem z5 {τ:Nv} {S:Sto} {z x:Vl} {e:XE} {f:Vl→Vl→Vl→Sto→R Unit}:gs1 (.ok x S) e f z τ=gs2 x (e τ S) f z τ:=af rfl
theorem zp {τ:Nv} {S:Sto} {z x y:Vl} {f:Vl→Vl→Vl→Sto→R Unit}:gs2 x (.ok y S) f z τ=gs3 (f x y z S) τ:=af rfl
theorem t7 {τ:Nv} {S:Sto}:gs3 (.ok () S) τ=.ok τ S:=af rfl
theorem qJ {it:XI} {g:XG} {b:XS} {τ:Nv} {S:Sto}:cW it g b τ S=fo1 (it τ S) g b τ:=af rfl
theorem uA {g:XG} {b:XS} {τ:Nv} {S:Sto} {I:Its}:fo1 (.ok I S) g b τ=cw g b I.gd I.items τ S:=af rfl
theorem vG {τ:Nv} {S:Sto} {e:XE}:bz e τ S=is1 (e τ S):=af rfl
theorem w4 {S:Sto} {xs:List D}:is1 (.ok (.d (.tup xs)) S)=.ok ⟨xs.map Vl.d,none⟩ S:=af rfl
theorem Dx {S:Sto} {xs:List D}:is1 (.ok (.d (.lst xs)) S)=.ok ⟨xs.map Vl.d,none⟩ S:=af rfl
theorem De {S:Sto} {n:Nat}:is1 (.ok (.r n) S)=is2 n S[n]? S:=af rfl
theorem EA {S:Sto} {xs:List D} {n:Nat}:is2 n (some (.lst xs)) S=.ok ⟨xs.map Vl.d,some (n,.lst xs)⟩ S:=af rfl
theorem DA {τ:Nv} {S:Sto} {as:XA}:lj as τ S=ir1 (as τ S):=af rfl
theorem Dv {τ:Nv} {S:Sto} {as:XA}:yo as τ S=ir2 (as τ S):=af rfl
theorem C9 {τ:Nv} {S:Sto} {e:XE}:yC e τ S=ie1 (e τ S):=af rfl
theorem Gj {S:Sto} {xs:List D}:ie1 (.ok (.d (.lst xs)) S)=.ok ⟨cM 0 xs,none⟩ S:=af rfl
theorem Ey {j:Int} {S:Sto} (h:-100000≤j∧j≤100000):ir1 (.ok [.d (.int j)] S)=.ok ⟨(List.range j.toNat).map fun i=>Vl.d (.int (i:Nat)),none⟩ S:=by rw [show ir1 (.ok [.d (.int j)] S)=if -100000≤j∧j≤100000 then .ok ⟨(List.range j.toNat).map fun i=>Vl.d (.int (i:Nat)),none⟩ S else .bad from rfl,if_pos h]
theorem u4 {i j:Int} {S:Sto} (h:(-100000≤i∧i≤100000)∧-100000≤j∧j≤100000):ir2 (.ok [.d (.int i),.d (.int j)] S)=.ok ⟨(List.range (j - i).toNat).map fun k=>Vl.d (.int (i+(k:Nat))),none⟩ S:=by rw [show ir2 (.ok [.d (.int i),.d (.int j)] S)=if (-100000≤i∧i≤100000)∧-100000≤j∧j≤100000 then .ok ⟨(List.range (j - i).toNat).map fun k=>Vl.d (.int (i+(k:Nat))),none⟩ S else .bad from rfl,if_pos h]
theorem GD {i j:Int} {S:Sto} {g:Int→Int→D}:oI0 g (.d (.int i)) (.d (.int j)) S=.ok (.d (g i j)) S:=af rfl
theorem Di {i j:Int} {S:Sto}:bU (.d (.int i)) (.d (.int j)) S=.ok (.d (.int (i+j))) S:=af rfl
theorem Em {i:Int} {S:Sto}:ky (.d (.int i)) S=.ok (.d (.int (-i))) S:=af rfl
theorem w6 {S:Sto} {xs ys:List D} (h:xs.length+ys.length≤100000):bU (.d (.tup xs)) (.d (.tup ys)) S=.ok (.d (.tup (xs++ys))) S:=by rw [show bU (.d (.tup xs)) (.d (.tup ys)) S=if xs.length+ys.length≤100000 then .ok (.d (.tup (xs++ys))) S else .bad from rfl,if_pos h]
theorem rp {S:Sto} {xs ys:List D} (h:xs.length+ys.length≤100000):bU (.d (.lst xs)) (.d (.lst ys)) S=.ok (.d (.lst (xs++ys))) S:=by rw [show bU (.d (.lst xs)) (.d (.lst ys)) S=if xs.length+ys.length≤100000 then .ok (.d (.lst (xs++ys))) S else .bad from rfl,if_pos h]
theorem EX {i j:Int} {S:Sto}:oEq (.d (.int i)) (.d (.int j)) S=.ok (.d (.bl (decide (i=j)))) S:=af rfl
theorem F5 {i j:Int} {S:Sto}:oNe (.d (.int i)) (.d (.int j)) S=.ok (.d (.bl (!decide (i=j)))) S:=af rfl
theorem F1 {S:Sto} {s t:Str}:oEq (.d (.str s)) (.d (.str t)) S=.ok (.d (.bl (decide (s=t)))) S:=af rfl
theorem EV {S:Sto} {s t:Str}:oNe (.d (.str s)) (.d (.str t)) S=.ok (.d (.bl (!decide (s=t)))) S:=af rfl
theorem Fg {S:Sto} {p q:Bool}:oEq (.d (.bl p)) (.d (.bl q)) S=.ok (.d (.bl (decide (p=q)))) S:=af rfl
theorem E5 {S:Sto} {p q:Bool}:oNe (.d (.bl p)) (.d (.bl q)) S=.ok (.d (.bl (!decide (p=q)))) S:=af rfl
theorem FN {S:Sto} {xs ys:List D} (h:D.depth (.tup xs)≤50):oEq (.d (.tup xs)) (.d (.tup ys)) S=.ok (.d (.bl (D.bG xs ys))) S:=by
 have:eqD (.d (.tup xs)) (.d (.tup ys)) S=some (D.bG xs ys):=by rw [show eqD (.d (.tup xs)) (.d (.tup ys)) S=if D.depth (.tup xs)≤50 then some (D.bG xs ys) else none from rfl,if_pos h]
 unfold oEq;rw [this]
theorem BJ {S:Sto} {xs ys:List D} (h:D.depth (.lst xs)≤50):oEq (.d (.lst xs)) (.d (.lst ys)) S=.ok (.d (.bl (D.bG xs ys))) S:=by
 have:eqD (.d (.lst xs)) (.d (.lst ys)) S=some (D.bG xs ys):=by rw [show eqD (.d (.lst xs)) (.d (.lst ys)) S=if D.depth (.lst xs)≤50 then some (D.bG xs ys) else none from rfl,if_pos h]
 unfold oEq;rw [this]
theorem h9 {S:Sto} {xs ys:List D} (h:D.depth (.lst xs)≤50):oNe (.d (.lst xs)) (.d (.lst ys)) S=.ok (.d (.bl (!D.bG xs ys))) S:=by
 have:eqD (.d (.lst xs)) (.d (.lst ys)) S=some (D.bG xs ys):=by rw [show eqD (.d (.lst xs)) (.d (.lst ys)) S=if D.depth (.lst xs)≤50 then some (D.bG xs ys) else none from rfl,if_pos h]
 unfold oNe;rw [this]
theorem F7 {S:Sto} {p q:Bool}:oIs (.d (.bl p)) (.d (.bl q)) S=.ok (.d (.bl (p == q))) S:=af rfl
theorem CY {S:Sto}:oIs (.d .non) (.d .non) S=.ok (.d (.bl true)) S:=af rfl
theorem Dt {S:Sto} {xs:List D}:oIs (.d (.tup xs)) (.d .non) S=.ok (.d (.bl false)) S:=af rfl
theorem BD {S:Sto} {xs:List D}:oIs (.d (.lst xs)) (.d .non) S=.ok (.d (.bl false)) S:=af rfl
theorem CU {i:Int} {S:Sto}:oIs (.d (.int i)) (.d .non) S=.ok (.d (.bl false)) S:=af rfl
theorem xQ {S:Sto}:pS (.d .non) (.d .non) S=.ok (.d (.bl false)) S:=af rfl
theorem yl {S:Sto} {xs:List D}:pS (.d (.tup xs)) (.d .non) S=.ok (.d (.bl true)) S:=af rfl
theorem yh {S:Sto} {xs:List D}:pS (.d (.lst xs)) (.d .non) S=.ok (.d (.bl true)) S:=af rfl
theorem xO {i:Int} {S:Sto}:pS (.d (.int i)) (.d .non) S=.ok (.d (.bl true)) S:=af rfl
theorem EM {T:String} {x:D} {S:Sto}:cC T (.d x) S=.ok (.d (.bl (isT T x))) S:=af rfl
theorem nO {S:Sto} {xs:List D}:bA [.d (.tup xs)] S=.ok (.d (.int xs.length)) S:=af rfl
theorem Eg {S:Sto} {xs:List D}:bA [.d (.lst xs)] S=.ok (.d (.int xs.length)) S:=af rfl
theorem CO {S:Sto} {xs:List D}:cS [.d (.tup xs)] S=.ok (.d (.tup xs)) S:=af rfl
theorem D3 {S:Sto} {xs:List D}:cS [.d (.lst xs)] S=.ok (.d (.tup xs)) S:=af rfl
theorem C4 {S:Sto} {xs:List D}:l7 [.d (.tup xs)] S=.ok (.d (.lst xs)) S:=af rfl
theorem Cs {S:Sto} {xs:List D}:l7 [.d (.lst xs)] S=.ok (.d (.lst xs)) S:=af rfl
theorem Ax {S:Sto} {xs:List D}:lr [.d (.tup xs)] S=.ok (.r S.length) (S++[.lst xs]):=af rfl
theorem Ao {S:Sto} {xs:List D}:lr [.d (.lst xs)] S=.ok (.r S.length) (S++[.lst xs]):=af rfl
theorem FP {i j:Int} {S:Sto}:ub [.d (.int i),.d (.int j)] S=.ok (.d (.int (if j > i then j else i))) S:=af rfl
theorem Ge {i j:Int} {S:Sto}:rq [.d (.int i),.d (.int j)] S=.ok (.d (.int (if j < i then j else i))) S:=af rfl
theorem cv {i:Int} {S:Sto} {xs:List D} {z:D} (h:atI xs i=some z):oIx (.d (.tup xs)) (.d (.int i)) S=.ok (.d z) S:=by rw [show oIx (.d (.tup xs)) (.d (.int i)) S=(match atI xs i with | some z=>.ok (.d z) S | none=>.bad) from rfl,h]
theorem jO {i:Int} {S:Sto} {xs:List D} {z:D} (h:atI xs i=some z):oIx (.d (.lst xs)) (.d (.int i)) S=.ok (.d z) S:=by rw [show oIx (.d (.lst xs)) (.d (.int i)) S=(match atI xs i with | some z=>.ok (.d z) S | none=>.bad) from rfl,h]
theorem pX {i:Int} {S:Sto} {xs:List D} {z:D} {n:Nat} (e:S[n]?=some (.lst xs)) (h:atI xs i=some z):oIx (.r n) (.d (.int i)) S=.ok (.d z) S:=by
 have:bP (.r n) S=some xs:=by unfold bP cu;dsimp only;rw [e]
 unfold oIx;dsimp only;rw [this];dsimp only;rw [h]
theorem q_ {S:Sto} {xs:List D} {n:Nat} (e:S[n]?=some (.lst xs)):bA [.r n] S=.ok (.d (.int xs.length)) S:=by
 have:bP (.r n) S=some xs:=by unfold bP cu;dsimp only;rw [e]
 unfold bA;dsimp only;rw [this]
theorem Fc {xs:List D} {i j:Option Int} {S:Sto}:oSl (.d (.tup xs)) i j S=.ok (.d (.tup (fU xs i j))) S:=af rfl
theorem F2 {xs:List D} {i j:Option Int} {S:Sto}:oSl (.d (.lst xs)) i j S=.ok (.d (.lst (fU xs i j))) S:=af rfl
theorem Fx {ns:List Int} {i j:Option Int} {S:Sto}:qz (.sc ns) i j S=.ok (.d (.lst (fU (ns.map D.int) i j))) S:=af rfl
theorem Gn {S:Sto} {xs:List D}:GN (.d (.tup xs)) (.d (.int (-1))) S=.ok (.d (.tup xs.reverse)) S:=af rfl
theorem Fp {i j:Int} {S:Sto}:qc (.d (.int i)) (.d (.int j)) S=.ok (.d (.int (i - j))) S:=af rfl
theorem GJ {i j:Int} {S:Sto}:oLt (.d (.int i)) (.d (.int j)) S=.ok (.d (.bl (decide (i < j)))) S:=af rfl
theorem Gv {i j:Int} {S:Sto}:oLe (.d (.int i)) (.d (.int j)) S=.ok (.d (.bl (decide (i≤j)))) S:=af rfl
theorem GZ {i j:Int} {S:Sto}:oGt (.d (.int i)) (.d (.int j)) S=.ok (.d (.bl (decide (j < i)))) S:=af rfl
theorem G4 {i j:Int} {S:Sto}:oGe (.d (.int i)) (.d (.int j)) S=.ok (.d (.bl (decide (j≤i)))) S:=af rfl
theorem Ew {i j:Int} {S:Sto} (h:jt i j):gU (.d (.int i)) (.d (.int j)) S=.ok (.d (.int (i * j))) S:=by rw [show gU (.d (.int i)) (.d (.int j)) S=if jt i j then .ok (.d (.int (i * j))) S else .bad from rfl,if_pos h]
theorem zG {i j:Int} {S:Sto} (h:0 < j):oMod (.d (.int i)) (.d (.int j)) S=.ok (.d (.int (i % j))) S:=by rw [show oMod (.d (.int i)) (.d (.int j)) S=if 0 < j then .ok (.d (.int (i % j))) S else .bad from rfl,if_pos h]
theorem EC {i j:Int} {S:Sto} (h:n6 i j):oDiv (.d (.int i)) (.d (.int j)) S=.ok (.d (.int (i / j))) S:=by rw [show oDiv (.d (.int i)) (.d (.int j)) S=if n6 i j then .ok (.d (.int (i / j))) S else .bad from rfl,if_pos h]
theorem uh {i j:Int} {S:Sto} (h:n8 i j):uG (.d (.int i)) (.d (.int j)) S=.ok (.d (.int (i ^ j.toNat))) S:=by rw [show uG (.d (.int i)) (.d (.int j)) S=if n8 i j then .ok (.d (.int (i ^ j.toNat))) S else .bad from rfl,if_pos h]
theorem EJ {i j:Int} (h1:-(2 ^ 64) < j) (h2:j < 2 ^ 64):jt i j:=.inr ⟨h1,h2⟩
theorem Cg {S:Sto}:mkT [] S=.ok (.d (.tup [])) S:=af rfl
theorem BH {S:Sto}:mkL [] S=.ok (.d (.lst [])) S:=af rfl
theorem Dc {S:Sto}:mkM [] S=.ok (.r S.length) (S++[.lst []]):=af rfl
theorem B6 {a:D} {S:Sto}:mkT [.d a] S=.ok (.d (.tup [a])) S:=af rfl
theorem Cw {a:D} {S:Sto}:mkL [.d a] S=.ok (.d (.lst [a])) S:=af rfl
theorem CC {a:D} {S:Sto}:mkM [.d a] S=.ok (.r S.length) (S++[.lst [a]]):=af rfl
theorem Dw {a b:D} {S:Sto}:mkT [.d a,.d b] S=.ok (.d (.tup [a,b])) S:=af rfl
theorem El {a b:D} {S:Sto}:mkL [.d a,.d b] S=.ok (.d (.lst [a,b])) S:=af rfl
theorem CG {a b:D} {S:Sto}:mkM [.d a,.d b] S=.ok (.r S.length) (S++[.lst [a,b]]):=af rfl
theorem Cr {a b c:D} {S:Sto}:mkT [.d a,.d b,.d c] S=.ok (.d (.tup [a,b,c])) S:=af rfl
theorem Ej {a b c:D} {S:Sto}:mkL [.d a,.d b,.d c] S=.ok (.d (.lst [a,b,c])) S:=af rfl
theorem Dd {a b c:D} {S:Sto}:mkM [.d a,.d b,.d c] S=.ok (.r S.length) (S++[.lst [a,b,c]]):=af rfl
theorem D9 {a b c d:D} {S:Sto}:mkT [.d a,.d b,.d c,.d d] S=.ok (.d (.tup [a,b,c,d])) S:=af rfl
theorem Cf {a b c d:D} {S:Sto}:mkL [.d a,.d b,.d c,.d d] S=.ok (.d (.lst [a,b,c,d])) S:=af rfl
theorem B2 {a b c d e:D} {S:Sto}:mkT [.d a,.d b,.d c,.d d,.d e] S=.ok (.d (.tup [a,b,c,d,e])) S:=af rfl
theorem Dn {a b c d e:D} {S:Sto}:mkL [.d a,.d b,.d c,.d d,.d e] S=.ok (.d (.lst [a,b,c,d,e])) S:=af rfl
theorem C7 {a b c d e f:D} {S:Sto}:mkT [.d a,.d b,.d c,.d d,.d e,.d f] S=.ok (.d (.tup [a,b,c,d,e,f])) S:=af rfl
theorem D4 {a b c d e f:D} {S:Sto}:mkL [.d a,.d b,.d c,.d d,.d e,.d f] S=.ok (.d (.lst [a,b,c,d,e,f])) S:=af rfl
theorem Dj {a b c d e f g:D} {S:Sto}:mkT [.d a,.d b,.d c,.d d,.d e,.d f,.d g] S=.ok (.d (.tup [a,b,c,d,e,f,g])) S:=af rfl
theorem Dz {a b c d e f g:D} {S:Sto}:mkL [.d a,.d b,.d c,.d d,.d e,.d f,.d g] S=.ok (.d (.lst [a,b,c,d,e,f,g])) S:=af rfl
theorem Eb {a b c d e f g h:D} {S:Sto}:mkT [.d a,.d b,.d c,.d d,.d e,.d f,.d g,.d h] S=.ok (.d (.tup [a,b,c,d,e,f,g,h])) S:=af rfl
theorem DU {a b c d e f g h:D} {S:Sto}:mkL [.d a,.d b,.d c,.d d,.d e,.d f,.d g,.d h] S=.ok (.d (.lst [a,b,c,d,e,f,g,h])) S:=af rfl
theorem B_ {a b c d e f g h i:D} {S:Sto}:mkT [.d a,.d b,.d c,.d d,.d e,.d f,.d g,.d h,.d i] S=.ok (.d (.tup [a,b,c,d,e,f,g,h,i])) S:=af rfl
theorem DD {a b c d e f g h i:D} {S:Sto}:mkL [.d a,.d b,.d c,.d d,.d e,.d f,.d g,.d h,.d i] S=.ok (.d (.lst [a,b,c,d,e,f,g,h,i])) S:=af rfl
theorem AH {a b c d e f g h i j:D} {S:Sto}:mkT [.d a,.d b,.d c,.d d,.d e,.d f,.d g,.d h,.d i,.d j] S=.ok (.d (.tup [a,b,c,d,e,f,g,h,i,j])) S:=af rfl
theorem Aj {a b c d e f g h i j:D} {S:Sto}:mkL [.d a,.d b,.d c,.d d,.d e,.d f,.d g,.d h,.d i,.d j] S=.ok (.d (.lst [a,b,c,d,e,f,g,h,i,j])) S:=af rfl
theorem Bz {a b c d e f g h i j k:D} {S:Sto}:mkT [.d a,.d b,.d c,.d d,.d e,.d f,.d g,.d h,.d i,.d j,.d k] S=.ok (.d (.tup [a,b,c,d,e,f,g,h,i,j,k])) S:=af rfl
theorem BB {a b c d e f g h i j k:D} {S:Sto}:mkL [.d a,.d b,.d c,.d d,.d e,.d f,.d g,.d h,.d i,.d j,.d k] S=.ok (.d (.lst [a,b,c,d,e,f,g,h,i,j,k])) S:=af rfl
theorem AJ {a b c d e f g h i j k l:D} {S:Sto}:mkT [.d a,.d b,.d c,.d d,.d e,.d f,.d g,.d h,.d i,.d j,.d k,.d l] S=.ok (.d (.tup [a,b,c,d,e,f,g,h,i,j,k,l])) S:=af rfl
theorem Ag {a b c d e f g h i j k l:D} {S:Sto}:mkL [.d a,.d b,.d c,.d d,.d e,.d f,.d g,.d h,.d i,.d j,.d k,.d l] S=.ok (.d (.lst [a,b,c,d,e,f,g,h,i,j,k,l])) S:=af rfl
theorem lK {o x:Ob} {R:Sto}:(o :: (R++[x]))[R.length+1]?=some x:=by simp
theorem rn {x:Ob} {R:Sto}:(R++[x])[R.length]?=some x:=by simp
theorem yX {x y:Ob} {R:Sto}:(R++[x]).set R.length y=R++[y]:=by simp
theorem zi {x y:Ob} {R:Sto}:(R++[x,y])[R.length]?=some x:=by simp
theorem yU {x y z:Ob} {R:Sto}:(R++[x,y]).set R.length z=R++[z,y]:=by simp
theorem yV {x y:Ob} {R:Sto}:(R++[x,y])[R.length+1]?=some y:=by simp
theorem yz {x y z:Ob} {R:Sto}:(R++[x,y]).set (R.length+1) z=R++[x,z]:=by simp
theorem wG (ns:List Int):(ns.map D.int).all D.flat=true:=by rw [List.all_map];exact List.all_eq_true.mpr fun _ _=>rfl
theorem Aw (w:Int) (ns:List Int):inD (.int w) (ns.map D.int)=decide (w∈ns):=by
 unfold inD
 rw [List.any_map,Bool.eq_iff_iff,List.any_eq_true,decide_eq_true_eq]
 constructor
 ·rintro ⟨x,hx,e⟩
  have e':(x == w)=true:=e
  rw [← (beq_iff_eq.mp e')];exact hx
 ·intro h
  exact ⟨w,h,by show (w == w)=true;simp⟩
theorem uY {n:Nat} {S:Sto} {xs:List D} (e:S[n]?=some (.lst xs)):bP (.r n) S=some xs:=by unfold bP cu;dsimp only;rw [e]
theorem g_ {w:Int} {y:Vl} {S:Sto} {ns:List Int} (h:bP y S=some (ns.map D.int)):inX (.d (.int w)) y S=some (decide (w∈ns)):=by
 unfold inX
 dsimp only
 rw [h]
 dsimp only
 rw [show D.flat (.int w)=true from rfl,wG,if_pos (by rfl),Aw]
theorem zY {w:Int} {ns:List Int} {S:Sto}:oIn (.d (.int w)) (.d (.tup (ns.map D.int))) S=.ok (.d (.bl (decide (w∈ns)))) S:=by unfold oIn;rw [g_ (ns:=ns) rfl]
theorem xx {w:Int} {ns:List Int} {S:Sto}:ee (.d (.int w)) (.d (.tup (ns.map D.int))) S=.ok (.d (.bl (!decide (w∈ns)))) S:=by unfold ee;rw [g_ (ns:=ns) rfl]
theorem E9 {w:Int} {ns:List Int} {S:Sto}:oIn (.d (.int w)) (.d (.lst (ns.map D.int))) S=.ok (.d (.bl (decide (w∈ns)))) S:=by unfold oIn;rw [g_ (ns:=ns) rfl]
theorem D6 {w:Int} {ns:List Int} {S:Sto}:ee (.d (.int w)) (.d (.lst (ns.map D.int))) S=.ok (.d (.bl (!decide (w∈ns)))) S:=by unfold ee;rw [g_ (ns:=ns) rfl]
theorem nK {w:Int} {ns:List Int} {n:Nat} {S:Sto} (e:S[n]?=some (.lst (ns.map D.int))):ee (.d (.int w)) (.r n) S=.ok (.d (.bl (!decide (w∈ns)))) S:=by unfold ee;rw [g_ (uY e)]
theorem uj {n:Nat} {xs:List D} {z:D} {S:Sto} (h:xs.length < 100000):kT n xs z S=.ok (.d .non) (S.set n (.lst (xs++[z]))):=by unfold kT;rw [if_pos h]
theorem wA {n:Nat} {xs ys:List D} {S:Sto} (h:xs.length+ys.length≤100000):l6 n xs (.lst ys) S=.ok (.d .non) (S.set n (.lst (xs++ys))):=by unfold l6;dsimp only;rw [if_pos h]
theorem tf {x:Vl} {S:Sto} {ns:List Int} (e:bP x S=some (ns.map D.int)) (h:ns.length < 64):gr [x] S=.ok (.d (.lst ((sortI ns).map D.int))) S:=by
 unfold gr
 dsimp only
 rw [e,Option.bind_some,gc]
 dsimp only
 rw [if_pos h]
theorem sS {n:Nat} {S:Sto} {ns:List Int} (e:S[n]?=some (.lst (ns.map D.int))) (h:ns.length < 64):gr [.r n] S=.ok (.d (.lst ((sortI ns).map D.int))) S:=tf (uY e) h
theorem AG {S:Sto} {ns:List Int} (h:ns.length < 64):gr [.d (.lst (ns.map D.int))] S=.ok (.d (.lst ((sortI ns).map D.int))) S:=tf rfl h
theorem Fs {x:Vl} {S:Sto} {ns:List Int} (e:bP x S=some (ns.map D.int)) (h:ns.length≤300) (h2:(aV ns).length < 64):oSS x S=.ok (.d (.lst ((aV ns).map D.int))) S:=by
 unfold oSS
 rw [e,Option.bind_some,gc]
 dsimp only
 rw [if_pos ⟨h,h2⟩]
theorem En {x:Vl} {S:Sto} {ns:List Int} (e:bP x S=some (ns.map D.int)) (h:ns.length≤300):oLS x S=.ok (.d (.int (aV ns).length)) S:=by
 unfold oLS
 rw [e,Option.bind_some,gc]
 dsimp only
 rw [if_pos h]
theorem qH (x:Int):∀ ys,(hV x ys).length≤ys.length+1
 | []=>by simp [hV]
 | y :: ys=>by
  unfold hV
  split
  ·simp
  ·split
   ·simp
   ·have:=qH x ys
    simp
    omega
theorem oS:∀ xs,(aV xs).length≤xs.length
 | []=>by simp [aV]
 | x :: xs=>by
  have:=qH x (aV xs)
  have:=oS xs
  rw [aV,List.length_cons]
  omega
theorem cU (ns:List Int):(sortI ns).length=ns.length:=(sortI_perm ns).length_eq
theorem dz (ns:List Int) (z:Int):z∈sortI ns↔z∈ns:=(sortI_perm ns).mem_iff
theorem gZ {ns:List Int} (h:ns.Nodup):(sortI ns).Pairwise (· < ·):=((jK ns).and ((sortI_perm ns).nodup_iff.mpr h)).imp fun z=>by have:=z.1;have:=z.2;omega
theorem DG {ds:List D} {bs:List Bool} {S:Sto} (h:gD ds=some bs):ix [.d (.lst ds)] S=.ok (.d (.bl (bs.all id))) S:=by
 unfold ix
 dsimp only
 rw [show cu (.d (.lst ds)) S=some ds from rfl,Option.bind_some,h]
theorem tL {α:Type} (f:α→Bool):∀ l:List α,gD (l.map fun x=>D.bl (f x))=some (l.map f)
 | []=>rfl
 | x :: l=>by simp [gD,tL f l]
theorem mB {α:Type} (f:α→Int):∀ l:List α,intsOf (l.map fun x=>D.int (f x))=some (l.map f)
 | []=>rfl
 | x :: l=>by simp [intsOf,mB f l]
theorem qr {α:Type} {f:α→Bool} {l:List α} {S:Sto}:ix [.d (.lst (l.map fun x=>D.bl (f x)))] S=.ok (.d (.bl (l.all f))) S:=by rw [DG (tL f l),List.all_map];rfl
theorem Ea {j:Int} {S:Sto} (h:0≤j∧j≤1000):lrg zj [.d (.int j)] S=.ok (.r S.length) (S++[.lst ((List.range j.toNat).map fun i=>D.int (i:Nat))]):=by
 unfold lrg
 dsimp only
 rw [if_pos h]
 rfl
theorem Fh {n:Nat} {xs:List D} {i:Int} {y:D} {S:Sto} (h:0≤i∧i < 2 ^ 63) (e:xs[i.toNat]?=some y):qv n xs (.int i) S=.ok (.d y) (S.set n (.lst (xs.eraseIdx i.toNat))):=by
 unfold qv
 dsimp only
 rw [if_pos h,e]
theorem pW {it:XI} {t:XT} {e:XE} {τ:Nv} {S:Sto} {r:R Vl} (hC:xLC it 1 (gNm 0) t e τ S=r) {S1:Sto} {items:List Vl} (hit:it τ S=.ok ⟨items,none⟩ S1) (J:Nat→List D→Sto→Prop) (h0:J 0 [] S1)
  (hs:∀ i z acc Q,items[i]?=some z→J i acc Q→Q.length=S1.length→∃ b Q1,t (some z :: τ) (Q++[.lst acc])=.ok b (Q1++[.lst acc])∧Q1.length=S1.length ∧
   (b=true→∃ x Q2,e (some z :: τ) (Q1++[.lst acc])=.ok (.d x) (Q2++[.lst acc])∧Q2.length=S1.length∧J (i+1) (acc++[x]) Q2)∧(b=false→J (i+1) acc Q1)) :
  ∃ acc Q,r=.ok (.d (.lst acc)) Q∧Q.length=S1.length∧J items.length acc Q:=by
 obtain ⟨acc,Q,e1,h⟩:=v8 (t:=t) (e:=e) hit J h0 hs
 exact ⟨acc,Q,hC.symm.trans e1,h⟩
theorem qI {it:XI} {e:XE} {τ:Nv} {S:Sto} {r:R Vl} (hC:xLC it 1 (gNm 0) (fun _ S=>.ok true S) e τ S=r) {S1:Sto} {items:List Vl} (hit:it τ S=.ok ⟨items,none⟩ S1) (J:Nat→List D→Sto→Prop) (h0:J 0 [] S1)
  (hs:∀ i z acc Q,items[i]?=some z→J i acc Q→Q.length=S1.length→∃ x Q2,e (some z :: τ) (Q++[.lst acc])=.ok (.d x) (Q2++[.lst acc])∧Q2.length=S1.length∧J (i+1) (acc++[x]) Q2) :
  ∃ acc Q,r=.ok (.d (.lst acc)) Q∧Q.length=S1.length∧J items.length acc Q:=
 pW hC hit J h0 fun i z acc Q hz hJ hl=>⟨true,Q,rfl,hl,fun _=>hs i z acc Q hz hJ hl,fun z=>(by cases z)⟩
theorem dG {e:XE} {a:XE} {τ:Nv} {S S1:Sto} {r:R Vl} (hC:xLC (bz a) 1 (gNm 0) (fun _ S=>.ok true S) e τ S=r) {xs:List D} (ha:a τ S=.ok (.d (.tup xs)) S1) (f:D→D) (hs:∀ x∈xs,∀ S:Sto,e (some (.d x) :: τ) S=.ok (.d (f x)) S):r=.ok (.d (.lst (xs.map f))) S1:=by
 rw [← hC,rV (items:=xs.map Vl.d) (S1:=S1) (by rw [vG,ha,w4]) (fun z=>match z with | .d x=>f x | _=>.non) (by
  intro z hz S
  obtain ⟨x,hx,rfl⟩:=List.mem_map.mp hz
  exact hs x hx S)]
 rw [List.map_map]
 rfl
theorem d5 {it:XI} {g:XG} {b:XS} {τ:Nv} {S:Sto} {r:R (Fl×Nv)} (hL:cW it g b τ S=r) {S1:Sto} {items:List Vl} {gd:Option (Nat×Ob)} (hit:it τ S=.ok ⟨items,gd⟩ S1) (I:Nat→Nv→Sto→Prop) (h0:I 0 τ S1)
  (hs:∀ i z τ S,items[i]?=some z→I i τ S→∃ τ1 S1 fl τ2 S2,g z τ S=.ok τ1 S1∧b τ1 S1=.ok (fl,τ2) S2∧(fl=.nx∨fl=.ct)∧gok gd S2∧I (i+1) τ2 S2):∃ τ' S',r=.ok (.nx,τ') S'∧I items.length τ' S':=by
 obtain ⟨τ',S',e,h⟩:=rZ (g:=g) (b:=b) (gd:=gd) I h0 hs
 refine ⟨τ',S',?_,h⟩
 rw [← hL,qJ,hit,uA]
 exact e
theorem rR {g:XG} {b:XS} {gd:Option (Nat×Ob)} (Pr:Vl→Sto→Prop):∀ {items:List Vl} {τ:Nv} {S:Sto} (I:Nat→Nv→Sto→Prop),I 0 τ S →
  (∀ i z τ S,items[i]?=some z→I i τ S→∃ τ1 S1 fl τ2 S2,g z τ S=.ok τ1 S1∧b τ1 S1=.ok (fl,τ2) S2∧(((fl=.nx∨fl=.ct)∧gok gd S2∧I (i+1) τ2 S2)∨∃ v,fl=.rt v∧Pr v S2)) →
  (∃ τ' S',cw g b gd items τ S=.ok (.nx,τ') S'∧I items.length τ' S')∨∃ v τ' S',cw g b gd items τ S=.ok (.rt v,τ') S'∧Pr v S'
 | [],τ,S,I,h0,_=>.inl ⟨τ,S,rfl,h0⟩
 | z :: zs,τ,S,I,h0,hs=>by
  obtain ⟨τ1,S1,fl,τ2,S2,e1,e2,h⟩:=hs 0 z τ S rfl h0
  rcases h with ⟨hf,hg,hI⟩ | ⟨v,rfl,hv⟩
  ·have st:cw g b gd (z :: zs) τ S=cw g b gd zs τ2 S2:=by
    rw [cw,e1,aI,e2,aI]
    rcases hf with rfl | rfl
    ·dsimp only;rw [if_pos hg]
    ·dsimp only;rw [if_pos hg]
   rw [st]
   exact rR Pr (items:=zs) (fun i=>I (i+1)) hI fun i z' τ S hz hi=>hs (i+1) z' τ S (by simpa using hz) hi
  ·refine .inr ⟨v,τ2,S2,?_,hv⟩
   rw [cw,e1,aI,e2,aI]
theorem gG {it:XI} {g:XG} {b:XS} {τ:Nv} {S:Sto} {r:R (Fl×Nv)} (hL:cW it g b τ S=r) (Pr:Vl→Sto→Prop) {S1:Sto} {items:List Vl} {gd:Option (Nat×Ob)} (hit:it τ S=.ok ⟨items,gd⟩ S1) (I:Nat→Nv→Sto→Prop) (h0:I 0 τ S1)
  (hs:∀ i z τ S,items[i]?=some z→I i τ S→∃ τ1 S1 fl τ2 S2,g z τ S=.ok τ1 S1∧b τ1 S1=.ok (fl,τ2) S2∧(((fl=.nx∨fl=.ct)∧gok gd S2∧I (i+1) τ2 S2)∨∃ v,fl=.rt v∧Pr v S2)) :
  (∃ τ' S',r=.ok (.nx,τ') S'∧I items.length τ' S')∨∃ v τ' S',r=.ok (.rt v,τ') S'∧Pr v S':=by
 have q:=rR (g:=g) (b:=b) (gd:=gd) Pr I h0 hs
 have e:r=cw g b gd items τ S1:=by rw [← hL,qJ,hit,uA]
 rw [e]
 exact q
theorem lM {n:Nat} {i:Nat} {z:Vl} (h:((List.range n).map fun i=>Vl.d (.int (i:Nat)))[i]?=some z):i < n∧z=.d (.int i):=by
 have hi:i < n:=by simpa using (List.getElem?_eq_some_iff.mp h).1
 rw [List.getElem?_map,List.getElem?_range hi] at h
 exact ⟨hi,(Option.some.inj h).symm⟩
theorem jl {n:Nat}:((List.range n).map fun i=>Vl.d (.int (i:Nat))).length=n:=by simp
theorem gL {α β:Type} {f:α→β} {l:List α} {x:α}:(l++[x]).map f=l.map f++[f x]:=by rw [List.map_append];rfl
end L2
namespace L2
open PySem PySem.Spec PyProof.Rows ZS
section
variable {X:Cx} {WE:WX}
end
def u7 (xs ys:List D):List Vl:=List.zipWith (fun x y=>Vl.d (.tup [x,y])) xs ys
def DS (zs:List Vl) (S:Sto):R Its:=match zs with
 | [.d (.tup xs),.d (.tup ys)]=>.ok ⟨u7 xs ys,none⟩ S
 | [.d (.lst xs),.d (.tup ys)]=>.ok ⟨u7 xs ys,none⟩ S
 | _=>.bad
def iZp (as:XA):XI:=fun τ S=>(as τ S).bind DS
section
variable {X:Cx} {WE:WX} {K:PySem.W.Frag} {mg:Str→Option Value} {μ:Nat→Addr} {S:Sto} {H:Hp}
end
def xLf (f:List D→D→Sto→R Vl) (o e:XE):XE:=fun τ S=>(o τ S).bind fun x S1=>match x with
 | .d (.lst xs)=>(e τ S1).bind fun y S2=>(match y with
  | .d z=>f xs z S2
  | _=>.bad)
 | _=>.bad
def ow (xs:List D) (z:D) (S:Sto):R Vl:=match z,intsOf xs with
 | .int k,some ns=>.ok (.d (.int (ns.count k:Nat))) S
 | _,_=>.bad
def BO (r:V→List V→Hp→VK→Prop) (f:List D→D→Sto→R Vl):Prop:=∀ (K:PySem.W.Frag) (mg:Str→Option Value) (WE:WX) (μ:Nat→Addr) (S:Sto) (H:Hp) (a:Addr) (xs:List D) (vs:List V) (w:V) (z:D) (Q:VK),HR μ S H→H a=some (.lst vs)→aw (vh μ S H) vs xs→Rep (vh μ S H) w z→aN (aL K mg) WE μ S H (f xs z S) Q→r (.ref a) [w] H Q
theorem rA:BO sX ow:=by
 intro K mg WE μ S H a xs vs w z Q hr h rs rw' p
 unfold ow at p
 split at p
 ·rename_i k ns e1
  cases rw'
  rw [fT e1] at rs
  rw [aw.i6 rs] at h
  exact ⟨_,ns,k,rfl,rfl,h,p.here hr (Rep.int _)⟩
 ·exact p.elim
section
variable {X:Cx} {WE:WX}
theorem zq {r:V→List V→Hp→VK→Prop} {f:List D→D→Sto→R Vl} {name:Str} {id:String} {o e:Expr} {xo xe:XE} {apos cpos:Pos} (slot:Slot "list" name id) (hty:typeOf (.builtin id)=pure (.type "method_descriptor")) (hm:MtM X id r) (hf:BO r f) (ho:RE X WE o xo) (he:RE X WE e xe)
  (hbase:attributeBase o name X.env (eval o X.env)=eval o X.env:=by rfl)
  (hfew:((backTo cpos (starEach [e] X.env)).all (fun x=>!x.1) && (backToKw cpos (keywordEach [] X.env)).all (fun x=>x.1.isSome) && decide ([e].length+([]:List Keyword).length+(if ([]:List Keyword).isEmpty then 0 else 1) < 30))=true:=by rfl)
  (hline:(apos.endLine == cpos.line)=true:=by rfl) (hs:starEach [e] X.env=(false,eval e X.env) :: starEach [] X.env:=by rfl):RE X WE (.Call (.Attribute o name apos) [e] [] cpos) (xLf f xo xe):=
 ⟨(zU slot hty hm ho.h he.h hbase hfew hline hs).weak fun σ H Q ⟨μ,S,τ,hr,sr,p⟩=>⟨μ,S,τ,hr,sr,p.bind fun v x S1 μ1 H1 st1 r1 p1=>by
  try dsimp only at p1
  split at p1
  ·rename_i xs
   cases (show Rep (vh μ1 S1 H1) v (.lst _) from r1) with
   | @lst a vs _ g rs=>
    refine ⟨a,vs,rfl,(aR g).2,μ1,S1,τ,st1.hr,sr.step st1,p1.bind fun w y S2 μ2 H2 st2 r2 p2=>?_⟩
    try dsimp only at p2
    split at p2
    ·exact hf X.K X.mg WE μ2 S2 H2 a xs vs w _ Q st2.hr (aR (st2.vis _ _ g)).2 (rs.mono st2.vis) r2 p2
    ·exact p2.elim
  ·exact p1.elim⟩⟩
end
section
variable {X:Cx}
end
section
variable {K:PySem.W.Frag} {mg:Str→Option Value}
end
section
variable {X:Cx} {WE:WX} {i k lev j:Nat} {x:Str} {p pos:Pos} {e:Expr} {es:List Expr} {t:TA} {E:XK}
end
def uu (xs:List Vl) (S:Sto):R Vl:=match xs with
 | [.d (.int i)]=>.ok (.d (.int i)) S
 | [.d (.bl k)]=>.ok (.d (.int (if k then 1 else 0))) S
 | _=>.bad
def DZ:List V→Hp→VK→Prop:=fun xs H Q=>(∃ i,xs=[.int i]∧Q (.int i) H)∨∃ k,xs=[.bl k]∧Q (.int (if k then 1 else 0)) H
theorem vc {X:Cx}:bw X (.type "int") DZ:=vo
section
variable {K:PySem.W.Frag} {mg:Str→Option Value}
theorem xV:eC K mg DZ uu:=by
 intro WE μ S H vs xs Q hr rs p
 unfold uu at p
 split at p
 ·obtain ⟨v,rfl,r1⟩:=rs.one
  exact .inl ⟨_,by rw [a4 r1],p.here hr (Rep.int _)⟩
 ·obtain ⟨v,rfl,r1⟩:=rs.one
  cases r1
  exact .inr ⟨_,rfl,p.here hr (Rep.int _)⟩
 ·exact p.elim
end
theorem BL {k:Bool} {S:Sto}:uu [.d (.bl k)] S=.ok (.d (.int (if k then 1 else 0))) S:=af rfl
def eX:D→Option Key
 | .int i=>some (.inl i)
 | .str x=>some (.inr x)
 | _=>none
def kD:Key→D
 | .inl i=>.int i
 | .inr x=>.str x
def eZ (x:Vl) (S:Sto):Option (List (Key×D)):=match x with
 | .fd kvs=>some kvs
 | .r n=>(match S[n]? with
  | some (.dct kvs)=>some kvs
  | _=>none)
 | _=>none
def dq (kvs:List (Key×D)) (k:Key):Option D:=(kvs.find? fun kv=>decide (kv.1=k)).map (·.2)
def putD (kvs:List (Key×D)) (k:Key) (v:D):List (Key×D):=
 if (kvs.any fun kv=>decide (kv.1=k))=true then kvs.map (fun kv=>if kv.1=k then (kv.1,v) else kv) else kvs++[(k,v)]
section
variable {G:Hp}
theorem gP {p:Key×D} {r:List (Key×D)} {k:Key} (e:p.1=k):dq (p :: r) k=some p.2:=by simp [dq,List.find?_cons,e]
theorem fi {p:Key×D} {r:List (Key×D)} {k:Key} (e:¬p.1=k):dq (p :: r) k=dq r k:=by simp [dq,List.find?_cons,e]
theorem nr (k:Key):∀ {kvs:List (Key×D)} {vs:List V},aw G vs (kvs.map (·.2))→(dq kvs k=none∧fW ((kvs.map (·.1)).zip vs) k=none)∨∃ d v,dq kvs k=some d∧fW ((kvs.map (·.1)).zip vs) k=some v∧Rep G v d
 | [],_,.nil=>.inl ⟨rfl,rfl⟩
 | p :: r,_,.cons (v:=v) (vs:=vs) h t=>by
  by_cases e:p.1=k
  ·exact .inr ⟨p.2,v,gP e,jn (p:=(p.1,v)) e,h⟩
  ·rcases nr k (kvs:=r) t with ⟨h1,h2⟩ | ⟨d,u,h1,h2,h3⟩
   ·exact .inl ⟨by rw [fi e];exact h1,(iy (p:=(p.1,v)) e).trans h2⟩
   ·exact .inr ⟨d,u,by rw [fi e];exact h1,(iy (p:=(p.1,v)) e).trans h2,h3⟩
theorem wo (k:Key):∀ {kvs:List (Key×D)} {vs:List V},aw G vs (kvs.map (·.2))→(((kvs.map (·.1)).zip vs).any fun kv=>decide (kv.1=k))=kvs.any fun kv=>decide (kv.1=k)
 | [],_,.nil=>rfl
 | p :: r,_,.cons h t=>by
  rw [List.map_cons,List.zip_cons_cons,List.any_cons,List.any_cons,wo k (kvs:=r) t]
theorem wB (k:Key) {v:V} {d:D} (rv:Rep G v d):∀ {kvs:List (Key×D)} {vs:List V},aw G vs (kvs.map (·.2))→∃ ws,ws.length=kvs.length ∧
  ((kvs.map (·.1)).zip vs).map (fun kv=>if kv.1=k then (kv.1,v) else kv)=((kvs.map fun kv=>if kv.1=k then (kv.1,d) else kv).map (·.1)).zip ws∧aw G ws ((kvs.map fun kv=>if kv.1=k then (kv.1,d) else kv).map (·.2))
 | [],_,.nil=>⟨[],rfl,rfl,.nil⟩
 | p :: r,_,.cons (v:=u) (vs:=us) h t=>by
  obtain ⟨ws,l,e,rs⟩:=wB k rv (kvs:=r) t
  by_cases q:p.1=k
  ·refine ⟨v :: ws,by simp [l],?_,?_⟩
   ·rw [List.map_cons,List.zip_cons_cons,List.map_cons,e,List.map_cons,List.map_cons,List.zip_cons_cons,if_pos q,if_pos q]
   ·rw [List.map_cons,List.map_cons,if_pos q];exact .cons rv rs
  ·refine ⟨u :: ws,by simp [l],?_,?_⟩
   ·rw [List.map_cons,List.zip_cons_cons,List.map_cons,e,List.map_cons,List.map_cons,List.zip_cons_cons,if_neg q,if_neg q]
   ·rw [List.map_cons,List.map_cons,if_neg q];exact .cons h rs
theorem wz (k:Key) {v:V} {d:D} (rv:Rep G v d) {kvs:List (Key×D)} {vs:List V} (rs:aw G vs (kvs.map (·.2))):∃ ws,ws.length=(putD kvs k d).length ∧
  putK ((kvs.map (·.1)).zip vs) k v=((putD kvs k d).map (·.1)).zip ws∧aw G ws ((putD kvs k d).map (·.2)):=by
 unfold putK putD
 rw [wo k rs]
 by_cases a:(kvs.any fun kv=>decide (kv.1=k))=true
 ·rw [if_pos a,if_pos a]
  obtain ⟨ws,l,e,r⟩:=wB k rv rs
  exact ⟨ws,by simp [l],e,r⟩
 ·rw [if_neg a,if_neg a]
  have lv:vs.length=kvs.length:=by have:=rs.length;simpa using this
  refine ⟨vs++[v],by simp [lv],?_,?_⟩
  ·rw [List.map_append,List.zip_append (by simp [lv])]
   rfl
  ·rw [List.map_append];exact rs.append (.cons rv .nil)
theorem jh {G:Hp} {v:V} {x:D} {k:Key} (r:Rep G v x) (e:eX x=some k):v=kV k:=by
 unfold eX at e
 split at e
 ·cases e;cases r;rfl
 ·cases e;cases r;rfl
 ·cases e
theorem wV {G:Hp} (k:Key):Rep G (kV k) (kD k):=by
 cases k with
 | inl i=>exact Rep.int i
 | inr x=>exact Rep.str x
end
section
variable {K:PySem.W.Frag} {mg:Str→Option Value} {μ:Nat→Addr} {S:Sto} {H:Hp} {v:V} {x:Vl} {kvs:List (Key×D)} {WE:WX} {Q:VK}
theorem nD (hr:HR μ S H) (r:aL K mg μ S H v x) (e:eZ x S=some kvs):∃ a vs,v=.ref a∧Rd H a (.dK ((kvs.map (·.1)).zip vs))∧aw (vh μ S H) vs (kvs.map (·.2)):=by
 unfold eZ at e
 split at e
 ·cases e
  obtain ⟨a,vs,o,rfl,l,h,rs⟩:=r
  exact ⟨a,vs,rfl,.inr ⟨o,(aR h).2⟩,rs⟩
 ·split at e
  ·rename_i q
   cases e
   obtain ⟨rfl,hn⟩:=r
   obtain ⟨vs,l,h,rs⟩:=hr.ob _ _ q
   exact ⟨_,vs,rfl,.inl h,rs⟩
  ·cases e
 ·cases e
end
def oDx (x y:Vl) (S:Sto):R Vl:=match y with
 | .d yd=>(match eX yd,eZ x S with
  | some k,some kvs=>(match dq kvs k with
   | some z=>.ok (.d z) S
   | none=>.bad)
  | _,_=>.bad)
 | _=>.bad
def lT (x y:Vl) (S:Sto):Option Bool:=match x with
 | .d xd=>(match eX xd,eZ y S with
  | some k,some kvs=>some (dq kvs k).isSome
  | _,_=>none)
 | _=>none
def mJ (x y:Vl) (S:Sto):R Vl:=match lT x y S with
 | some b=>.ok (.d (.bl b)) S
 | none=>.bad
def jV (x y:Vl) (S:Sto):R Vl:=match lT x y S with
 | some b=>.ok (.d (.bl (!b))) S
 | none=>.bad
def gh:XE:=fun _ S=>.ok (.r S.length) (S++[.dct []])
def fw (o i e:XE):XS:=fun τ S=>(e τ S).bind fun z S1=>(o τ S1).bind fun x S2=>(i τ S2).bind fun y S3=>match x,y,z with
 | .r n,.d yd,.d zd=>(match eX yd,S3[n]? with
  | some k,some (.dct kvs)=>if kvs.length < 100000 then .ok (.nx,τ) (S3.set n (.dct (putD kvs k zd))) else .bad
  | _,_=>.bad)
 | _,_,_=>.bad
def lO (d k e:XE):XE:=fun τ S=>(d τ S).bind fun x S1=>if (eZ x S1).isSome=true then (k τ S1).bind fun y S2=>(e τ S2).bind fun z S3=>(match y,z with
 | .d yd,.d zd=>(match eX yd,eZ x S3 with
  | some k,some kvs=>.ok (.d ((dq kvs k).getD zd)) S3
  | _,_=>.bad)
 | _,_=>.bad) else .bad
def mC (e:XE):XI:=fun τ S=>(e τ S).bind fun z S1=>match z with
 | .fd kvs=>.ok ⟨kvs.map fun kv=>Vl.d (kD kv.1),none⟩ S1
 | _=>.bad
section
variable {X:Cx} {WE:WX} {a b c e:Expr} {xa xb xc xe:XE} {pos:Pos}
theorem jH (hu:X.A.units+64 < cLine) (ha:RE X WE a xa) (hb:RE X WE b xb) (hs:yA b:=by exact fun _ _=>rfl):RE X WE (.Subscript a b pos) (xOp oDx xa xb):=
 ⟨(z8 (by omega) ha.h hb.h hs).weak fun σ H Q h=>by
  refine (two (X:=X) (r:=fun x y H2 Q=>∃ a v,x=.ref a∧jy H2 a y (some v)∧Q v H2) ?_ h:_)
  intro WE μ S H v w x y Q hr rx ry p
  unfold oDx at p
  split at p
  ·split at p
   ·rename_i k kvs hk hd
    obtain ⟨a,vs,rfl,rd,rs⟩:=nD hr rx hd
    split at p
    ·rename_i z hz
     rcases nr k rs with ⟨h1,_⟩ | ⟨d,u,h1,h2,h3⟩
     ·rw [h1] at hz;cases hz
     ·rw [h1] at hz;cases hz
      rw [jh ry hk]
      exact ⟨a,u,rfl,.inl ⟨_,k,rd,rfl,h2.symm⟩,p.here hr h3⟩
    ·exact p.elim
   ·exact p.elim
  ·exact p.elim⟩
def qC (neg:Bool):R2:=fun y x H Q=>∃ a o,x=.ref a∧jy H a y o∧Q (.bl (if neg then !o.isSome else o.isSome)) H
theorem qO (hu:X.A.units+64 < cLine):OpR X (compareOp .In) (qC false):=by
 intro pins s σ H x y u v Q I rx ry ⟨a,o,e,g,q⟩
 subst e
 obtain rfl:v=Value.ref a:=ry
 exact GA (by omega) I g rx fun s' I'=>⟨_,H,I',(show RelV (.bl _) _ from rfl),q⟩
theorem ox (hu:X.A.units+64 < cLine):OpR X (compareOp .NotIn) (qC true):=by
 intro pins s σ H x y u v Q I rx ry ⟨a,o,e,g,q⟩
 subst e
 obtain rfl:v=Value.ref a:=ry
 exact Be (by omega) I g rx fun s' I'=>⟨_,H,I',(show RelV (.bl _) _ from rfl),q⟩
theorem wu {K:PySem.W.Frag} {mg:Str→Option Value} {μ:Nat→Addr} {S:Sto} {H:Hp} {v w:V} {x y:Vl} {k neg:Bool} {Q:VK} (hr:HR μ S H) (rx:aL K mg μ S H v x) (ry:aL K mg μ S H w y) (e:lT x y S=some k) (q:Q (.bl (if neg then !k else k)) H):qC neg v w H Q:=by
 unfold lT at e
 split at e
 ·split at e
  ·rename_i key kvs hk hd
   cases e
   obtain ⟨a,vs,rfl,rd,rs⟩:=nD hr ry hd
   rw [jh rx hk]
   refine ⟨a,_,rfl,.inl ⟨_,key,rd,rfl,rfl⟩,?_⟩
   rcases nr key rs with ⟨h1,h2⟩ | ⟨d,u,h1,h2,_⟩
   ·rw [h2];rw [h1] at q;exact q
   ·rw [h2];rw [h1] at q;exact q
  ·cases e
 ·cases e
theorem nX {K:PySem.W.Frag} {mg:Str→Option Value}:cO K mg (qC false) mJ:=by
 intro WE μ S H v w x y Q hr rx ry p
 unfold mJ at p
 split at p
 ·exact wu hr rx ry ‹_› (p.here hr (Rep.bl _))
 ·exact p.elim
theorem mD {K:PySem.W.Frag} {mg:Str→Option Value}:cO K mg (qC true) jV:=by
 intro WE μ S H v w x y Q hr rx ry p
 unfold jV at p
 split at p
 ·exact wu hr rx ry ‹_› (p.here hr (Rep.bl _))
 ·exact p.elim
theorem oh:RE X WE (.Dict [] [] pos) gh:=
 ⟨ze.weak fun σ H Q ⟨μ,S,τ,hr,sr,p⟩ q hq=>p _ _ _ (Step.alloc hr hq (ob:=.dct []) ⟨[],rfl,rfl,.nil⟩) ⟨by rw [cQ],by simp⟩⟩
theorem lP {pos':Pos} (hu:X.A.units+64 < cLine) (ho:RE X WE a xa) (hi:RE X WE b xb) (hv:RE X WE c xc) (hs:swapsWith c (some (.Subscript a b pos')) pos.line X.env=pure false:=by rfl) :
  RS X WE (.Assign [.Subscript a b pos'] c pos) (fw xa xb xc):=
 ⟨(AO (by omega) ho.h hi.h hv.h hs).weak fun D σ H ⟨μ,S,τ,hr,sr,p⟩=>⟨μ,S,τ,hr,sr,p.bind fun w z S1 μ1 H1 st1 r1 p1=>⟨μ1,S1,τ,st1.hr,sr.step st1,p1.bind fun v x S2 μ2 H2 st2 r2 p2=>⟨μ2,S2,τ,st2.hr,sr.step (st1.trans st2),p2.bind fun u y S3 μ3 H3 st3 r3 p3=>by
  have rw':=r1.step (st2.trans st3)
  have rv:=r2.step st3
  try dsimp only at p3
  split at p3
  ·split at p3
   ·rename_i k kvs hk e
    split at p3
    ·rename_i hl
     obtain ⟨rfl,hn⟩:=rv
     obtain ⟨vs,l,h,rs⟩:=st3.hr.ob _ _ e
     rw [jh r3 hk]
     obtain ⟨ws,lw,e2,rs2⟩:=wz k rw' rs
     refine ⟨_,_,rfl,qj.k h ?_,?_⟩
     ·rw [List.length_zip,List.length_map,l,Nat.min_self]
      exact Nat.lt_of_lt_of_le hl (by rw [sizeLine_eq];decide)
     ·have st4:=Step.put st3.hr e (by simp) (ob:=.dct (putD kvs k _)) ⟨ws,lw,rfl,rs2⟩
      rw [← e2] at st4
      exact (show Ends.at D (FlV.nx,σ) _ from p3 (FlV.nx,σ) _ _ st4 ⟨sr.step (st1.trans (st2.trans (st3.trans st4))),True.intro⟩)
    ·exact p3.elim
   ·exact p3.elim
  ·exact p3.elim⟩⟩⟩⟩
theorem tj {apos cpos:Pos} (hu:X.A.units+64 < cLine) (hd:RE X WE a xa) (hk:RE X WE b xb) (he:RE X WE c xc)
  (m:M2 X a "get" apos b c cpos:=by exact ⟨rfl,rfl,rfl,rfl⟩):RE X WE (.Call (.Attribute a "get" apos) [b,c] [] cpos) (lO xa xb xc):=
 ⟨(ym (by omega) hd.h hk.h he.h m).weak fun σ H Q ⟨μ,S,τ,hr,sr,p⟩=>⟨μ,S,τ,hr,sr,p.bind fun v x S1 μ1 H1 st1 r1 p1=>by
  try dsimp only at p1
  split at p1
  ·rename_i hs
   obtain ⟨kvs,hd⟩:=Option.isSome_iff_exists.mp hs
   obtain ⟨a,vs,rfl,rd,rs⟩:=nD st1.hr r1 hd
   refine ⟨a,rfl,.inl ⟨_,rd⟩,μ1,S1,τ,st1.hr,sr.step st1,p1.bind fun u y S2 μ2 H2 st2 r2 p2=>⟨μ2,S2,τ,st2.hr,sr.step (st1.trans st2),p2.bind fun w z S3 μ3 H3 st3 r3 p3=>?_⟩⟩
   try dsimp only at p3
   split at p3
   ·split at p3
    ·rename_i k kvs' hk hd'
     obtain ⟨a',vs',ea,rd',rs'⟩:=nD st3.hr (r1.step (st2.trans st3)) hd'
     cases ea
     rw [jh (r2.step st3) hk]
     refine ⟨_,.inl ⟨_,k,rd',rfl,rfl⟩,?_⟩
     rcases nr k rs' with ⟨h1,h2⟩ | ⟨d,u,h1,h2,h3⟩
     ·rw [h2];rw [h1] at p3;exact p3.here st3.hr r3
     ·rw [h2];rw [h1] at p3;exact p3.here st3.hr h3
    ·exact p3.elim
   ·exact p3.elim
  ·exact p1.elim⟩⟩
end
def Itd (d:Addr) (o:Obj):It:=
 ⟨fun i H=>∃ kvs,H d=some (.frz o (.dK kvs))∧i < kvs.length,fun i H x H'=>H'=H∧∀ kvs,H d=some (.frz o (.dK kvs))→∃ k v,kvs[i]?=some (k,v)∧x=kV k,fun i H=>∃ kvs,H d=some (.frz o (.dK kvs))∧kvs.length=i⟩
theorem rM {P:Program} {w:World} {k:Key} {u:Value} (h:(aW P w).is k u=true):RelV (kV k) u:=by
 rcases bV h with ⟨i,t,rfl,rfl⟩ | ⟨x,t,rfl,rfl⟩
 ·exact ⟨t,rfl⟩
 ·exact ⟨t,rfl⟩
theorem KV.get {kvs:List (Key×V)} {vs:List (Key×Value)} (r:KV kvs vs) {i:Nat} {k:Key} {x:Value} (e:vs[i]?=some (k,x)):∃ v,kvs[i]?=some (k,v):=by
 unfold KV at r
 induction r generalizing i with
 | nil=>simp at e
 | @cons p q ps qs h t ih=>
  cases i with
  | zero=>simp at e;subst e;exact ⟨p.2,by rw [show p=(k,p.2) from Prod.ext h.1 rfl];rfl⟩
  | succ i=>simpa using ih (by simpa using e)
theorem kZ {P:Program} {w:World} {H:Hp} {h:Heap} {d:Addr} {o:Obj} {es:Array DictEntry} {ep:Nat} {kvs:List (Key×V)} (ok:HOk P w H h) (hd:o.data=.dict es ep) (e:H d=some (.frz o (.dK kvs))) :
  (d == sysModules)=false∧kvs.length≤sizeLine∧kvs.length=es.size∧∃ vs,KV kvs vs∧h.DictAt (aW P w) d vs ep:=by
 obtain ⟨e1,z1,z2,vs,rel,o',es',ep',e2,c,hd',ks,ps,nd⟩:=ok d _ e
 rw [e1] at e2
 cases e2
 rw [hd] at hd'
 cases hd'
 exact ⟨z2,z1,by rw [rel.length,← ps.length];simp,vs,rel,o,es,e1,c,hd,ks,ps,nd⟩
theorem xj {P:Program} {w:World} {K:PySem.W.Frag} {tg:Expr} (d it:Addr) {o:Obj} {es:Array DictEntry} {ep:Nat} (hd:o.data=.dict es ep):Turn P w K tg (Itd d o) [it] it (fun i h=>h.IsKeyIter it d i es.size ep) where
 mem:=by simp
 obj:=fun i h st b hb=>by
  have e:b=it:=by simpa using hb
  subst e
  obtain ⟨o,e,c,d⟩:=st
  exact ⟨o,e,fun v z=>by rw [d] at z;cases z⟩
 keep:=fun i h h' st k=>st.at fun o e=>k it (by simp) o e
 item:=by
  intro X hP hw hK hc i pins s σ H E I hf st hg
  subst hP hw hK
  obtain ⟨kvs,hk,hi⟩:=hg
  obtain ⟨z2,z1,lk,vs,rel,da⟩:=kZ I.hok hd hk
  have lv:=rel.length
  obtain ⟨f0,f1,f2,f3,f4,f5⟩:=hf it (by simp)
  have hx:vs[i]?=some ((vs[i]'(by omega)).1,(vs[i]'(by omega)).2):=by rw [List.getElem?_eq_getElem (by omega)]
  refine wpAny_pyNext_dict_item (by rw [← lv,lk];exact st) da hx fun key h' hkey st' sb=>?_
  rw [← lv,lk] at st'
  have I1:Inv X pins σ H { s with heap:=h' }:=I.turned (t':=s.toks) (fun b o hb e=>(sb.2 b hb).trans e) f0 f1 f3 f4 f5
  obtain ⟨o2,e,c,d2⟩:=id st'
  obtain ⟨v,hv⟩:=rel.get hx
  refine ⟨key,rfl,pT (s:={ s with heap:=h' }) e c d2 (by decide) ⟨kV _,H,I1,rM hkey,⟨rfl,fun kvs' hy=>?_⟩,st',fun b hb=>(hf b hb).1⟩⟩
  rw [hk] at hy
  cases hy
  exact ⟨_,v,hv,rfl⟩
 done:=by
  intro X hP hw hK hc i pins s σ H E I hf st hg
  subst hP hw hK
  obtain ⟨kvs,hk,hi⟩:=hg
  obtain ⟨z2,z1,lk,vs,rel,da⟩:=kZ I.hok hd hk
  have lv:=rel.length
  obtain ⟨f0,f1,f2,f3,f4,f5⟩:=hf it (by simp)
  exact wpAny_pyNext_dict_end (I.ok.hd hc) (by rw [← lv,lk];exact st) da (by simp;omega) fun h' eb=>⟨rfl,I.turned (t':=s.toks) (fun b o hb e=>eb b o hb e) f0 f1 f3 f4 f5⟩
 self:=fun _ _ _ _ _ st h=>wpAny_pyIter_keyiter st h
section
variable {X:Cx} {WE:WX} {tg l:Expr} {xl:XE}
theorem qZ (hl:RE X WE l xl):RI X WE tg l (mC xl):=⟨by
 intro pins s σ H Rr I h
 obtain ⟨μ,S,τ,hr,sr,p⟩:=h
 refine thn (hl.h pins s σ H _ I ⟨μ,S,τ,hr,sr,p.bind (Q:=fun v H1=>∃ μ1 S1 z,HR μ1 S1 H1∧aL X.K X.mg μ1 S1 H1 v z∧aN (gT X.K X.mg) WE μ1 S1 H1 (match z with
   | .fd kvs=>.ok ⟨kvs.map fun kv=>Vl.d (kD kv.1),none⟩ S1
   | _=>.bad) Rr) fun v x S1 μ1 H1 st1 r1 p1=>⟨μ1,S1,x,st1.hr,r1,p1⟩⟩) fun v s1 ⟨u,H1,I1,ru,μ1,S1,z,hr1,r1,p1⟩=>?_
 split at p1
 ·rename_i kvs
  obtain ⟨a,vs,o,rfl,l,h,rs⟩:=r1
  have hH:=(aR h).2
  cases ru
  obtain ⟨_,_,_,ws,rel,o',es,ep,e2,c,hd,rest⟩:=I1.hok a _ hH
  have e1:s1.heap.get? a=some o:=(I1.hok a _ hH).1
  rw [e1] at e2
  cases e2
  obtain ⟨z2,z1,lk,ws,rel,da⟩:=kZ I1.hok hd hH
  have lv:=rel.length
  refine wpAny_pyIter_dict z2 da ?_
  refine ⟨s1.heap.objs.size,[s1.heap.objs.size],_,_,H1,rfl,I1.kept (t':=s1.toks) fun b o e=>Heap.get?_push_of_some _ e,xj a _ hd,⟨_,Heap.get?_push_size _ rfl,rfl,by rw [← lv,lk];rfl⟩,fun b hb=>?_,?_⟩
  ·rw [List.mem_singleton.mp hb]
   exact I1.lq (Nat.le_refl _) (I1.hok.fresh (Nat.le_refl _))
  ·refine p1.here hr1 ⟨True.intro,?_,?_,?_,?_⟩
   ·have:((kvs.map (·.1)).zip vs).length=kvs.length:=by rw [List.length_zip,List.length_map,l,Nat.min_self]
    simp only [List.length_map]
    omega
   ·intro i z μ' S' H' st _ e
    have hi:=(List.getElem?_eq_some_iff.mp e).1
    exact ⟨_,(aR (st.vis _ _ h)).2,by rw [List.length_zip,List.length_map,l,Nat.min_self];simpa using hi⟩
   ·intro i z μ' S' H' x H2 st _ e y
    obtain ⟨rfl,y⟩:=y
    obtain ⟨k,v,e3,rfl⟩:=y _ (aR (st.vis _ _ h)).2
    have hi:=(List.getElem?_eq_some_iff.mp e).1
    simp only [List.length_map] at hi
    rw [List.getElem?_map,List.getElem?_eq_getElem hi] at e
    cases e
    have e4:kvs[i].1=k:=by
     rw [List.getElem?_eq_getElem (by rw [List.length_zip,List.length_map,l,Nat.min_self];exact hi),List.getElem_zip] at e3
     simp only [Option.some.injEq,Prod.mk.injEq,List.getElem_map] at e3
     exact e3.1
    rw [← e4]
    exact ⟨Step.refl st.hr,wV _⟩
   ·intro i μ' S' H' st _ hi
    exact ⟨_,(aR (st.vis _ _ h)).2,by rw [List.length_zip,List.length_map,l,Nat.min_self];simpa using hi⟩
 ·exact p1.elim⟩
end
section
variable {X:Cx}
def vY:List V→Hp→VK→Prop:=fun vs H Q=>∃ (p:Addr) (o:Obj) (kvs:List (Key×V)) (ns:List Int),vs=[.ref p]∧H p=some (.frz o (.dK kvs))∧kvs.map (·.1)=ns.map Sum.inl∧ns.length < 64∧∀ (l:Addr) (ms:List Int),H l=none→List.Perm ms ns→ms.Pairwise (·≤·)→Q (.ref l) (upd H l (.lst (ms.map V.int)))
theorem nP:∀ {vs:List Value} {ns:List Int},vs.length=ns.length→(∀ (i:Nat) (v:Value) (n:Int),vs[i]?=some v→ns[i]?=some n→∃ t,v=Value.int n t)→IntsAre vs ns
 | [],[],_,_=>.nil
 | v :: vs,n :: ns,l,h=>by
  obtain ⟨t,rfl⟩:=h 0 v n rfl rfl
  exact .cons n t (nP (by simpa using l) fun i v' n' a b=>h (i+1) v' n' (by simpa using a) (by simpa using b))
theorem uo (hc:X.calm=true):bw X (.builtin "sorted") vY:=by
 intro pins s σ H xs us Q I r h
 obtain ⟨p,o,kvs,ns,rfl,hH,hk,hl,q⟩:=h
 obtain ⟨u,rfl,rx⟩:=vals1 r
 cases rx
 have hh:=I.ok.hd hc
 obtain ⟨e1,_,_,_,_,o',es,ep,e2,_,hd,_⟩:=I.hok p _ hH
 rw [e1] at e2
 cases e2
 obtain ⟨z2,z1,lk,vs,rel,da⟩:=kZ I.hok hd hH
 have lv:=rel.length
 have ln:kvs.length=ns.length:=by have:=congrArg List.length hk;simpa using this
 refine Calls.call_function_entry kind_sorted plain_sorted entry_sorted (args_sorted1 _) ?_
 unfold Builtin.sorted
 refine wpAny_bind ?_
 unfold checkCount
 refine wpAny_ite_false rfl (wpAny_ite_false rfl (wpAny_ite_false rfl (wpAny_pure ?_)))
 refine wpAny_bind (PySem.W.kdu_collect (PySem.W.kdl_dict (knd:=aW X.prog X.w) (kvs:=vs) (ep:=ep) z2) hh da (by omega) fun h1 tk acc hkp hacc=>?_)
 have i1:IntsAre acc.toList ns:=by
  refine nP (by rw [Array.length_toList,hacc.1];omega) fun i v n hv hn=>?_
  obtain ⟨k,x,hx,hi⟩:=hacc.2 i v (by simpa using hv)
  obtain ⟨w,hw⟩:=rel.get hx
  have e3:(kvs.map (·.1))[i]?=some k:=by rw [List.getElem?_map,hw];rfl
  rw [hk,List.getElem?_map,hn] at e3
  have e4:k=Sum.inl n:=(Option.some.inj e3).symm
  subst e4
  exact rM (P:=X.prog) (w:=X.w) hi
 have l0:acc.toList.length=ns.length:=by rw [Array.length_toList,hacc.1];omega
 refine wpAny_bind (wpAny_newList ?_ (by rw [l0];exact Nat.le_of_lt (dA (by omega))))
 refine wpAny_bind (wpAny_holding ?_)
 have hat:(h1.push (seqObj "list" acc.toList.toArray 0)).get? h1.objs.size=some (seqObj "list" acc.toList.toArray 0):=Heap.get?_push_size _ rfl
 refine wpAny_call_entry slot_list_sort ⟨_,hat,rfl⟩ entry_list_sort ?_ (args_list_sort _)
 refine list_sort_tree hat i1 (by omega) fun out ms r1 r2 r3=>⟨_,rfl,wpAny_pure ⟨_,rfl,?_⟩⟩
 obtain ⟨c,hc2⟩:=sortedHeap_at (out:=out) hat
 have I1:Inv X pins σ H { s with heap:=h1,toks:=tk }:=I.kept (t':=tk) hkp
 refine ⟨.ref h1.objs.size,_,I1.laid (t':=tk) (a:=h1.objs.size) (o:=.lst (ms.map V.int)) (fun b ob qb=>?_) (Nat.le_refl _) ?_,rfl,q _ ms (I1.hok.fresh (Nat.le_refl _)) r2 r3⟩
 ·have hb:b < h1.objs.size:=Heap.lt_size qb
  rw [sortedHeap_old (Nat.ne_of_lt hb) (by rw [Heap.size_push];exact Nat.lt_succ_of_lt hb)]
  exact Heap.get?_push_of_some _ qb
 ·have hlm:ms.length=ns.length:=r2.length_eq
  exact ⟨by rw [List.length_map];have:(64:Nat)≤sizeLine:=(by decide);omega,out.toList,c,eD r1,by simpa using hc2⟩
end
def fg:List (Key×D)→Option (List Int)
 | []=>some []
 | (.inl i,_) :: r=>(fg r).map (i :: ·)
 | _=>none
theorem nh:∀ {kvs:List (Key×D)} {ns:List Int},fg kvs=some ns→kvs.map (·.1)=ns.map Sum.inl
 | [],_,e=>by cases e;rfl
 | (.inl i,_) :: r,ns,e=>by
  simp only [fg,Option.map_eq_some_iff] at e
  obtain ⟨ms,e1,rfl⟩:=e
  rw [List.map_cons,List.map_cons,nh e1]
 | (.inr _,_) :: r,_,e=>by simp [fg] at e
def jg (xs:List Vl) (S:Sto):R Vl:=match xs with
 | [.fd kvs]=>(match fg kvs with
  | some ns=>if ns.length < 64 then .ok (.d (.lst ((sortI ns).map D.int))) S else .bad
  | none=>.bad)
 | _=>.bad
theorem uq {K:PySem.W.Frag} {mg:Str→Option Value}:eC K mg vY jg:=by
 intro WE μ S H vs xs Q hr rs p
 unfold jg at p
 split at p
 ·obtain ⟨v,rfl,r⟩:=rs.one
  split at p
  ·rename_i ns e
   split at p
   ·rename_i hb
    obtain ⟨a,us,o,rfl,l,h,rr⟩:=r
    refine ⟨a,o,_,ns,rfl,(aR h).2,?_,hb,fun l ms hl h1 h2=>?_⟩
    ·rw [List.map_fst_zip (by simp [l])]
     exact nh e
    ·rw [my h1 h2]
     exact p.iX hr (aw.ints _) l hl
   ·exact p.elim
  ·exact p.elim
 ·exact p.elim
def d7 (kvs more:List (Key×D)):List (Key×D):=more.foldl (fun acc kv=>putD acc kv.1 kv.2) kvs
def trP (K:PySem.W.Frag) (mg:Str→Option Value) (WE:WX) (ms:List (XE×XE)):List (TE×TE):=ms.map fun m=>(trE K mg WE m.1,trE K mg WE m.2)
structure RP (X:Cx) (WE:WX) (pos:Pos) (ks:List (Option Expr)) (vs:List Expr) (ms:List (XE×XE)):Prop where
 h:PPs X pos ks vs (trP X.K X.mg WE ms)
section
variable {X:Cx} {WE:WX} {pos:Pos}
inductive tY (K:PySem.W.Frag) (mg:Str→Option Value) (μ:Nat→Addr) (S:Sto) (H:Hp):List (V×V)→List (Vl×Vl)→Prop
 | nil:tY K mg μ S H [] []
 | cons {v w:V} {x y:Vl} {vs:List (V×V)} {xs:List (Vl×Vl)}:aL K mg μ S H v x→aL K mg μ S H w y→tY K mg μ S H vs xs→tY K mg μ S H ((v,w) :: vs) ((x,y) :: xs)
theorem qA {G:Hp}:∀ {l kvs:List (Key×D)} {vs ws:List V},aw G vs (l.map (·.2))→aw G ws (kvs.map (·.2))→∃ us,us.length=(d7 kvs l).length∧cR ((kvs.map (·.1)).zip ws) ((l.map (·.1)).zip vs)=((d7 kvs l).map (·.1)).zip us∧aw G us ((d7 kvs l).map (·.2))
 | [],kvs,_,ws,.nil,r=>⟨ws,by have:=r.length;simpa [d7] using this,rfl,r⟩
 | p :: l,kvs,_,ws,.cons (v:=v) (vs:=vs) h t,r=>by
  obtain ⟨us,lu,eu,ru⟩:=wz p.1 h r
  obtain ⟨us2,l2,e2,r2⟩:=qA (l:=l) (kvs:=putD kvs p.1 p.2) t ru
  refine ⟨us2,l2,?_,r2⟩
  rw [← eu] at e2
  exact e2
end
section
variable {X:Cx} {WE:WX} {e:Expr} {es:List Expr} {pos:Pos} {K:PySem.W.Frag} {mg:Str→Option Value}
end
set_option maxRecDepth 100000
theorem wb (l:Addr) (items:Array Value):Meets (Builtin.«enumerate.__new__» ⟨[.type "enumerate",.ref l],[]⟩) (fun _ R s=>(∃ o,s.heap.get? l=some o∧o.cls=.type "tuple"∧∃ n,o.data=.seq items n) ∧
   R (.ok (.ret (.ref (zT s.heap l).objs.size))) { s with heap:=(zT s.heap l).push { cls:=.type "enumerate",data:=.fields #[.none,.bool false,.ref s.heap.objs.size,rawInt 0,.none,.none] } }):=
 .of_wp fun prog w A R s h=>by
  obtain ⟨hp,g,d,tk,os⟩:=s;obtain ⟨⟨⟨c,dct,dt,sl⟩,hl,hc,n,hd⟩,h⟩:=h
  replace hc:c=.type "tuple":=hc
  replace hd:dt=.seq items n:=hd
  subst hc hd
  have hsub:=sub_enumerate
  have hL:Heap.IsTuple (Shared.heap ⟨hp,g,d,tk,os⟩) l items:=⟨_,hl,rfl,n,rfl⟩
  wp_walk using AutoSeq1.wpAny_loadPart' hl
  refine wpAny_stack_any fun st=>wpAny_pure ?_
  split
  ·rename_i c _ _ _ _ _
   cases (c == Value.type "enumerate")
   ·wp_walk using AutoSeq1.wpAny_loadPart' hl,wpAny_pyIter_tuple hL
    exact ⟨_,rfl,h⟩
   ·wp_walk using AutoSeq1.wpAny_loadPart' hl,wpAny_pyIter_tuple hL
    exact ⟨_,rfl,h⟩
  ·wp_walk using AutoSeq1.wpAny_loadPart' hl,wpAny_pyIter_tuple hL
   exact ⟨_,rfl,h⟩
section
variable {prog:Program} {w:World} {A:Around} {E:Value→Shared→Prop} {s:Shared}
theorem uJ {l:Addr} {items:Array Value} {Q:Value→Shared→Prop} (hL:s.heap.IsTuple l items)
  (h:∀ h',IsEnum h' (s.heap.objs.size+1) s.heap.objs.size 0 .none→h'.IsTupleIter s.heap.objs.size l 0→(∀ b o,s.heap.get? b=some o→h'.get? b=some o)→Q (.ref (s.heap.objs.size+1)) { s with heap:=h' }) :
  wpAny (model prog w) A (call (.type "enumerate") [.ref l]) Q E s:=by
 refine callType_new F.called_enumerate (by decide) (F.typeCall_enumerate_1 _) (F.newCall_enumerate_1 _) (fun obj=>F.args_object_init_2 obj _) F.entry_enumerate_new (wb l items) ⟨hL,?_⟩
 have hz:(zT s.heap l).objs.size=s.heap.objs.size+1:=Heap.size_push ..
 have he:((zT s.heap l).push { cls:=.type "enumerate",data:=.fields #[.none,.bool false,.ref s.heap.objs.size,rawInt 0,.none,.none] }).get? (zT s.heap l).objs.size=some { cls:=.type "enumerate",data:=.fields #[.none,.bool false,.ref s.heap.objs.size,rawInt 0,.none,.none] }:=Heap.get?_push_size _ rfl
 show _∧_
 rw [hz] at he ⊢
 exact ⟨⟨_,he,rfl⟩,h _ he ⟨_,Heap.get?_push_of_some _ (Heap.get?_push_size _ rfl),rfl,rfl⟩ fun b o e=>Heap.get?_push_of_some _ (Heap.get?_push_of_some _ e)⟩
end
def Dr (t:Addr):It:=
 ⟨fun i H=>∃ xs x,H t=some (.tup xs)∧xs[i]?=some x,fun i H x H'=>∃ p y,H p=none∧x=.ref p∧H'=upd H p (.tup [.int i,y])∧∀ xs,H t=some (.tup xs)→xs[i]?=some y,fun i H=>∃ xs,H t=some (.tup xs)∧xs.length=i⟩
theorem ur {P:Program} {w:World} {K:PySem.W.Frag} {es:List Expr} {kk:Nat} {tp:Pos} (l e it:Addr) (hne:e≠it) (hle:l≠e) (hli:l≠it) :
  Turn P w K (.Tuple es kk tp) (Dr l) [e,it] e (fun i h=>(∃ old,IsEnum h e it ((i:Nat):Int) old)∧h.IsTupleIter it l i) where
 mem:=by simp
 obj:=fun i h st b hb=>by
  obtain ⟨⟨old,he⟩,hit⟩:=st
  rcases List.mem_cons.mp hb with z | z
  ·subst z;exact ⟨_,he,fun v z=>by
    have z':Data.fields _=Data.cell v:=z
    cases z'⟩
  ·have z:b=it:=List.mem_singleton.mp z
   subst z
   obtain ⟨o,q,_,d⟩:=hit
   exact ⟨o,q,fun v z=>by rw [d] at z;cases z⟩
 keep:=fun i h h' st k=>by
  obtain ⟨⟨old,he⟩,hit⟩:=st
  exact ⟨⟨old,k e (by simp) _ he⟩,hit.at fun o q=>k it (by simp) o q⟩
 item:=by
  intro X hP hw hK hc i pins s σ H E I hf st hg
  subst hP hw hK
  obtain ⟨⟨old,he⟩,hit⟩:=st
  obtain ⟨xs,x,hq,hx⟩:=hg
  obtain ⟨its,rv,p,hz⟩:=I.tuple (SqT.of (K:=X.K) hq)
  obtain ⟨u,hu,ru⟩:=rv.get hx
  have hit':i < its.toArray.size:=by have:=(List.getElem?_eq_some_iff.mp hu).1;simpa using this
  refine wpAny_pyNext_enum_itemD (vg (prog:=X.prog) (w:=X.w) (A:=X.A.in1) (I.ok.hd hc) it l hli its.toArray) he ⟨hit,p⟩ hit' hne (by simp [hne,Ne.symm hle]) fun u' h1 tk hu' ho1 st1 ht1 hz1 hk1=>?_
  have e0:u'=u:=by
   have a1:its[i]?=some u':=by simpa using hu'
   rw [hu] at a1
   exact (Option.some.inj a1).symm
  subst e0
  refine ⟨_,rfl,wpAny_letOwnedTupleGo_enum (s:={ s with heap:=h1,toks:=tk+1 }) ho1 fun h2 he2 hs2=>?_⟩
  have helt:e < s.heap.objs.size:=Heap.lt_size he
  have ht2:h2.get? s.heap.objs.size=some { cls:=.type "tuple",data:=.seq #[.int i tk,u'] }:=hs2.extBut _ _ (Nat.ne_of_gt helt) ht1
  have k2:∀ b o,b∉[e,it]→s.heap.get? b=some o→h2.get? b=some o:=fun b o hb q=>by
   have hb1:b≠e:=fun z=>hb (by simp [z])
   have hb2:b≠it:=fun z=>hb (by simp [z])
   exact hs2.extBut b o hb1 (hk1 b o hb1 hb2 q)
  have I2:Inv X pins σ (upd H s.heap.objs.size (.tup [.int i,x])) { s with heap:=h2,toks:=tk+1 }:=by
   refine I.rh (fp:=[e,it]) (Nat.le_refl _) k2 hf ?_
   exact ⟨by show 2≤sizeLine;decide,[.int i tk,u'],.cons ⟨_,rfl⟩ (.cons ru .nil),⟨_,ht2,rfl,_,rfl⟩⟩
  refine ⟨.ref s.heap.objs.size,_,I2,rfl,⟨s.heap.objs.size,x,I.hok.fresh (Nat.le_refl _),rfl,rfl,fun ys hy=>by rw [hq] at hy;cases hy;exact hx⟩,⟨⟨_,by simpa using he2⟩,?_⟩,fun b hb=>?_⟩
  ·exact st1.1.extBut hs2.extBut (Ne.symm hne)
  ·have hlt:b < s.heap.objs.size:=by
    rcases List.mem_cons.mp hb with z | z
    ·rw [z];exact helt
    ·have z:b=it:=List.mem_singleton.mp z
     subst z
     obtain ⟨o,q,_⟩:=hit
     exact Heap.lt_size q
   rw [aB (Nat.ne_of_lt hlt)]
   exact (hf b hb).1
 done:=by
  intro X hP hw hK hc i pins s σ H E I hf st hg
  subst hP hw hK
  obtain ⟨⟨old,he⟩,hit⟩:=st
  obtain ⟨xs,hq,hx⟩:=hg
  obtain ⟨its,rv,p,hz⟩:=I.tuple (SqT.of (K:=X.K) hq)
  have hl:=rv.length
  obtain ⟨f0,f1,f2,f3,f4,f5⟩:=hf it (by simp)
  exact wpAny_pyNext_enum_endD (vg (prog:=X.prog) (w:=X.w) (A:=X.A.in1) (I.ok.hd hc) it l hli its.toArray) he ⟨by rw [List.size_toArray,← hl,hx];exact hit,p⟩ fun h' eb=>⟨rfl,I.turned (t':=s.toks) (fun b o hb e=>eb b o hb e) f0 f1 f3 f4 f5⟩
 self:=fun _ _ _ _ _ st h=>by
  obtain ⟨⟨old,he⟩,_⟩:=st
  exact wpAny_pyIter_enum he h
def xG (e:XE):XI:=fun τ S=>(e τ S).bind fun z S1=>match z with
 | .d (.tup xs)=>.ok ⟨cM 0 xs,none⟩ S1
 | _=>.bad
section
variable {X:Cx} {WE:WX} {K:PySem.W.Frag} {mg:Str→Option Value} {μ:Nat→Addr} {S:Sto} {H:Hp}
theorem za {a:Addr} {vs:List V} {xs:List D} (g:vh μ S H a=some (.tup vs)) (rs:aw (vh μ S H) vs xs) (hz:vs.length≤sizeLine):gT K mg μ S H (Dr a) ⟨cM 0 xs,none⟩ where
 ok:=True.intro
 len:=by simp only [fP];rw [← rs.length];exact hz
 go:=fun i z μ' S' H' st _ e=>by
  rw [dw] at e
  cases q:xs[i]? with
  | none=>rw [q] at e;cases e
  | some x=>
   obtain ⟨u,e2,_⟩:=rs.get' q
   exact ⟨vs,u,(aR (st.vis _ _ g)).2,e2⟩
 yld:=fun i z μ' S' H' u H2 st _ e y=>by
  obtain ⟨p,w,hp,rfl,rfl,y⟩:=y
  rw [dw] at e
  cases q:xs[i]? with
  | none=>rw [q] at e;cases e
  | some x=>
   rw [q] at e
   cases e
   have e2:=y vs (aR (st.vis _ _ g)).2
   obtain ⟨x',e3,r⟩:=rs.get e2
   rw [q] at e3;cases e3
   have st2:=Step.new st.hr hp (.tup [.int i,w])
   refine ⟨st2,Rep.tup (bJ bC (st.hr.nal hp)) (.cons ?_ (.cons (Rep.mono (st.trans st2).vis r) .nil))⟩
   rw [Nat.zero_add]
   exact .int _
 stop:=fun i μ' S' H' st _ hi=>⟨vs,(aR (st.vis _ _ g)).2,by rw [rs.length];rw [fP] at hi;exact hi⟩
end
section
variable {X:Cx} {WE:WX}
theorem xZ {es:List Expr} {kk:Nat} {tp:Pos} {l:Expr} {xl:XE} {p pos:Pos} (hg:Gl X "enumerate") (hm:X.mg "enumerate"=none) (hl:RE X WE l xl) (hb:bootBuiltins "enumerate"=some (.type "enumerate"):=by decide +kernel)
  (hs:starEach [l] X.env=[(false,eval l X.env)]:=by rfl):RI X WE (.Tuple es kk tp) (.Call (.Name "enumerate" p) [l] [] pos) (xG xl):=⟨by
 intro pins s σ H R I h
 obtain ⟨μ,S,τ,hr,sr,pp⟩:=h
 refine Call_ (cT I hg hm hb (PyProof.Rows.callWith_type1 (thn ((dH hl.h fK hs) pos pins s σ H (fun vs H1=>∃ x,vs=[x]∧∃ μ1 S1 z,HR μ1 S1 H1∧aL X.K X.mg μ1 S1 H1 x z∧aN (gT X.K X.mg) WE μ1 S1 H1 (match z with
   | .d (.tup xs)=>.ok ⟨cM 0 xs,none⟩ S1
   | _=>.bad) R) I ?_) fun us s1 ⟨vs,H1,I1,r1,q1⟩=>?_) hs rfl))
 ·exact ⟨μ,S,τ,hr,sr,pp.bind fun v x S1 μ1 H1 st1 r1 p1=>⟨v,rfl,μ1,S1,x,st1.hr,r1,p1⟩⟩
 ·obtain ⟨x,e,μ1,S1,z,hr1,rz,p1⟩:=q1
  subst e
  obtain ⟨u,rfl,ru⟩:=vals1 r1
  split at p1
  ·obtain ⟨a,us,rfl,h0,g,rs⟩:=kQ rz
   cases ru
   obtain ⟨its,rv,pl,hz⟩:=I1.tuple (SqT.of (K:=X.K) h0)
   have q:=p1.here hr1 (za g rs hz)
   have hlt:a < s1.heap.objs.size:=pl.lt
   refine uJ (show s1.heap.IsTuple a its.toArray from pl) fun h' he hit hk=>?_
   refine wpAny_pyIter_enum (s:={ s1 with heap:=h' }) he ?_
   have I2:Inv X pins σ H1 { s1 with heap:=h' }:=I1.kept (t':=s1.toks) hk
   refine ⟨s1.heap.objs.size+1,[s1.heap.objs.size+1,s1.heap.objs.size],_,_,H1,rfl,I2,ur a _ _ (Nat.succ_ne_self _) (Nat.ne_of_lt (Nat.lt_succ_of_lt hlt)) (Nat.ne_of_lt hlt),⟨⟨_,he⟩,hit⟩,fun b hb=>?_,q⟩
   have hle:s1.heap.objs.size≤b:=by
    rcases List.mem_cons.mp hb with z | z
    ·rw [z];exact Nat.le_succ _
    ·rw [List.mem_singleton.mp z];exact Nat.le_refl _
   exact I1.lq hle (I1.hok.fresh hle)
  ·exact p1.elim⟩
end
section
variable {prog:Program} {w:World} {A:Around} {E:Value→Shared→Prop} {s:Shared} {z TI TO i1 i2:Addr} {fp1 fp2:List Addr} {n1 n2 k:Nat} {P1 P2:Nat→Value→Prop} {S1 S2:Nat→Heap→Prop}
set_option hygiene false in
local macro_rules | `(tactic| walk_at "zi") => `(tactic| (
  have q1:S1 k g0:=D1.frame _ _ _ h1 fun c hc o q=>e0.extBut c o (fun y=>D.z1 (y ▸ hc)) q
  have q2:S2 k g0:=D2.frame _ _ _ h2 fun c hc o q=>e0.extBut c o (fun y=>D.z2 (y ▸ hc)) q
  refine wpAny_bind (wpAny_bind (wpAny_bind (wpAny_holding ?_)))
  refine (show wpAny _ _ (Builtin.SmallTypes.nextOf (.ref i1)>>=_) _ _ _ from wpAny_bind (D1.item k _ _ _ l1 q1 fun x g2 t2 p1 q1' e2=>wpAny_pure (wpAny_pure ?_)))
  replace e2:Heap.SameBut i1 g0 g2:=e2
  refine wpAny_bind (wpAny_bind (wpAny_holding ?_))
  have r2:S2 k g2:=D2.frame _ _ _ q2 fun c hc o q=>e2.extBut c o (fun y=>D.i12 (y ▸ hc)) q
  refine (show wpAny _ _ (Builtin.SmallTypes.nextOf (.ref i2)>>=_) _ _ _ from wpAny_bind (D2.item k _ _ _ l2 r2 fun y g4 t4 p2 r2' e4=>wpAny_pure (wpAny_pure (wpAny_pure ?_))))
  replace e4:Heap.SameBut i2 g2 g4:=e4
  refine wpAny_bind (wpAny_newTuple ?_ (by show 2≤sizeLine;decide))
  have hsz:g4.objs.size=s.heap.objs.size:=by rw [e4.1,e2.1,e0.1]
  refine wpAny_pure ⟨_,rfl,?_⟩
  show Q (.ref g4.objs.size) _
  rw [hsz]
  have up:∀ c o,g4.get? c=some o→(g4.push { cls:=.type "tuple",data:=.seq #[x,y] }).get? c=some o:=fun c o q=>Heap.get?_push_of_some _ q
  refine hQ x y _ _ p1 p2 (up _ _ (e4.extBut _ _ D.i2z.symm (e2.extBut _ _ D.i1z.symm hz0))) (up _ _ (e4.extBut _ _ D.TI2 (e2.extBut _ _ D.TI1 (e0.extBut _ _ D.TIz hTI)))) ?_ ?_ ?_ fun c o c1 _ c3 c4 q=>up _ _ (e4.extBut _ _ c4 (e2.extBut _ _ c3 (e0.extBut _ _ c1 q)))
  ·exact D1.frame _ _ _ q1' fun c hc o q=>up _ _ (e4.extBut c o (fun y=>D.i21 (y ▸ hc)) q)
  ·exact D2.frame _ _ _ r2' fun c hc o q=>up _ _ q
  ·rw [← hsz];exact Heap.get?_push_size _ rfl
 ))
set_option hygiene false in
local macro_rules | `(tactic| walk_at "ze") => `(tactic| (
  have q1:S1 k g0:=D1.frame _ _ _ h1 fun c hc o q=>e0.extBut c o (fun y=>D.z1 (y ▸ hc)) q
  have q2:S2 k g0:=D2.frame _ _ _ h2 fun c hc o q=>e0.extBut c o (fun y=>D.z2 (y ▸ hc)) q
  refine wpAny_bind (wpAny_bind (wpAny_bind (wpAny_holding ?_)))
  rcases hend with hk | ⟨hk,hk2⟩
  ·subst hk
   refine (show wpAny _ _ (Builtin.SmallTypes.nextOf (.ref i1)>>=_) _ _ _ from wpAny_bind (D1.done _ _ _ q1 fun g2 e e2 he=>?_))
   replace e2:Heap.ExtBut i1 g0 g2:=e2
   exact hE g2 e _ (fun c o c1 _ c3 _ q=>e2 _ _ c3 (e0.extBut _ _ c1 q)) he
  ·subst hk2
   refine (show wpAny _ _ (Builtin.SmallTypes.nextOf (.ref i1)>>=_) _ _ _ from wpAny_bind (D1.item k _ _ _ hk q1 fun x g2 t2 p1 q1' e2=>wpAny_pure (wpAny_pure ?_)))
   replace e2:Heap.SameBut i1 g0 g2:=e2
   refine wpAny_bind (wpAny_bind (wpAny_holding ?_))
   have r2:S2 k g2:=D2.frame _ _ _ q2 fun c hc o q=>e2.extBut c o (fun y=>D.i12 (y ▸ hc)) q
   refine (show wpAny _ _ (Builtin.SmallTypes.nextOf (.ref i2)>>=_) _ _ _ from wpAny_bind (D2.done _ _ _ r2 fun g4 e e4 he=>?_))
   replace e4:Heap.ExtBut i2 g2 g4:=e4
   exact hE g4 e _ (fun c o c1 _ c3 c4 q=>e4 _ _ c4 (e2.extBut _ _ c3 (e0.extBut _ _ c1 q))) he
 ))
end
set_option maxRecDepth 100000
theorem f6:entryFor table "dict.update.loop"=some Builtin.«dict.update.loop»:=entryFor_of_tree (by rfl)
theorem c5:plainId "dict.update.loop"=true:=by decide +kernel
structure yK (prog:Program) (w:World) (A:Around) (I d:Addr) (wr:List Addr) (ps:List (Key×V)) (St:Nat→Heap→Prop):Prop where
 nd:d∉wr
 frame:∀ i h h',St i h→(∀ b o,b≠d→h.get? b=some o→h'.get? b=some o)→St i h'
 item:∀ i (s:Shared) (Q:Option Value→Shared→Prop) (E:Value→Shared→Prop),i < ps.length→St i s.heap→d < s.heap.objs.size →
  (∀ T k v x y h' tk,ps[i]?=some (k,v)→(aW prog w).is k x=true→RelV v y→h'.IsTuple T #[x,y]→St (i+1) h'→(∀ b o,b∉wr→s.heap.get? b=some o→h'.get? b=some o)→Q (some (.ref T)) { s with heap:=h',toks:=tk }) →
  wpAny (model prog w) A (pyNext (.ref I)) Q E s
 done:∀ (s:Shared) (Q:Option Value→Shared→Prop) (E:Value→Shared→Prop),St ps.length s.heap→(∀ h' tk,(∀ b o,b∉wr→s.heap.get? b=some o→h'.get? b=some o)→Q none { s with heap:=h',toks:=tk })→wpAny (model prog w) A (pyNext (.ref I)) Q E s
theorem sy (kvs:List (Key×V)) (ps:List (Key×V)) (k:Key) (v:V):cR kvs (ps++[(k,v)])=putK (cR kvs ps) k v:=by simp [cR,List.foldl_append]
theorem sQ {prog:Program} {w:World} {A:Around} {I d:Addr} {wr:List Addr} {ps:List (Key×V)} {St:Nat→Heap→Prop} {R:Result→Shared→Prop} (W:yK prog w A.in1 I d wr ps St) (hn:ps.length≤100000) (res:Value) :
  ∀ (k i:Nat) (t:Tok) (s:Shared) (kvs:List (Key×Value)),ps.length - i=k→i≤ps.length→St i s.heap→s.heap.DictOf (aW prog w) d kvs→KV (cR [] (ps.take i)) kvs →
  (∀ h' tk kvs',h'.DictOf (aW prog w) d kvs'→KV (cR [] ps) kvs'→(∀ b o,b≠d→b∉wr→s.heap.get? b=some o→h'.get? b=some o)→R (.ok (.ret res)) { s with heap:=h',toks:=tk }) →
  codeAny (model prog w) A (.builtin "dict.update.loop" ⟨[.ref d,.ref I,.int i t,res],[]⟩) R s:=by
 intro k
 induction k with
 | zero=>
  intro i t s kvs hk hi hst hd hkv hR
  have hin:i=ps.length:=by omega
  subst hin
  rw [List.take_length] at hkv
  refine codeAny_builtin f6 ?_
  rw [Around.under_plainId c5 _]
  show wpAny _ A.in1 (pyNext (.ref I)>>=_) _ _ s
  refine wpAny_bind (W.done s _ _ hst fun h' tk hkp=>?_)
  refine wpAny_bind (wpAny_pure (wpAny_pure ?_))
  obtain ⟨o,es,ep,ho,r⟩:=hd
  exact hR h' tk kvs ⟨o,es,ep,hkp d o W.nd ho,r⟩ hkv fun b o _ hb e=>hkp b o hb e
 | succ k ih=>
  intro i t s kvs hk hi hst hd hkv hR
  have hlt:i < ps.length:=by omega
  refine codeAny_builtin f6 ?_
  rw [Around.under_plainId c5 _]
  show wpAny _ A.in1 (pyNext (.ref I)>>=_) _ _ s
  have hdl:d < s.heap.objs.size:=by obtain ⟨o,es,ep,ho,r⟩:=hd;exact Heap.lt_size ho
  refine wpAny_bind (W.item i s _ _ hlt hst hdl fun T key v x y h' tk hps hkey hv hT hst' hkp=>?_)
  have hd':h'.DictOf (aW prog w) d kvs:=by obtain ⟨o,es,ep,ho,r⟩:=hd;exact ⟨o,es,ep,hkp d o W.nd ho,r⟩
  have htk:ps.take (i+1)=ps.take i++[(key,v)]:=by rw [List.take_add_one,hps];rfl
  have hkv':KV (cR [] (ps.take (i+1))) (stored kvs key y):=by
   rw [htk,sy]
   exact hkv.put key hv
  obtain ⟨oT,hoT,hcT,nT,hdT⟩:=hT
  refine wpAny_bind (wpAny_holding (wpAny_bind (wpAny_tryCatch ?_)))
  unfold Builtin.Dict.pairItems
  refine wpAny_bind (wpAny_typeOf (T:="tuple") ⟨oT,hoT,hcT⟩ ?_)
  refine wpAny_ite_true (by rfl) ?_
  refine wpAny_bind (wpAny_seqItems hoT hdT (wpAny_pure ?_))
  have lk:kvs.length≤sizeLine:=by
   have l1:=hkv.length
   have l2:=fY (ps.take i) []
   rw [List.length_take,List.length_nil] at l2
   rw [sizeLine_eq]
   omega
  refine wpAny_holding (wpAny_dictSet_pairs (knd:=aW prog w) (hsz:=lk) hkey hd' fun h2 hd2 hs2=>?_)
  refine wpAny_pure ⟨plainId_quiet c5 _,?_⟩
  refine ih (i+1) _ _ _ (by omega) hlt (W.frame _ _ _ hst' fun b o hb e=>(hs2.2 b hb).trans e) hd2 hkv' fun h3 tk3 kvs3 a b c=>hR h3 tk3 kvs3 a b fun b' o hb hw e=>c b' o hb hw ((hs2.2 b' hb).trans (hkp b' o hw e))
theorem r0:typeLookup (.type "list") "keys"=pure none:=by rw [typeLookup_type,builtinLookup_eq_fast];rfl
theorem xf {prog:Program} {w:World} {A:Around} {E:Value→Shared→Prop} {s:Shared} {a:Addr} {xs:Array Value} {k:Nat} {Q:Option Value→Shared→Prop} (hx:s.heap.get? a=some { cls:=.type "list",dict:=none,data:=.seq xs k,slots:=#[] }) (hA:A.handled=none)
  (h:∀ h' tk,(∀ b o,s.heap.get? b=some o→h'.get? b=some o)→Q none { s with heap:=h',toks:=tk }):wpAny (model prog w) A (getAttr? (.ref a) "keys") Q E s:=by
 obtain ⟨hp,g,d,tk,os⟩:=s
 have hT:∀ tk',(⟨hp,g,d,tk',os⟩:Shared).TypeIs (.ref a) "list":=fun _=>⟨_,hx,rfl⟩
 have f1:=sub_AttributeError
 have f3:=F.slot_list_getattribute.lookup
 have f4:=F.slot_list_getattribute.bind (.ref a)
 have f5:=am_list_getattr_none
 unfold getAttr? getAttrBy? getAttrBy
 repeat (any_goals (first | assumption | exact hT _ | ((with_reducible show wpAny _ _ (call (Value.builtin "list.__getattribute__") _ _) _ _ _);refine call_meets F.slot_list_getattribute (hT _) am_entry_list_getattribute (F.args_list_getattribute_2 _ _) (meets_getattribute_miss_list a xs k #[] "keys" _ r0 (by decide +kernel) (by decide +kernel)) ⟨hx,hA,fun h' tk' e hx'=>?_⟩) | wp_step))
 obtain ⟨t',u',he⟩:=hx'.there
 show wpAny _ _ (getattributeRaised _ _ _ _ _ _ _) _ _ _
 unfold getattributeRaised
 repeat (any_goals (first | assumption | wp_step))
 exact h _ _ hx'.keeps
set_option maxRecDepth 100000
section
variable {prog:Program} {w:World} {A:Around} {E:Value→Shared→Prop} {s:Shared}
theorem sx {src:Addr} {ps:List (Key×V)} {T:String} {wr0:List Addr} {Q:Value→Shared→Prop} (hh:A.handled=none) (hn:ps.length≤100000) (hT:∀ s':Shared,(∀ b o,s.heap.get? b=some o→s'.heap.get? b=some o)→s'.TypeIs (.ref src) T) (hne:(Value.type T == Value.type "dict")=false)
  (hkeys:∀ (s':Shared) (A':Around) (E':Value→Shared→Prop) (Q':Option Value→Shared→Prop),(∀ b o,s.heap.get? b=some o→s'.heap.get? b=some o)→A'.handled=none→(∀ h' tk,(∀ b o,s'.heap.get? b=some o→h'.get? b=some o)→Q' none { s' with heap:=h',toks:=tk })→wpAny (model prog w) A' (getAttr? (.ref src) "keys") Q' E' s')
  (hit:∀ (s':Shared) (A':Around) (E':Value→Shared→Prop) (Q':Value→Shared→Prop),(∀ b o,s.heap.get? b=some o→s'.heap.get? b=some o)→s.heap.objs.size < s'.heap.objs.size→(∀ (I:Addr) (wr:List Addr) (St:Nat→Heap→Prop) h' tk,(∀ b o,s'.heap.get? b=some o→h'.get? b=some o)→St 0 h'→(∀ b o,b∉wr0→s.heap.get? b=some o→b∉wr)→(∀ A'':Around,A''.handled=none→yK prog w A'' I s.heap.objs.size wr ps St)→Q' (.ref I) { s' with heap:=h',toks:=tk })→wpAny (model prog w) A' (pyIter (.ref src)) Q' E' s')
  (h:∀ h' tk kvs',h'.DictOf (aW prog w) s.heap.objs.size kvs'→KV (cR [] ps) kvs'→(∀ b o,b∉wr0→s.heap.get? b=some o→h'.get? b=some o)→Q (.ref s.heap.objs.size) { s with heap:=h',toks:=tk }) :
  wpAny (model prog w) A (call (.type "dict") [.ref src]) Q E s:=by
 refine callType_codes (Q₁:=fun obj s₁=>obj=.ref s.heap.objs.size∧s₁={ s with heap:=s.heap.push { cls:=.type "dict",data:=.dict #[] } }) F.kt_called_dict (F.kt_typeCall_dict_1 _) F.entry_dict_init (kt_code_dict_new _ ⟨rfl,rfl⟩) ?_
 rintro obj s₁ ⟨rfl,rfl⟩
 have hnew:(s.heap.push { cls:=.type "dict",data:=.dict #[] }).DictOf (aW prog w) s.heap.objs.size []:=Heap.DictOf.new s.heap
 have up:∀ b o,s.heap.get? b=some o→(s.heap.push { cls:=.type "dict",data:=.dict #[] }).get? b=some o:=fun b o e=>Heap.get?_push_of_some _ e
 refine ⟨hnew.typeIs,F.args_dict_init_2 _ _,?_⟩
 unfold Builtin.«dict.__init__»
 refine wpAny_bind ?_
 unfold Builtin.Dict.selfAndRest
 refine wpAny_bind (wpAny_notOrdered_dict hnew.typeIs ?_)
 show wpAny _ _ (pure (s.heap.objs.size,[Value.ref src])) _ _ _
 refine wpAny_pure ?_
 show wpAny _ _ (Builtin.Dict.updateFrom "dict.__init__" s.heap.objs.size (.ref src) [] .none) _ _ _
 unfold Builtin.Dict.updateFrom
 refine wpAny_bind (wpAny_typeOf (hT _ up) ?_)
 refine wpAny_ite_true (by show decide ((Value.type T != Value.type "dict")=true)=true;simp [bne,hne]) ?_
 refine wpAny_bind (hkeys _ _ _ _ up hh fun h1 t1 k1=>?_)
 refine wpAny_ite_true rfl (wpAny_bind (wpAny_rule (wpAny_bind ?_)))
 refine hit _ _ _ _ (fun b o e=>k1 b o (up b o e)) ?_ fun I wr St h2 t2 k2 st2 hw W=>wpAny_pure ⟨plainId_quiet c5 _,?_⟩
 ·have e0:(s.heap.push { cls:=.type "dict",data:=.dict #[] }).get? s.heap.objs.size=some _:=Heap.get?_push_size _ rfl
  exact Heap.lt_size (k1 _ _ e0)
 ·have hd2:h2.DictOf (aW prog w) s.heap.objs.size []:=by
   obtain ⟨o,es,ep,ho,r⟩:=hnew
   exact ⟨o,es,ep,k2 _ _ (k1 _ _ ho),r⟩
  refine sQ (W A.in1.in1 hh) hn .none ps.length 0 _ _ [] rfl (Nat.zero_le _) st2 hd2 .nil fun h3 t3 kvs3 d3 r3 k3=>⟨rfl,h h3 t3 kvs3 d3 r3 fun b o hb e=>k3 b o (Nat.ne_of_lt (Heap.lt_size e)) (hw b o hb e) (k2 b o (k1 b o (up b o e)))⟩
end
section
variable {X:Cx}
end
section
variable {X:Cx} {WE:WX}
end
theorem A7 (xs:List Value):slicePick xs.toArray none none (some (-1))=xs.reverse.toArray:=by
 unfold slicePick sliceBounds sliceRange
 simp only [Option.getD_some,List.size_toArray]
 simp only [show ¬((-1:Int) > 0) from by decide,if_false]
 have hc:(if ((xs.length:Nat):Int) - 1 > -1 then (((xs.length:Nat):Int) - 1 - -1 - -1 - 1) / (- -1) else 0).toNat=xs.length:=by
  split
  ·rw [show ((xs.length:Nat):Int) - 1 - -1 - -1 - 1=(xs.length:Nat) by omega];simp
  ·omega
 rw [hc,List.filterMap_map]
 congr 1
 have:=A9 xs
 rw [← this]
 congr 1
 funext m
 simp only [Function.comp]
 congr 2
 omega
def E4 (te ts:TE):TE:=fun σ H Q=>te σ H fun x H1=>ts σ H1 fun y H2=>∃ a xs,x=.ref a∧y=.int (-1)∧H2 a=some (.lst xs)∧∀ p,H2 p=none→Q (.ref p) (upd H2 p (.lst xs.reverse))
theorem A5 {X:Cx} {e st:Expr} {te ts:TE} {p2 pos:Pos} (he:PE X e te) (hs:PE X st ts):PE X (.Subscript e (.Slice none none (some st) p2) pos) (E4 te ts):=by
 intro pins s σ H Q I h
 refine Subscript_ (thn (he pins s σ H _ I h) fun v s1 ⟨x,H1,I1,r1,q1⟩=>?_)
 refine wpAny_Slice ?_
 rw [evalPart_none]
 refine wpAny_pure (wpAny_pure ?_)
 rw [evalPart_some]
 refine thn (hs pins s1 σ H1 _ I1 q1) fun u s2 ⟨y,H2,I2,r2,q2⟩=>?_
 obtain ⟨a,xs,rfl,rfl,hx,q⟩:=q2
 cases r1
 obtain ⟨tk,rfl⟩:=r2
 have I3:Inv X pins σ H2 { s2 with heap:=s2.heap.push { cls:=.type "slice",data:=.fields #[.none,.none,.int (-1) tk] } }:=I2.kept (t':=s2.toks) fun b ob q=>Heap.get?_push_of_some _ q
 obtain ⟨its,r,ht,hz⟩:=I3.list (SqL.of hx)
 show wpAny (model X.prog X.w) X.A (subscriptTail e (.Slice none none (some st) p2) (.ref a) (.ref s2.heap.objs.size)) (EP X pins σ Q) X.xe { s2 with heap:=s2.heap.push { cls:=.type "slice",data:=.fields #[.none,.none,.int (-1) tk] } }
 refine tail_any (ops:=[.ref a,.ref s2.heap.objs.size]) ht.isList.typeIs PySem.F.slot_list_getitem.lookup (wpAny_getItem_list_slice ht.isList (Heap.IsSliceOf.new ..) .none .none (.int (-1) tk) (by decide) ?_ (by rw [List.size_toArray,← r.length];exact hz)) (by with_unfolding_all rfl)
 rw [A7]
 refine ⟨.ref _,_,I3.laid (t':=s2.toks) (o:=.lst xs.reverse) (fun b ob q=>Heap.get?_push_of_some _ q) (Nat.le_refl _) ?_,rfl,q _ (I3.hok.fresh (Nat.le_refl _))⟩
 exact ⟨by rw [List.length_reverse];exact hz,_,_,r.reverse,Heap.get?_push_size _ rfl⟩
def p8 (x y:Vl) (S:Sto):R Vl:=match cu x S,y with
 | some xs,.d (.int i)=>if i=-1 then .ok (.d (.lst xs.reverse)) S else .bad
 | _,_=>.bad
theorem A8 {X:Cx} {WE:WX} {e st:Expr} {xa xb:XE} {p2 pos:Pos} (he:RE X WE e xa) (hs:RE X WE st xb):RE X WE (.Subscript e (.Slice none none (some st) p2) pos) (xOp p8 xa xb):=
 ⟨(A5 he.h hs.h).weak fun σ H Q ⟨μ,S,τ,hr,sr,p⟩=>⟨μ,S,τ,hr,sr,p.bind fun v x S1 μ1 H1 st1 r1 p1=>⟨μ1,S1,τ,st1.hr,sr.step st1,p1.bind fun w y S2 μ2 H2 st2 r2 p2=>by
  have rv:=r1.step st2
  unfold p8 at p2
  split at p2
  ·rename_i hl
   split at p2
   ·rename_i hi
    obtain ⟨a,vs,rfl,h,rs⟩:=dC st2.hr rv hl
    exact ⟨a,vs,rfl,by rw [a4 r2,hi],h,fun q hq=>p2.iX st2.hr rs.reverse q hq⟩
   ·exact p2.elim
  ·exact p2.elim⟩⟩⟩
set_option maxRecDepth 100000
inductive cq (H:Hp):List V→List (Key×V)→Prop
 | nil:cq H [] []
 | cons {T:Addr} {k:Key} {v:V} {vs:List V} {ps:List (Key×V)}:H T=some (.tup [kV k,v])→cq H vs ps→cq H (.ref T :: vs) ((k,v) :: ps)
theorem cq.length {H:Hp}:∀ {vs:List V} {ps:List (Key×V)},cq H vs ps→vs.length=ps.length
 | _,_,.nil=>rfl
 | _,_,.cons _ t=>by simp [cq.length t]
def rDL:List V→Hp→VK→Prop:=fun vs H Q=>∃ (a:Addr) (us:List V) (ps:List (Key×V)),vs=[.ref a]∧H a=some (.lst us)∧cq H us ps∧ps.length≤100000∧∀ p,H p=none→Q (.ref p) (upd H p (.dK (cR [] ps)))
def StL (l I:Addr) (its:Array Value) (tl:List (Addr×Array Value)) (i:Nat) (h:Heap):Prop:=h.IsListIter I l i∧h.IsList l its∧∀ p∈tl,h.IsTuple p.1 p.2
theorem src_list {prog:Program} {w:World} {A:Around} {d l I:Addr} {its:Array Value} {tl:List (Addr×Array Value)} {ps:List (Key×V)} (hh:A.handled=none) (hI:I≠l) (dI:d≠I) (dl:d≠l) (hd:∀ p∈tl,p.1≠d∧p.1≠I) (hl:its.size=ps.length)
  (hp:∀ i,i < ps.length→∃ T k v x y,its[i]?=some (.ref T)∧ps[i]?=some (k,v)∧(T,#[x,y])∈tl∧(aW prog w).is k x=true∧RelV v y):yK prog w A I d [I] ps (StL l I its tl) where
 nd:=by simpa using dI
 frame:=fun i h h' st k=>⟨st.1.at fun o e=>k _ o (Ne.symm dI) e,st.2.1.at fun o e=>k _ o (Ne.symm dl) e,fun p hpp=>(st.2.2 p hpp).at fun o e=>k _ o (hd p hpp).1 e⟩
 item:=fun i s Q E hi st hlt hQ=>by
  obtain ⟨T,k,v,x,y,h1,h2,h3,h4,h5⟩:=hp i hi
  obtain ⟨a,b,c⟩:=st
  refine wpAny_pyNext_list_item a b h1 fun h' a' sb=>?_
  have kp:∀ b o,b≠I→s.heap.get? b=some o→h'.get? b=some o:=fun b o hb e=>(sb.2 b hb).trans e
  refine hQ T k v x y h' s.toks h2 h4 h5 ((c _ h3).at fun o e=>kp _ o (hd _ h3).2 e) ⟨a',b.at fun o e=>kp _ o (Ne.symm hI) e,fun p hpp=>(c p hpp).at fun o e=>kp _ o (hd p hpp).2 e⟩ fun b' o hb e=>kp b' o (fun z=>hb (by simp [z])) e
 done:=fun s Q E st hQ=>by
  obtain ⟨a,b,c⟩:=st
  exact wpAny_pyNext_list_end hh a b (by simp [hl]) fun h' eb=>hQ h' s.toks fun b' o hb e=>eb b' o (fun z=>hb (by simp [z])) e
theorem o7 {X:Cx} {pins:List (Addr×Obj)} {σ:St} {H:Hp} {s:Shared} (I:Inv X pins σ H s):∀ {us:List V} {ps:List (Key×V)} {its:List Value},cq H us ps→Vals us its →
  ∃ tl:List (Addr×Array Value),(∀ p∈tl,s.heap.IsTuple p.1 p.2)∧∀ i,i < ps.length→∃ T k v x y,its[i]?=some (.ref T)∧ps[i]?=some (k,v)∧(T,#[x,y])∈tl∧(aW X.prog X.w).is k x=true∧RelV v y
 | _,_,_,.nil,_=>⟨[],by simp,fun i hi=>by simp at hi⟩
 | _,_,_,@cq.cons _ T k v vs ps hT t,.cons r rs=>by
  cases r
  obtain ⟨tl,h1,h2⟩:=o7 I t rs
  obtain ⟨xs,rx,px,hz⟩:=I.tuple (SqT.of (K:=X.K) hT)
  cases rx with
  | cons r1 rx=>cases rx with
   | cons r2 rx=>
    cases rx
    rename_i x y
    refine ⟨(T,#[x,y]) :: tl,fun p hp=>?_,fun i hi=>?_⟩
    ·rcases List.mem_cons.mp hp with z | z
     ·rw [z];exact px
     ·exact h1 p z
    ·cases i with
     | zero=>exact ⟨T,k,v,x,y,rfl,rfl,by simp,jv r1,r2⟩
     | succ i=>
      obtain ⟨T',k',v',x',y',a,b,c,d,e⟩:=h2 i (by simpa using hi)
      exact ⟨T',k',v',x',y',by simpa using a,by simpa using b,by simp [c],d,e⟩
theorem jL {X:Cx} (hc:X.calm=true):bw X (.type "dict") rDL:=by
 intro pins s σ H xs us Q I r h
 obtain ⟨a,vs,ps,rfl,hH,hp,hl,q⟩:=h
 obtain ⟨u,rfl,rx⟩:=vals1 r
 cases rx
 have hh:X.A.handled=none:=I.ok.hd hc
 obtain ⟨its,rv,pl,hz⟩:=I.list (SqL.of (K:=X.K) hH)
 obtain ⟨zz,its',n,rv',g1⟩:=(show bj X.prog X.w H s.heap a (.lst vs) from I.hok a _ hH)
 obtain ⟨tl,t1,t2⟩:=o7 I hp rv'
 have lp:=hp.length
 have lv:=rv'.length
 have hil:s.heap.IsList a its'.toArray:=⟨_,g1,rfl,n,rfl⟩
 have lta:a < s.heap.objs.size:=Heap.lt_size g1
 refine sx (T:="list") (wr0:=[]) hh hl (fun s' k=>⟨_,k _ _ g1,rfl⟩) (by decide) (fun s' A' E' Q' k hA hQ'=>xf (k _ _ g1) hA hQ') (fun s' A' E' Q' k hlt hQ'=>?_) fun h3 t3 kvs3 d3 r3 k3=>?_
 ·refine wpAny_pyIter_list (hil.at fun o e=>k _ o e) ?_
  have up:∀ b o,s'.heap.get? b=some o→(s'.heap.push { cls:=.type "list_iterator",data:=.fields #[.ref a,.int 0 0] }).get? b=some o:=fun b o e=>Heap.get?_push_of_some _ e
  refine hQ' s'.heap.objs.size [s'.heap.objs.size] (StL a s'.heap.objs.size its'.toArray tl) _ s'.toks up ⟨⟨_,Heap.get?_push_size _ rfl,rfl,rfl⟩,hil.at fun o e=>up _ _ (k _ o e),fun p hpp=>(t1 p hpp).at fun o e=>up _ _ (k _ o e)⟩ (fun b o _ e=>?_) fun A'' hA=>?_
  ·have:=Heap.lt_size (k b o e)
   simpa using Nat.ne_of_lt this
  ·refine src_list hA (Nat.ne_of_gt (Nat.lt_trans lta hlt)) (Nat.ne_of_lt hlt) (Nat.ne_of_gt lta) (fun p hpp=>?_) (by simp;omega) (fun i hi=>?_)
   ·obtain ⟨o,e,_⟩:=t1 p hpp
    have:=Heap.lt_size e
    exact ⟨Nat.ne_of_lt this,Nat.ne_of_lt (Nat.lt_trans this hlt)⟩
   ·obtain ⟨T,k',v,x,y,b1,b2,b3,b4,b5⟩:=t2 i hi
    exact ⟨T,k',v,x,y,by simpa using b1,b2,b3,b4,b5⟩
 ·have sz:(cR [] ps).length≤sizeLine:=by
   have:=fY ps []
   rw [List.length_nil] at this
   rw [sizeLine_eq]
   omega
  exact ⟨.ref s.heap.objs.size,_,I.laid (t':=t3) (a:=s.heap.objs.size) (o:=.dK (cR [] ps)) (fun b o e=>k3 b o (by simp) e) (Nat.le_refl _) (wD sz (beq_eq_false_iff_ne.mpr (Ne.symm (Nat.ne_of_lt I.big))) r3 d3),rfl,q _ (I.hok.fresh (Nat.le_refl _))⟩
def eg:List D→Option (List (Key×D))
 | []=>some []
 | .tup [x,y] :: r=>(match eX x,eg r with
  | some k,some l=>some ((k,y) :: l)
  | _,_=>none)
 | _=>none
theorem ma {G:Hp}:∀ {vs:List V} {ds:List D} {l:List (Key×D)},aw G vs ds→eg ds=some l→∃ us:List V,us.length=l.length∧cq G vs ((l.map (·.1)).zip us)∧aw G us (l.map (·.2))
 | _,_,_,.nil,e=>by cases e;exact ⟨[],rfl,.nil,.nil⟩
 | _,_,l,@aw.cons _ v d vs ds r t,e=>by
  unfold eg at e
  split at e
  ·cases ‹_=[]›
  ·rename_i x y r' heq
   cases heq
   split at e
   ·rename_i k l' hk hl'
    cases e
    obtain ⟨us,h1,h2,h3⟩:=ma t hl'
    cases r with
    | tup h rs=>cases rs with
     | cons ra rs=>cases rs with
      | cons rb rs=>
       cases rs
       rw [jh ra hk] at h
       exact ⟨_ :: us,by simp [h1],.cons h h2,.cons rb h3⟩
   ·cases e
  ·cases e
theorem cq.mono {H H':Hp} (k:dE H H'):∀ {vs:List V} {ps:List (Key×V)},cq H vs ps→cq H' vs ps
 | _,_,.nil=>.nil
 | _,_,.cons h t=>.cons (k _ _ h) (cq.mono k t)
def fDL (xs:List Vl) (S:Sto):R Vl:=match xs with
 | [x]=>(match (cu x S).bind eg with
  | some l=>if l.length≤100000 then .ok (.r S.length) (S++[.dct (d7 [] l)]) else .bad
  | none=>.bad)
 | _=>.bad
theorem jX {K:PySem.W.Frag} {mg:Str→Option Value}:eC K mg rDL fDL:=by
 intro WE μ S H vs xs Q hr rs p
 unfold fDL at p
 split at p
 ·obtain ⟨v,rfl,r⟩:=rs.one
  split at p
  ·rename_i l e
   split at p
   ·rename_i hl
    obtain ⟨ds,e1,e2⟩:=Option.bind_eq_some_iff.mp e
    obtain ⟨a,us,rfl,ha,rr⟩:=dC hr r e1
    obtain ⟨ws,lw,pa,rw'⟩:=ma rr e2
    obtain ⟨us3,l3,e3,r3⟩:=qA (kvs:=[]) (ws:=[]) rw' aw.nil
    refine ⟨a,us,_,rfl,ha,pa.mono fB,by rw [List.length_zip,List.length_map,lw,Nat.min_self];exact hl,fun q hq=>?_⟩
    have e4:cR [] ((l.map (·.1)).zip ws)=((d7 [] l).map (·.1)).zip us3:=e3
    rw [e4]
    exact p _ _ _ (Step.alloc hr hq (ob:=.dct (d7 [] l)) ⟨us3,l3,rfl,r3⟩) ⟨by rw [cQ],by simp⟩
   ·exact p.elim
  ·exact p.elim
 ·exact p.elim
def wK:List V→Hp→VK→Prop:=fun vs H Q=>∃ (p:Addr) (o:Obj) (kvs:List (Key×V)),vs=[.ref p]∧H p=some (.frz o (.dK kvs))∧∀ l:Addr,H l=none→Q (.ref l) (upd H l (.lst (kvs.map fun kv=>kV kv.1)))
theorem t8 {X:Cx} (hc:X.calm=true):bw X (.type "list") wK:=by
 intro pins s σ H xs us Q I r h
 obtain ⟨p,o,kvs,rfl,hH,q⟩:=h
 obtain ⟨u,rfl,rx⟩:=vals1 r
 cases rx
 have hh:=I.ok.hd hc
 obtain ⟨e1,_,_,_,_,o',es,ep,e2,_,hd,_⟩:=I.hok p _ hH
 rw [e1] at e2
 cases e2
 obtain ⟨z2,z1,lk,vs,rel,da⟩:=kZ I.hok hd hH
 have lv:=rel.length
 refine PySem.W.kdl_call (PySem.W.kdl_dict (knd:=aW X.prog X.w) (kvs:=vs) (ep:=ep) z2) hh da (by omega) fun h' tk acc c hkp hS hacc=>?_
 refine ⟨.ref s.heap.objs.size,_,I.laid (t':=tk) (a:=s.heap.objs.size) (o:=.lst (kvs.map fun kv=>kV kv.1)) hkp (Nat.le_refl _) ⟨by rw [List.length_map];exact z1,acc.toList,c,?_,by simpa using hS⟩,rfl,q _ (I.hok.fresh (Nat.le_refl _))⟩
 have all:∀ (n:Nat) (ys:List Value) (ks:List (Key×V)),ys.length=ks.length→(∀ (j:Nat) (v:Value),ys[j]?=some v→∃ k x,ks[j]?=some (k,x)∧RelV (kV k) v)→Vals (ks.map fun kv=>kV kv.1) ys:=by
  intro n ys
  induction ys with
  | nil=>intro ks hl _;cases ks with
   | nil=>exact .nil
   | cons _ _=>simp at hl
  | cons y ys ih=>
   intro ks hl hj
   cases ks with
   | nil=>simp at hl
   | cons k ks=>
    obtain ⟨k',x',e,r⟩:=hj 0 y rfl
    simp at e
    subst e
    exact .cons r (ih ks (by simpa using hl) fun j v hv=>by simpa using hj (j+1) v (by simpa using hv))
 refine all 0 _ _ (by rw [Array.length_toList,hacc.1];omega) fun j v hv=>?_
 obtain ⟨k,x,hx,hi⟩:=hacc.2 j v (by simpa using hv)
 obtain ⟨w,hw⟩:=rel.get hx
 exact ⟨k,w,hw,rM (P:=X.prog) (w:=X.w) hi⟩
def h8 (xs:List Vl) (S:Sto):R Vl:=match xs with
 | [.fd kvs]=>.ok (.d (.lst (kvs.map fun kv=>kD kv.1))) S
 | _=>.bad
theorem ux {K:PySem.W.Frag} {mg:Str→Option Value}:eC K mg wK h8:=by
 intro WE μ S H vs xs Q hr rs p
 unfold h8 at p
 split at p
 ·obtain ⟨v,rfl,r⟩:=rs.one
  rename_i kvs
  obtain ⟨a,us,o,rfl,l,h,rr⟩:=r
  refine ⟨a,o,_,rfl,(aR h).2,fun l' hl=>?_⟩
  have e:(((kvs.map (·.1)).zip us).map fun kv=>kV kv.1)=kvs.map fun kv=>kV kv.1:=by
   have h1:((kvs.map (·.1)).zip us).map Prod.fst=kvs.map (·.1):=List.map_fst_zip (by simp [l])
   have h2:=congrArg (List.map kV) h1
   rw [List.map_map,List.map_map] at h2
   exact h2
  rw [e]
  have rk:∀ ks:List (Key×D),aw (vh μ S H) (ks.map fun kv=>kV kv.1) (ks.map fun kv=>kD kv.1):=fun ks=>by
   induction ks with
   | nil=>exact .nil
   | cons k ks ih=>exact .cons (wV k.1) ih
  exact p.iX hr (rk kvs) l' hl
 ·exact p.elim
section
variable {X0:Cx} {WE:WX} {tg elt iter:Expr} {ifs:List Expr} {scope esc:Scope} {EN:List Str} {pos:Pos} {it:XI} {g:XG} {t:XT} {e:XE} {k:Nat} {fin:Nat→List D→Sto→R Vl} {C0:Addr} {s0:Shared} {H0:Hp} {fp0:List Addr}
end
mutual
theorem Rep.gu {G G':Hp} (et:∀ b xs,G b=some (.tup xs)→G' b=some (.tup xs)) (el:∀ b xs,G b=some (.lst xs)→G' b=some (.lst xs)):∀ {v:V} {d:D},Rep G v d→Rep G' v d
 | _,_,.non=>.non
 | _,_,.bl b=>.bl b
 | _,_,.int i=>.int i
 | _,_,.str x=>.str x
 | _,_,.tup h r=>.tup (et _ _ h) (aw.gu et el r)
 | _,_,.lst h r=>.lst (el _ _ h) (aw.gu et el r)
theorem aw.gu {G G':Hp} (et:∀ b xs,G b=some (.tup xs)→G' b=some (.tup xs)) (el:∀ b xs,G b=some (.lst xs)→G' b=some (.lst xs)):∀ {vs:List V} {ds:List D},aw G vs ds→aw G' vs ds
 | _,_,.nil=>.nil
 | _,_,.cons r t=>.cons (Rep.gu et el r) (aw.gu et el t)
end
section
variable {μ μ1:Nat→Addr} {S S1:Sto} {H H1:Hp}
theorem lW {n:Nat} {kvs:List (Key×D)} {a:Addr} {o:Obj} {u u':HO} (hn:n < S1.length) (ha:μ1 n=a) (hf:H1 a=some (.frz o u)) {b:Addr} {x:HO} (hx:∀ o' w,x≠.frz o' w) (h:vh μ1 S1 H1 b=some x):vh μ1 (S1.set n (.dct kvs)) (upd H1 a u') b=some x:=by
 obtain ⟨na,hb⟩:=aR h
 have ne:b≠a:=fun z=>by rw [z,hf] at hb;cases hb;exact hx _ _ rfl
 refine bJ (by rw [aB ne];exact hb) ?_
 rintro ⟨m,w,e,d,q⟩
 rcases cP hn e with ⟨rfl,rfl⟩ | ⟨_,e'⟩
 ·exact ne (by rw [← q,ha])
 ·exact na ⟨m,w,e',d,q⟩
theorem Step.xK {n:Nat} {kvs:List (Key×D)} {o:Obj} {vs:List V} (hr:HR μ S H) (e:S[n]?=some (.dct kvs)) (l:vs.length=kvs.length) (h:H (μ n)=some (.dK ((kvs.map (·.1)).zip vs))) (rs:aw (vh μ S H) vs (kvs.map (·.2)))
  (st0:Step μ S H μ (S.set n .dead) (upd H (μ n) (.frz o (.dK ((kvs.map (·.1)).zip vs))))) (na:¬Al μ (S.set n .dead) (μ n))
  (st1:Step μ (S.set n .dead) (upd H (μ n) (.frz o (.dK ((kvs.map (·.1)).zip vs)))) μ1 S1 H1) :
  H1 (μ n)=some (.frz o (.dK ((kvs.map (·.1)).zip vs)))∧Step μ S H μ1 (S1.set n (.dct kvs)) (upd H1 (μ n) (.dK ((kvs.map (·.1)).zip vs))):=by
 have hn:n < S.length:=(List.getElem?_eq_some_iff.mp e).1
 have hl:(S.set n .dead).length=S.length:=List.length_set
 have hn1:n < S1.length:=by have:=st1.le;omega
 have hμ:μ1 n=μ n:=st1.ag n (by omega)
 have hf:H1 (μ n)=some (.frz o (.dK ((kvs.map (·.1)).zip vs))):=st1.ko _ _ bC na
 have al0:Al μ S (μ n):=⟨n,_,e,by simp,rfl⟩
 have live:∀ m u,S1[m]?=some u→u≠.dead→μ1 m≠μ n:=fun m u em d q=>by
  obtain ⟨x,hx,hxl⟩:=st1.hr.get em d
  rw [q,hf] at hx
  cases hx
  cases u with
  | lst xs=>obtain ⟨_,z,_⟩:=hxl;cases z
  | dct ks=>obtain ⟨_,_,z,_⟩:=hxl;cases z
  | dead=>exact d rfl
 have et:∀ b xs,vh μ1 S1 H1 b=some (.tup xs)→vh μ1 (S1.set n (.dct kvs)) (upd H1 (μ n) (.dK ((kvs.map (·.1)).zip vs))) b=some (.tup xs):=fun b xs q=>lW hn1 hμ hf (fun _ _ z=>by cases z) q
 have el:∀ b xs,vh μ1 S1 H1 b=some (.lst xs)→vh μ1 (S1.set n (.dct kvs)) (upd H1 (μ n) (.dK ((kvs.map (·.1)).zip vs))) b=some (.lst xs):=fun b xs q=>lW hn1 hμ hf (fun _ _ z=>by cases z) q
 refine ⟨hf,⟨fun m hm=>st1.ag m (by omega),by rw [List.length_set];have:=st1.le;omega,⟨fun m u em=>?_,fun m m' u u' e1 e2 d1 d2 q=>?_⟩,fun m em=>?_,fun m u hm em d=>?_,fun b u q z=>?_,fun b u q=>?_⟩⟩
 ·rcases cP hn1 em with ⟨rfl,rfl⟩ | ⟨ne,em⟩
  ·exact ⟨vs,l,by rw [hμ];exact bC,aw.gu et el ((rs.mono st0.vis).mono st1.vis)⟩
  ·cases u with
   | lst xs=>
    obtain ⟨ws,q,r⟩:=st1.hr.ob m _ em
    exact ⟨ws,by rw [aB (live m _ em (by simp))];exact q,aw.gu et el r⟩
   | dct ks=>
    obtain ⟨ws,l',q,r⟩:=st1.hr.ob m _ em
    exact ⟨ws,l',by rw [aB (live m _ em (by simp))];exact q,aw.gu et el r⟩
   | dead=>exact True.intro
 ·rcases cP hn1 e1 with ⟨j1,_⟩ | ⟨_,k1⟩
  ·rcases cP hn1 e2 with ⟨j2,_⟩ | ⟨_,k2⟩
   ·rw [j1,j2]
   ·exact absurd (by rw [← q,j1,hμ]) (live m' u' k2 d2)
  ·rcases cP hn1 e2 with ⟨j2,_⟩ | ⟨_,k2⟩
   ·exact absurd (by rw [q,j2,hμ]) (live m u k1 d1)
   ·exact st1.hr.inj m m' u u' k1 k2 d1 d2 q
 ·have ne:m≠n:=fun z=>by rw [z,e] at em;cases em
  rw [List.getElem?_set_ne (fun z=>ne z.symm)]
  exact st1.dd m (st0.dd m em)
 ·have ne:m≠n:=by omega
  rw [List.getElem?_set_ne (fun z=>ne z.symm)] at em
  have:=st1.nw m u (by omega) em d
  rw [aB (live m u em d)] at this
  exact this
 ·have ne:b≠μ n:=fun c=>z (by rw [c];exact al0)
  rw [aB ne]
  have:=aR (st1.vis b u (st0.vis b u (bJ q z)))
  exact this.2
 ·by_cases z:b=μ n
  ·exact ⟨_,by rw [z];exact bC⟩
  ·obtain ⟨w,hw⟩:=st0.dm b u q
   obtain ⟨w2,hw2⟩:=st1.dm b w hw
   exact ⟨w2,by rw [aB z];exact hw2⟩
end
theorem Inv.xK {X:Cx} {pins:List (Addr×Obj)} {σ σ0:List (Option V)} {H H0:Hp} {s s0:Shared} {a:Addr} {o:Obj} {w:List (Key×V)} (I0:Inv X pins σ0 H0 s0) (h0:H0 a=some (.dK w)) (I:Inv X pins σ H s) (hf:H a=some (.frz o (.dK w))):Inv X pins σ (upd H a (.dK w)) s:=by
 have nn:∀ b,H b=none→b≠a:=fun b q z=>by rw [z,hf] at q;cases q
 refine ⟨I.ok,I.os,I.bare,⟨I.base.keep,I.base.slot,fun b ob q n hx=>?_,I.base.there,fun b xs q=>?_,fun b ob u q=>?_,fun b ps q=>?_⟩,I.loc,I.cell,?_,fun x c q=>?_,fun p hp=>?_,fun b ob q=>?_,I.len⟩
 ·have:=I.base.free b ob q n hx
  rw [aB (nn b this)];exact this
 ·have:=I.base.tups b xs q
  rw [aB (fun z=>by rw [z,hf] at this;cases this)];exact this
 ·have z0:=I0.base.frzs b ob u q
  rw [aB (fun z=>by rw [z,h0] at z0;cases z0)];exact I.base.frzs b ob u q
 ·obtain ⟨more,q⟩:=I.base.tbls b ps q
  exact ⟨more,by rw [aB (fun z=>by rw [z,hf] at q;cases q)];exact q⟩
 ·rw [aB (nn _ I.free)];exact I.free
 ·have:=I.freeC x c q
  rw [aB (nn _ this)];exact this
 ·obtain ⟨p1,p2,p3⟩:=I.pin p hp
  exact ⟨p1,by rw [aB (nn _ p2)];exact p2,p3⟩
 ·have own:∀ c d,H c=some (.own d)→upd H a (.dK w) c=some (.own d):=fun c d q=>by
   rw [aB (fun z=>by rw [z,hf] at q;cases q)];exact q
  have tup:∀ c xs,H c=some (.tup xs)→upd H a (.dK w) c=some (.tup xs):=fun c xs q=>by
   rw [aB (fun z=>by rw [z,hf] at q;cases q)];exact q
  by_cases z:b=a
  ·subst z
   rw [bC] at q
   cases q
   have ok:_∧bj X.prog X.w H s.heap b (.dK w):=I.hok b _ hf
   exact ok.2.fo (fun _ _ _ r=>r) (fun c r=>own c b r) tup
  ·rw [aB z] at q
   exact (I.hok b ob q).fo (fun _ _ _ r=>r) (fun c r=>own c b r) tup
def iS (i:Nat) (a:XE):XE:=fun τ S=>match τ[i]? with
 | some (some (.r n))=>(match S[n]? with
  | some (.dct kvs)=>(a (τ.set i (some (.fd kvs))) (S.set n .dead)).bind fun z S1=>(match z with
   | .d x=>.ok (.d x) (S1.set n (.dct kvs))
   | _=>.bad)
  | _=>.bad)
 | _=>.bad
theorem kF {X:Cx} {WE:WX} {a:Expr} {xa:XE} (i:Nat) (ha:RE X WE a xa):RE X WE a (iS i xa):=
 ⟨fun pins s σ H Q I ⟨μ,S,τ,hr,sr,p⟩=>by
  unfold iS at p
  split at p
  ·rename_i n et
   split at p
   ·rename_i kvs e
    obtain ⟨v0,ev,rfl,hn⟩:=sr.get i _ et
    obtain ⟨vs,l,h,rs⟩:=hr.ob _ _ e
    have ok:bj X.prog X.w H s.heap (μ n) (.dK ((kvs.map (·.1)).zip vs)):=I.hok _ _ h
    obtain ⟨z1,z2,ws,rel,o,es,ep,ho,r⟩:=ok
    obtain ⟨st0,na⟩:=Step.rX hr (.frz o (.dK ((kvs.map (·.1)).zip vs))) e (by simp)
    have I':=I.write (o:=.frz o (.dK ((kvs.map (·.1)).zip vs))) (h':=s.heap) (x:=μ n) (e:=μ n) (t':=s.toks) (by rw [h];exact True.intro) (.inl rfl) (fun b q _ hq=>hq) ⟨o,ho⟩ (show _∧_ from ⟨ho,z1,z2,ws,rel,o,es,ep,ho,r⟩)
    have rv:aL X.K X.mg μ (S.set n .dead) (upd H (μ n) (.frz o (.dK ((kvs.map (·.1)).zip vs)))) (.ref (μ n)) (.fd kvs):=⟨_,vs,o,rfl,l,bJ bC na,rs.mono st0.vis⟩
    have sr':b8 X.K X.mg μ (S.set n .dead) (upd H (μ n) (.frz o (.dK ((kvs.map (·.1)).zip vs)))) σ (τ.set i (some (.fd kvs))):=by
     have:=(sr.step st0).set i rv
     have hi:i < σ.length:=(List.getElem?_eq_some_iff.mp ev).1
     rwa [show σ.set i (some (V.ref (μ n)))=σ from by
      apply List.ext_getElem?
      intro j
      rw [List.getElem?_set]
      split
      ·rename_i q;subst q;rw [ev]
      ·rfl] at this
    refine thn (ha.h pins s σ _ (fun v H1=>∃ μ1 S1 x,Step μ (S.set n .dead) (upd H (μ n) (.frz o (.dK ((kvs.map (·.1)).zip vs)))) μ1 S1 H1∧aL X.K X.mg μ1 S1 H1 v x∧aN (aL X.K X.mg) WE μ S H (match x with
     | .d x=>.ok (.d x) (S1.set n (.dct kvs))
     | _=>.bad) Q) I' ⟨μ,_,_,st0.hr,sr',p.pU st0 fun v x S1 μ1 H1 st1 r1 p1=>⟨μ1,S1,x,st1,r1,p1⟩⟩) fun u s1 ⟨v,H1,I1,ru,μ1,S1,x,st1,r1,p1⟩=>?_
    cases x with
    | d x=>
     obtain ⟨hf,stF⟩:=Step.xK hr e l h rs st0 na st1
     have hl:(S.set n .dead).length=S.length:=List.length_set
     have hn1:n < S1.length:=by have:=st1.le;omega
     have hμ:μ1 n=μ n:=st1.ag n (by omega)
     exact ⟨v,_,Inv.xK I h I1 hf,ru,p1 v μ1 _ stF (Rep.gu (fun b xs q=>lW hn1 hμ hf (fun _ _ z=>by cases z) q) (fun b xs q=>lW hn1 hμ hf (fun _ _ z=>by cases z) q) r1)⟩
    | _=>exact p1.elim
   ·exact p.elim
  ·exact p.elim⟩
theorem lU {n d k:Nat}:HT.sIx n d (some (k:Int))=min k n:=by
 unfold HT.sIx
 first | (dsimp only;split<;>omega) | (simp;omega) | omega
theorem qR {n d:Nat}:HT.sIx n d none=d:=rfl
theorem BR {xs:List D} {k:Nat}:fU xs none (some (k:Int))=xs.take k:=by
 unfold fU
 rw [qR,lU,List.drop_zero,Nat.sub_zero]
 by_cases h:k≤xs.length
 ·rw [Nat.min_eq_left h]
 ·rw [Nat.min_eq_right (by omega),List.take_of_length_le (Nat.le_refl _),List.take_of_length_le (by omega)]
theorem C_ {xs:List D} {a b:Nat}:fU xs (some (a:Int)) (some (b:Int))=(xs.drop a).take (b - a):=by
 unfold fU
 rw [lU,lU]
 by_cases h:a≤xs.length
 ·rw [Nat.min_eq_left h]
  by_cases hb:b≤xs.length
  ·rw [Nat.min_eq_left hb]
  ·rw [Nat.min_eq_right (by omega),List.take_of_length_le (by simp),List.take_of_length_le (by simp;omega)]
 ·rw [Nat.min_eq_right (show xs.length≤a by omega),List.drop_of_length_le (Nat.le_refl _),List.drop_of_length_le (by omega)]
  simp
theorem eV (ns:List Int):D.cA (ns.map D.int)=0:=by
 induction ns with
 | nil=>rfl
 | cons n ns ih=>simp [D.cA,D.depth,ih]
theorem lB:∀ (xs ys:List Int),D.bG (xs.map D.int) (ys.map D.int)=decide (xs=ys)
 | [],[]=>by simp [D.bG]
 | [],y :: ys=>by simp [D.bG]
 | x :: xs,[]=>by simp [D.bG]
 | x :: xs,y :: ys=>by
  simp only [List.map_cons,D.bG,D.eqv,lB xs ys]
  by_cases h:x=y
  ·by_cases h2:xs=ys<;>simp [h,h2]
  ·simp [h]
theorem mH {xs:List D} {i:Nat} {z:D} (h:xs[i]?=some z):atI xs (i:Int)=some z:=by
 have hi:=(List.getElem?_eq_some_iff.mp h).1
 unfold atI
 rw [ue (by omega) (by omega)]
 show xs[((i:Nat):Int).toNat]?=_
 rw [Int.toNat_natCast];exact h
def lf2 (f:List D→D→Sto→R Vl) (xs:List D) (r:R Vl):R Vl:=r.bind fun y S2=>match y with
 | .d z=>f xs z S2
 | _=>.bad
def lf1 (f:List D→D→Sto→R Vl) (r:R Vl) (e:XE) (τ:Nv):R Vl:=r.bind fun x S1=>match x with
 | .d (.lst xs)=>lf2 f xs (e τ S1)
 | _=>.bad
theorem Fn {f:List D→D→Sto→R Vl} {o e:XE} {τ:Nv} {S:Sto}:xLf f o e τ S=lf1 f (o τ S) e τ:=af rfl
theorem ED {f:List D→D→Sto→R Vl} {xs:List D} {e:XE} {τ:Nv} {S:Sto}:lf1 f (.ok (.d (.lst xs)) S) e τ=lf2 f xs (e τ S):=af rfl
theorem Eo {f:List D→D→Sto→R Vl} {xs:List D} {z:D} {S:Sto}:lf2 f xs (.ok (.d z) S)=f xs z S:=af rfl
theorem E8 {ns:List Int} {k:Int} {S:Sto}:ow (ns.map D.int) (.int k) S=.ok (.d (.int (ns.count k:Nat))) S:=by
 unfold ow
 rw [show intsOf (ns.map D.int)=some ns by rw [mB (fun x=>x) ns];simp]
def zp1 (r:R (List Vl)):R Its:=r.bind DS
theorem EY {as:XA} {τ:Nv} {S:Sto}:iZp as τ S=zp1 (as τ S):=af rfl
theorem Fj {xs ys:List D} {S:Sto}:zp1 (.ok [.d (.tup xs),.d (.tup ys)] S)=.ok ⟨u7 xs ys,none⟩ S:=af rfl
theorem EO {xs ys:List D} {S:Sto}:zp1 (.ok [.d (.lst xs),.d (.tup ys)] S)=.ok ⟨u7 xs ys,none⟩ S:=af rfl
end L2
set_option maxHeartbeats 4000000
namespace My
open PySem L2
noncomputable def pb:XS:=(cW (yC (xSl qz (aa 0) (nM (xC (.int 12))) (nM (xC (.int 63))))) (gTu 2 (gCo (gNm 2) (gCo (gNm 3) gN0))) (aQ (xOp bU (xOp oIx (aa 1) (xOp oMod (aa 2) (xC (.int 12)))) (aa 3)) (gSb (aa 1) (xOp oMod (aa 2) (xC (.int 12))) eB)))
noncomputable def oD:XS:=(ay (aQ (xN lr (ab (xSl qz (aa 0) n4 (nM (xC (.int 12)))) aj)) (gNm 1))
 (ay pb
 (aE (xN mkM (ab (xFz (aa 1)) (ab (xC (.int 0)) (ab (xC (.int 0)) aj)))))))
noncomputable def jR:XF:=aH 1 4 oD
noncomputable def l9:XS:=(ay (xIf (aM (xOp oGe (aa 0) (xOp uG (xC (.int 10)) (xC (.int 18))))) (aE (aa 0)) aO)
 (ay (aQ (xOp oMod (xOp bU (xOp bU (xOp gU (xOp oMod (aa 0) (xC (.int 1000000007))) (xC (.int 69069))) (xOp gU (aa 1) (xC (.int 40503)))) (xC (.int 977))) (xC (.int 2147483629))) (gNm 2))
 (ay (aQ (xOp oMod (xOp bU (xOp bU (xOp gU (aa 2) (aa 2)) (xOp gU (aa 1) (xC (.int 7919)))) (xOp oMod (aa 0) (xC (.int 65537)))) (xC (.int 2147483587))) (gNm 3))
 (ay (aQ (xOp oMod (xOp bU (xOp bU (xOp gU (aa 3) (aa 3)) (xOp gU (aa 2) (xC (.int 31)))) (xC (.int 5))) (xC (.int 2147483563))) (gNm 4))
 (aE (xOp bU (xOp gU (xOp bU (xOp gU (aa 2) (xC (.int 2147483659))) (aa 3)) (xC (.int 2147483693))) (aa 4)))))))
noncomputable def e9:XF:=aH 2 5 l9
noncomputable def oB:XS:=(ay (xIf (aM (xOp oLt (xOp oIx (aa 0) (xC (.int 2))) (aa 1))) (ay (aQ (xOp oIx (aa 0) (xC (.int 1))) (gNm 2))
 (ay (aQ (xC (.int 0)) (gNm 3))
 (ay (xIf (aM (xOp oLt (aa 2) (xN bA (ab (xOp oIx (aa 0) (xC (.int 0))) aj)))) (aQ (xOp oIx (xOp oIx (aa 0) (xC (.int 0))) (aa 2)) (gNm 3)) (xIf (aM (xOp oGt (xN bA (ab (xOp oIx (aa 0) (xC (.int 0))) aj)) (xC (.int 0)))) (aQ (xOp oMod (xOp oIx (xOp oIx (aa 0) (xC (.int 0))) (xOp oMod (xOp bU (xOp gU (aa 2) (xC (.int 5))) (xC (.int 3))) (xN bA (ab (xOp oIx (aa 0) (xC (.int 0))) aj)))) (xOp bU (xOp uG (xC (.int 10)) (xC (.int 17))) (aa 2))) (gNm 3)) aO))
 (ay (aQ (xOp bU (aa 2) (xC (.int 1))) (gSb (aa 0) (xC (.int 1)) eB))
 (aQ (az e9 (ab (aa 3) (ab (aa 2) aj))) (gSb (aa 0) (xC (.int 2)) eB)))))) aO)
 (ay (aQ (xOp oMod (xOp oIx (aa 0) (xC (.int 2))) (aa 1)) (gNm 4))
 (ay (aQ (xOp oDiv (xOp oIx (aa 0) (xC (.int 2))) (aa 1)) (gSb (aa 0) (xC (.int 2)) eB))
 (aE (aa 4)))))
noncomputable def a_:XF:=aH 2 5 oB
noncomputable def me:XS:=(cW (lj (ab (xOp bU (xC (.int 1)) (az a_ (ab (aa 0) (ab (aa 1) aj)))) aj)) (gNm 4) (ay (aQ (xOp bU (aa 2) (az a_ (ab (aa 0) (ab (xC (.int 5)) aj)))) (gNm 5))
 (ay (xIf (aM (xOp oEq (az a_ (ab (aa 0) (ab (xC (.int 6)) aj))) (xC (.int 0)))) (aQ (xOp qc (az a_ (ab (aa 0) (ab (xC (.int 19)) aj))) (xC (.int 9))) (gNm 5)) aO)
 (xIf (aM (xOp ee (aa 5) (aa 3))) (ed (xLm kT (aa 3) (aa 5))) aO))))
noncomputable def mr:XS:=(ay (aQ (xN mkM aj) (gNm 3))
 (ay me
 (aE (xN cS (ab (xN gr (ab (aa 3) aj)) aj)))))
noncomputable def gj:XF:=aH 3 6 mr
noncomputable def nu:XE:=(xLC (lj (ab (xOp bU (xC (.int 1)) (az a_ (ab (aa 0) (ab (aa 1) aj)))) aj)) 1 (gNm 0) (fun _ S=>.ok true S) (az gj (ab (aa 1) (ab (aa 3) (ab (aa 4) aj)))))
noncomputable def nG:XS:=(ay (aQ (xOp qc (az a_ (ab (aa 0) (ab (xC (.int 15)) aj))) (xC (.int 9))) (gNm 3))
 (aE (xN cS (ab nu aj))))
noncomputable def iO:XF:=aH 3 4 nG
noncomputable def oW:XS:=(ay (aQ (xC (.int 0)) (gSb (aa 0) (xC (.int 2)) eB))
 (aE (aa 0)))
noncomputable def jU:XF:=aH 1 1 oW
noncomputable def eR:XE:=(xLC (lj (ab (aa 3) aj)) 1 (gNm 0) (fun _ S=>.ok true S) (xLm qv (aa 3) (az a_ (ab (aa 1) (ab (xN bA (ab (aa 3) aj)) aj)))))
noncomputable def iD:XS:=(ay (aQ (xN (lrg zj) (ab (xN bA (ab (aa 1) aj)) aj)) (gNm 2))
 (ay (aQ (xOp bU (xC (.int 1)) (az a_ (ab (aa 0) (ab (xN bA (ab (aa 2) aj)) aj)))) (gNm 3))
 (ay (xIf (aM (xOp oGt (az a_ (ab (aa 0) (ab (xC (.int 3)) aj))) (xC (.int 0)))) (aQ (xN bA (ab (aa 2) aj)) (gNm 3)) aO)
 (aE (xN cS (ab eR aj))))))
noncomputable def dJ:XF:=aH 2 4 iD
noncomputable def iG:XS:=(ay (xIf (aM (xOp oEq (az a_ (ab (aa 0) (ab (xC (.int 8)) aj))) (xC (.int 0)))) (aE (xOp qc (az a_ (ab (aa 0) (ab (xC (.int 19)) aj))) (xC (.int 9)))) aO)
 (ay (aQ (xOp oIx (aa 1) (az a_ (ab (aa 0) (ab (xN bA (ab (aa 1) aj)) aj)))) (gNm 2))
 (ay (aQ (xOp bU (xOp oIx (aa 2) (az a_ (ab (aa 0) (ab (xN bA (ab (aa 2) aj)) aj)))) (xOp oIx (xN mkL (ab (xC (.int 0)) (ab (xC (.int 0)) (ab (xC (.int 0)) (ab (xC (.int 1)) (ab (xUn ky (xC (.int 1))) aj)))))) (az a_ (ab (aa 0) (ab (xC (.int 5)) aj))))) (gNm 3))
 (aE (xN ub (ab (xUn ky (xC (.int 9))) (ab (xN rq (ab (xC (.int 9)) (ab (aa 3) aj))) aj)))))))
noncomputable def dM:XF:=aH 2 4 iG
noncomputable def mj:XS:=(cW (lj (ab (az a_ (ab (aa 0) (ab (xC (.int 5)) aj))) aj)) (gNm 3) (ay (aQ (az dM (ab (aa 0) (ab (aa 1) aj))) (gNm 4))
 (xIf (aM (xOp ee (aa 4) (aa 2))) (ed (xLm kT (aa 2) (aa 4))) aO)))
noncomputable def mf:XS:=(cW (bz (xN gr (ab (aa 2) aj))) (gNm 4) (ay (aQ (xOp oIx (xN mkL (ab (xC (.int 0)) (ab (xC (.int 0)) (ab (xC (.int 1)) (ab (xC (.int 1)) (ab (xC (.int 2)) (ab (az a_ (ab (aa 0) (ab (xC (.int 5)) aj))) aj))))))) (az a_ (ab (aa 0) (ab (xC (.int 6)) aj)))) (gNm 6))
 (ed (xLm kT (aa 5) (xN mkT (ab (aa 4) (ab (aa 6) (ab (xN rq (ab (xC (.int 4)) (ab (xOp bU (aa 6) (xOp oIx (xN mkL (ab (xC (.int 0)) (ab (xC (.int 0)) (ab (xC (.int 1)) (ab (xC (.int 4)) (ab (az a_ (ab (aa 0) (ab (xC (.int 5)) aj))) aj)))))) (az a_ (ab (aa 0) (ab (xC (.int 5)) aj))))) aj))) aj))))))))
noncomputable def mh:XS:=(ay (aQ (xN mkM aj) (gNm 2))
 (ay mj
 (ay (aQ (xN mkM aj) (gNm 5))
 (ay mf
 (aE (xN cS (ab (aa 5) aj)))))))
noncomputable def gx:XF:=aH 2 7 mh
noncomputable def kL:XS:=(ay (aQ (az dJ (ab (aa 0) (ab (aa 1) aj))) (gNm 3))
 (ay (xIf (aM (xOp oEq (aa 2) (xC (.int 0)))) cK aO)
 (ay (xIf (aM (xOp oEq (aa 2) (xC (.int 1)))) (aE (xN mkT (ab (xC (.str "many")) (ab (aa 3) (ab (az gx (ab (aa 0) (ab (aa 1) aj))) aj))))) aO)
 cK)))
noncomputable def fD:XF:=aH 3 11 kL
noncomputable def j_:XE:=(xLC (bz (aa 2)) 1 (gNm 0) (fun _ S=>.ok true S) (xOp bU (aa 5) (xN mkT (ab (aa 0) aj))))
noncomputable def fV:XS:=(cW (bz (aa 1)) (gNm 4) (ed (xLm l6 (aa 3) j_)))
noncomputable def j6:XS:=(cW (bz (aa 0)) (gNm 2) (ay (aQ (xN mkM aj) (gNm 3))
 (ay fV
 (aQ (xFz (aa 3)) (gNm 1)))))
noncomputable def kr:XS:=(ay (aQ (xN mkL (ab (xN mkT aj) aj)) (gNm 1))
 (ay j6
 (aE (aa 1))))
noncomputable def eP:XF:=aH 1 5 kr
noncomputable def kO:XE:=(xLC (bz (xOp oIx (aa 0) (xC (.int 1)))) 1 (gNm 0) (fun _ S=>.ok true S) (xOp oIx (aa 2) (aa 0)))
noncomputable def kP:XS:=(cW (bz (xOp oIx (aa 0) (xC (.int 2)))) (gTu 3 (gCo (gNm 3) (gCo (gNm 4) (gCo (gNm 5) gN0)))) (xIf (xOr (aM (xOp oLt (xLf ow (aa 2) (aa 3)) (aa 4))) (aM (xOp oGt (xLf ow (aa 2) (aa 3)) (aa 5)))) (aE (xC (.bl false))) aO))
noncomputable def k8:XS:=(ay (aQ kO (gNm 2))
 (ay (xIf (aM (xOp oEq (xOp oIx (aa 0) (xC (.int 0))) (xC (.str "unlike")))) cK aO)
 (ay (xIf (aM (xOp oEq (xOp oIx (aa 0) (xC (.int 0))) (xC (.str "many")))) (ay kP
 (aE (xC (.bl true)))) aO)
 cK)))
noncomputable def fF:XF:=aH 2 11 k8
noncomputable def oF:XE:=(xLC (bz (aa 2)) 1 (gNm 0) (bW (az fF (ab (aa 4) (ab (aa 0) aj)))) (aa 0))
noncomputable def pd:XS:=(cW (bz (aa 1)) (gNm 3) (aQ oF (gNm 2)))
noncomputable def oN:XS:=(ay (aQ (az eP (ab (aa 0) aj)) (gNm 2))
 (ay pd
 (aE (aa 2))))
noncomputable def jP:XF:=aH 2 4 oN
noncomputable def pf:XS:=(ay (xIf (aM (xOp oIs (aa 1) (xC .non))) (aE (xOp oIs (aa 0) (xC .non))) aO)
 (ay (xIf (xOr (bW (xUn (cC "bool") (aa 1))) (bW (xUn (cC "bool") (aa 0)))) (aE (bT (xUn (cC "bool") (aa 1)) (bT (xUn (cC "bool") (aa 0)) (xOp oEq (aa 0) (aa 1))))) aO)
 (ay (xIf (bW (xUn (cC "int") (aa 1))) (aE (bT (xUn (cC "int") (aa 0)) (xOp oEq (aa 0) (aa 1)))) aO)
 (ay (xIf (bW (xUn (cC "str") (aa 1))) (aE (bT (xUn (cC "str") (aa 0)) (xOp oEq (aa 0) (aa 1)))) aO)
 cK))))
noncomputable def gY:XF:=aH 2 2 pf
noncomputable def kh:XS:=(aE (bT (xUn (cC "int") (aa 0)) (pY (xUn (cC "bool") (aa 0)))))
noncomputable def eJ:XF:=aH 1 1 kh
noncomputable def iL:XE:=(xLC (bz (aa 0)) 1 (gNm 0) (dr (bW (az eJ (ab (aa 0) aj)))) (xC (.int 1)))
noncomputable def iC:XS:=(ay (xIf (xOr (dr (bW (xUn (cC "tuple") (aa 0)))) (xOr (aM (xOp oEq (aa 0) (xN mkT aj))) (aM (xOp oNe iL (xN mkL aj))))) (aE (xC (.bl false))) aO)
 (aE (xOp oEq (xN l7 (ab (aa 0) aj)) (xUn oSS (aa 0)))))
noncomputable def dP:XF:=aH 1 1 iC
noncomputable def ez:XE:=(xLC (bz (xOp oIx (aa 1) (xC (.int 2)))) 1 (gNm 0) (fun _ S=>.ok true S) (xN mkT (ab (xOp oIx (aa 0) (xC (.int 0))) (ab (aa 0) aj))))
noncomputable def ip:XE:=(xLC (bz (xOp oIx (aa 2) (xC (.int 1)))) 1 (gNm 0) (aM (xOp ee (aa 0) (xOp oIx (aa 2) (xC (.int 1))))) (xC (.int 1)))
noncomputable def ij:XE:=(xLC (bz (xOp oIx (aa 0) (aa 5))) 1 (gNm 0) (aM (xOp ee (aa 0) (aa 5))) (aa 0))
noncomputable def eo:XS:=(cW (bz (xOp oIx (aa 2) (xC (.int 1)))) (gNm 5) (ed (xLm l6 (aa 4) ij)))
noncomputable def ib:XE:=(xLC (bz (aa 4)) 1 (gNm 0) (aM (xOp jV (aa 0) (aa 4))) (xC (.int 1)))
noncomputable def ig:XE:=(xLC (bz (aa 4)) 1 (gNm 0) (fun _ S=>.ok true S) (xOp oIx (xOp oDx (aa 4) (aa 0)) (xC (.int 2))))
noncomputable def ik:XE:=(xLC (bz (xOp oIx (aa 2) (xC (.int 1)))) 1 (gNm 0) (aM (xOp jV (aa 0) (aa 4))) (xC (.int 1)))
noncomputable def gR:XE:=(xLC (bz (xOp oIx (aa 0) (aa 5))) 1 (gNm 0) (aM (xOp oIn (aa 0) (xOp oIx (aa 3) (xC (.int 1))))) (aa 0))
noncomputable def gQ:XS:=(cW (bz (xOp oIx (aa 1) (xC (.int 1)))) (gNm 5) (aQ (xOp bU (aa 6) (xN uu (ab (xOp oNe gR (xN mkL aj)) aj))) (gNm 6)))
noncomputable def f7:XE:=(xLC (bz (xOp oIx (aa 2) (xC (.int 1)))) 1 (gNm 0) (fun _ S=>.ok true S) (xOp oIx (xOp oDx (aa 4) (aa 0)) (xC (.int 1))))
noncomputable def eh:XS:=(ay (xIf (dr (bW (az dP (ab (xOp oIx (aa 2) (xC (.int 1))) aj)))) (aE (xC (.bl false))) aO)
 (ay (aQ (xFz (xN fDL (ab ez aj))) (gNm 3))
 (ay (xIf (aM (xOp oEq (xOp oIx (aa 2) (xC (.int 0))) (xC (.str "names")))) (ay (xIf (aM (xOp oNe ip (xN mkL aj))) (aE (xC (.bl false))) aO)
 (ay (aQ (xN mkM aj) (gNm 4))
 (ay eo
 (ay (xIf (aM (xOp oNe ib (xN mkL aj))) (aE (xC (.bl false))) aO)
 (aE (xOp oLt (xN nV (ab ig aj)) (xN bA (ab (xOp oIx (aa 2) (xC (.int 1))) aj)))))))) aO)
 (ay (xIf (aM (xOp oNe ik (xN mkL aj))) (aE (xC (.bl false))) aO)
 (ay (aQ (xC (.int 0)) (gNm 6))
 (ay gQ
 (aE (xOp oGt (xN nV (ab f7 aj)) (aa 6)))))))))
noncomputable def bZ:XF:=aH 3 7 eh
noncomputable def j3:XS:=(ay (xIf (xOr (dr (bW (xUn (cC "tuple") (aa 3)))) (aM (xOp oNe (xN bA (ab (aa 3) aj)) (xC (.int 2))))) (aE (xC (.bl false))) aO)
 (ay (xIf (aM (xOp oNe (aa 2) (xN mkL aj))) (aE (bT (az gY (ab (xOp oIx (aa 3) (xC (.int 0))) (ab (xC (.str "can")) aj))) (bT (xUn (cC "tuple") (xOp oIx (aa 3) (xC (.int 1)))) (xOp oIn (xOp oIx (aa 3) (xC (.int 1))) (aa 2))))) aO)
 (ay (xIf (xOr (dr (bW (az gY (ab (xOp oIx (aa 3) (xC (.int 0))) (ab (xC (.str "no")) aj))))) (xOr (dr (bW (xUn (cC "tuple") (xOp oIx (aa 3) (xC (.int 1)))))) (aM (xOp oNe (xN bA (ab (xOp oIx (aa 3) (xC (.int 1))) aj)) (xC (.int 2)))))) (aE (xC (.bl false))) aO)
 (aE (bT (xOp oIn (xOp oIx (xOp oIx (aa 3) (xC (.int 1))) (xC (.int 0))) (xN mkT (ab (xC (.str "names")) (ab (xC (.str "worths")) aj)))) (az bZ (ab (aa 0) (ab (aa 1) (ab (xOp oIx (aa 3) (xC (.int 1))) aj)))))))))
noncomputable def fQ:XF:=aH 4 4 j3
noncomputable def md:XS:=(aE (bT (xUn (cC "int") (aa 0)) (pY (xUn (cC "bool") (aa 0)))))
noncomputable def gB:XF:=aH 1 1 md
noncomputable def lA:XS:=(aE (bT (az gB (ab (aa 0) aj)) (fO oLe oLe (aa 1) (aa 0) (aa 2))))
noncomputable def cZ:XF:=aH 3 3 lA
noncomputable def kc:XE:=(xLC (bz (aa 0)) 1 (gNm 0) (fun _ S=>.ok true S) (az cZ (ab (aa 0) (ab (aa 2) (ab (aa 3) aj)))))
noncomputable def j9:XS:=(aE (bT (xUn (cC "tuple") (aa 0)) (xN ix (ab kc aj))))
noncomputable def dD:XF:=aH 3 3 j9
noncomputable def dh:XE:=(xLC (yo (ab (xC (.int 1)) (ab (xN bA (ab (aa 0) aj)) aj))) 1 (gNm 0) (fun _ S=>.ok true S) (xOp oLt (xOp oIx (aa 1) (xOp qc (aa 0) (xC (.int 1)))) (xOp oIx (aa 1) (aa 0))))
noncomputable def fX:XS:=(aE (xN ix (ab dh aj)))
noncomputable def cJ:XF:=aH 1 1 fX
noncomputable def kd:XS:=(aE (bT (az dD (ab (aa 0) (ab (xUn ky (xC (.int 9))) (ab (xC (.int 9)) aj)))) (bT (fO oLe oLe (xC (.int 1)) (xN bA (ab (aa 0) aj)) (xC (.int 4))) (az cJ (ab (aa 0) aj)))))
noncomputable def eU:XF:=aH 1 1 kd
noncomputable def mi:XE:=(xLC (bz (aa 0)) 1 (gNm 0) (fun _ S=>.ok true S) (az eU (ab (aa 0) aj)))
noncomputable def mn:XS:=(ay (xIf (xOr (dr (bW (xUn (cC "tuple") (aa 0)))) (dr (aM (fO oLe oLe (xC (.int 1)) (xN bA (ab (aa 0) aj)) (xC (.int 4)))))) (aE (xC (.bl false))) aO)
 (aE (xN ix (ab mi aj))))
noncomputable def gm:XF:=aH 1 1 mn
noncomputable def km:XS:=(xIf (dr (bW (az gm (ab (aa 0) aj)))) cK aO)
noncomputable def e_:XF:=aH 1 1 km
noncomputable def ki:XS:=(aE (xOp oEq (xUn oLS (aa 0)) (xN bA (ab (aa 0) aj))))
noncomputable def eK:XF:=aH 1 1 ki
noncomputable def lC:XS:=(aE (bT (az dD (ab (aa 0) (ab (xC (.int 0)) (ab (xC (.int 3)) aj)))) (bT (fO oLe oLe (xC (.int 1)) (xN bA (ab (aa 0) aj)) (xC (.int 4))) (az eK (ab (aa 0) aj)))))
noncomputable def fz:XF:=aH 1 1 lC
noncomputable def nB:XS:=(aE (bT (az cZ (ab (aa 0) (ab (aa 2) (ab (aa 3) aj)))) (bT (az cZ (ab (aa 1) (ab (aa 2) (ab (aa 3) aj)))) (xOp oLe (aa 0) (aa 1)))))
noncomputable def iN:XF:=aH 4 4 nB
noncomputable def mx:XS:=(ay (xIf (xOr (dr (bW (xUn (cC "tuple") (aa 0)))) (aM (xOp oNe (xN bA (ab (aa 0) aj)) (xC (.int 3))))) (aE (xC (.bl false))) aO)
 (aE (bT (az cZ (ab (xOp oIx (aa 0) (xC (.int 0))) (ab (xUn ky (xC (.int 9))) (ab (xC (.int 9)) aj)))) (az iN (ab (xOp oIx (aa 0) (xC (.int 1))) (ab (xOp oIx (aa 0) (xC (.int 2))) (ab (xC (.int 0)) (ab (xC (.int 4)) aj))))))))
noncomputable def gq:XF:=aH 1 1 mx
noncomputable def kq:XE:=(xLC (bz (aa 0)) 1 (gNm 0) (fun _ S=>.ok true S) (az gq (ab (aa 0) aj)))
noncomputable def j7:XE:=(xLC (bz (aa 0)) 1 (gNm 0) (fun _ S=>.ok true S) (xOp oIx (aa 0) (xC (.int 0))))
noncomputable def ku:XS:=(ay (xIf (xOr (dr (bW (xUn (cC "tuple") (aa 0)))) (aM (xOp oGt (xN bA (ab (aa 0) aj)) (xC (.int 4))))) (aE (xC (.bl false))) aO)
 (aE (bT (xN ix (ab kq aj)) (az cJ (ab j7 aj)))))
noncomputable def eT:XF:=aH 1 1 ku
noncomputable def nI:XS:=(aE (bT (xOp oEq (xN bA (ab (aa 0) aj)) (xC (.int 3))) (az eT (ab (xOp oIx (aa 0) (xC (.int 2))) aj))))
noncomputable def iE:XF:=aH 1 1 nI
noncomputable def f9:XS:=(ay (aQ (xOp oIx (aa 0) (xC (.int 0))) (gNm 1))
 (ay (xIf (aM (xOp oEq (aa 1) (xC (.str "unlike")))) cK aO)
 (ay (xIf (aM (xOp oEq (aa 1) (xC (.str "many")))) (aE (az iE (ab (aa 0) aj))) aO)
 cK)))
noncomputable def de:XF:=aH 1 2 f9
noncomputable def mX:XS:=(ay (xIf (xOr (dr (bW (xUn (cC "tuple") (aa 0)))) (aM (xOp oLt (xN bA (ab (aa 0) aj)) (xC (.int 2))))) (aE (xC (.bl false))) aO)
 (aE (bT (az fz (ab (xOp oIx (aa 0) (xC (.int 1))) aj)) (az de (ab (aa 0) aj)))))
noncomputable def iJ:XF:=aH 1 1 mX
noncomputable def j5:XE:=(xLC (bz (xOp oIx (aa 1) (xC (.int 1)))) 1 (gNm 0) (fun _ S=>.ok true S) (xOp oLt (aa 0) (xN bA (ab (aa 1) aj))))
noncomputable def ka:XS:=(aE (bT (az iJ (ab (aa 1) aj)) (xN ix (ab j5 aj))))
noncomputable def eO:XF:=aH 2 2 ka
noncomputable def kW:XS:=(xIf (dr (bW (az eO (ab (aa 0) (ab (aa 1) aj))))) cK aO)
noncomputable def fu:XF:=aH 3 3 kW
noncomputable def tw:XS:=(ay (ed (az e_ (ab (aa 0) aj)))
 (ed (az fu (ab (aa 0) (ab (aa 1) (ab (xC (.int 0)) aj))))))
noncomputable def nc:XF:=aH 2 2 tw
noncomputable def kN:XS:=(ay (ed (az nc (ab (aa 0) (ab (aa 1) aj))))
 (xIf (aM (xOp oNe (xOp oIx (aa 1) (xC (.int 0))) (aa 2))) cK aO))
noncomputable def fA:XF:=aH 3 3 kN
noncomputable def ir:XE:=(xLC (mC (aa 0)) 1 (gNm 0) (aM (xOp oEq (xOp oDx (aa 1) (aa 0)) (aa 2))) (aa 0))
noncomputable def kU:XS:=(aE (iS 0 ir))
noncomputable def cF:XF:=aH 2 2 kU
noncomputable def l_:XS:=(aE (yM (xOp jV (aa 0) (aa 1)) (xOp oLt (xN bA (ab (az cF (ab (aa 2) (ab (aa 0) aj))) aj)) (xOp oDx (aa 1) (aa 0)))))
noncomputable def gA:XF:=aH 3 3 l_
noncomputable def kz (s_make_room s_find_seat:XF):XS:=(cW (bz (aa 5)) (gNm 6) (xIf (bW (az s_find_seat (ab (aa 0) (ab (aa 6) (ab (aa 2) (ab (aa 3) (ab (aa 4) aj))))))) (aE (xC (.bl true))) aO))
noncomputable def kY (s_make_room s_find_seat:XF):XS:=(ay (aQ (az cF (ab (aa 3) (ab (aa 1) aj))) (gNm 5))
 (ay (kz s_make_room s_find_seat)
 (aE (xC (.bl false)))))
noncomputable def kM (s_make_room s_find_seat:XF):XS:=(cW (bz (xOp oIx (aa 0) (aa 1))) (gNm 5) (ay (xIf (aM (xOp mJ (aa 5) (aa 4))) p6 aO)
 (ay (fw (aa 4) (aa 5) (xC (.bl true)))
 (xIf (xOr (bW (az gA (ab (aa 5) (ab (aa 2) (ab (aa 3) aj))))) (bW (az s_make_room (ab (aa 0) (ab (aa 5) (ab (aa 2) (ab (aa 3) (ab (aa 4) aj)))))))) (ay (fw (aa 3) (aa 1) (aa 5))
 (aE (xC (.bl true)))) aO))))
noncomputable def ly (s_make_room s_find_seat:XF):XS:=(ay (kM s_make_room s_find_seat)
 (aE (xC (.bl false))))
mutual
noncomputable def cf:Nat→XF
 | 0=>aH 5 7 cK
 | n+1=>aH 5 7 (kY (cf n) (bF n))
noncomputable def bF:Nat→XF
 | 0=>aH 5 6 cK
 | n+1=>aH 5 6 (ly (cf n) (bF n))
end
noncomputable def iT:XE:=(xLC (mC (aa 3)) 1 (gNm 0) (aM (xOp mJ (xOp oDx (aa 4) (aa 0)) (aa 6))) (aa 0))
noncomputable def mw:XS:=(cW (bz (aa 1)) (gNm 4) (ay (aQ gh (gNm 5))
 (xIf (dr (bW (az (bF 20) (ab (aa 0) (ab (aa 4) (ab (aa 2) (ab (aa 3) (ab (aa 5) aj)))))))) (aE (xN cS (ab (xN gr (ab (xOp bU (xN mkL (ab (aa 4) aj)) (iS 3 iT)) aj)) aj))) aO)))
noncomputable def mv:XS:=(ay mw
 (aE (xN mkT aj)))
noncomputable def eM:XF:=aH 4 6 mv
noncomputable def iZ:XE:=(xLC (bz (aa 0)) 3 (gTu 3 (gCo (gNm 0) (gCo (gNm 1) (gCo (gNm 2) gN0)))) (fun _ S=>.ok true S) (xN mkT (ab (aa 0) (ab (aa 2) aj))))
noncomputable def mq:XS:=(aE (xFz (xN fDL (ab iZ aj))))
noncomputable def gC:XF:=aH 1 1 mq
noncomputable def kx:XS:=(aE (xOp oGt (xN bA (ab (az cF (ab (aa 2) (ab (aa 0) aj))) aj)) (lO (aa 1) (aa 0) (xC (.int 0)))))
noncomputable def fE:XF:=aH 3 3 kx
noncomputable def kK (s_bring_one:XF):XS:=(cW (bz (iS 3 (xN h8 (ab (aa 3) aj)))) (gNm 5) (ay (aQ (xOp oDx (aa 3) (aa 5)) (gNm 6))
 (ay (xIf (xOr (aM (xOp ee (aa 1) (xOp oIx (aa 0) (aa 5)))) (aM (xOp mJ (aa 6) (aa 4)))) p6 aO)
 (xIf (xOr (bW (az fE (ab (aa 6) (ab (aa 2) (ab (aa 3) aj))))) (bW (az s_bring_one (ab (aa 0) (ab (aa 6) (ab (aa 2) (ab (aa 3) (ab (aa 4) aj)))))))) (ay (fw (aa 3) (aa 5) (aa 1))
 (aE (xC (.bl true)))) aO))))
noncomputable def kA (s_bring_one:XF):XS:=(ay (fw (aa 4) (aa 1) (xC (.bl true)))
 (ay (kK s_bring_one)
 (aE (xC (.bl false)))))
noncomputable def cG:Nat→XF
 | 0=>aH 5 7 cK
 | n+1=>aH 5 7 (kA (cG n))
noncomputable def gE:XS:=(c7 1000 (aM (xOp oLt (xN bA (ab (az cF (ab (aa 2) (ab (aa 3) aj))) aj)) (xOp oDx (aa 1) (aa 3)))) (ay (aQ gh (gNm 4))
 (xIf (dr (bW (az (cG 20) (ab (aa 0) (ab (aa 3) (ab (aa 1) (ab (aa 2) (ab (aa 4) aj)))))))) (aE (xN cS (ab (iS 4 (xN jg (ab (aa 4) aj))) aj))) aO)))
noncomputable def mZ:XS:=(cW (mC (aa 1)) (gNm 3) gE)
noncomputable def ny:XS:=(ay mZ
 (aE (xN mkT aj)))
noncomputable def fH:XF:=aH 3 5 ny
noncomputable def jz:XE:=(xLC (bz (aa 0)) 3 (gTu 3 (gCo (gNm 0) (gCo (gNm 1) (gCo (gNm 2) gN0)))) (fun _ S=>.ok true S) (xN mkT (ab (aa 0) (ab (aa 1) aj))))
noncomputable def m6:XS:=(aE (xFz (xN fDL (ab jz aj))))
noncomputable def iH:XF:=aH 1 1 m6
noncomputable def eN:XE:=(xLC (xG (aa 0)) 2 (gTu 2 (gCo (gNm 0) (gCo (gNm 1) gN0))) (fun _ S=>.ok true S) (lO (aa 3) (aa 0) (xOp oIx (aa 1) (xC (.int 0)))))
noncomputable def iF:XS:=(aE (xN cS (ab eN aj)))
noncomputable def cH:XF:=aH 2 2 iF
noncomputable def mm:XS:=(ay (ed (az fA (ab (aa 0) (ab (aa 1) (ab (xC (.str "many")) aj)))))
 (ay (aQ gh (gNm 2))
 (ay (aQ (az eM (ab (aa 0) (ab (xOp oIx (aa 1) (xC (.int 1))) (ab (az gC (ab (xOp oIx (aa 1) (xC (.int 2))) aj)) (ab (aa 2) aj))))) (gNm 3))
 (ay (xIf (bW (aa 3)) (aE (xN mkT (ab (xC (.str "no")) (ab (xN mkT (ab (xC (.str "names")) (ab (aa 3) aj))) aj)))) aO)
 (ay (aQ (az fH (ab (aa 0) (ab (az iH (ab (xOp oIx (aa 1) (xC (.int 2))) aj)) (ab (aa 2) aj)))) (gNm 4))
 (ay (xIf (bW (aa 4)) (aE (xN mkT (ab (xC (.str "no")) (ab (xN mkT (ab (xC (.str "worths")) (ab (aa 4) aj))) aj)))) aO)
 (aE (xN mkT (ab (xC (.str "can")) (ab (iS 2 (az cH (ab (aa 0) (ab (aa 2) aj)))) aj))))))))))
noncomputable def dQ:XF:=aH 2 5 mm
noncomputable def rB:XE:=(xLC (lj (ab (xC (.int 3)) aj)) 1 (gNm 0) (fun _ S=>.ok true S) (az fD (ab (aa 2) (ab (aa 4) (ab (xC (.int 1)) aj)))))
noncomputable def qw:XS:=(cW (bz (xOp bU (aa 4) (xOp p8 (aa 4) (xUn ky (xC (.int 1)))))) (gNm 5) (ay (aQ (az jP (ab (aa 3) (ab (xN mkL (ab (aa 5) aj)) aj))) (gNm 6))
 (xIf (dr (bW (az fQ (ab (aa 3) (ab (aa 5) (ab (aa 6) (ab (az dQ (ab (aa 3) (ab (aa 5) aj))) aj))))))) (aE (xC (.bl false))) aO)))
noncomputable def vJ:XS:=(cW (lj (ab (xC (.int 3)) aj)) (gNm 2) (ay (aQ (az iO (ab (az jU (ab (aa 1) aj)) (ab (xC (.int 4)) (ab (xC (.int 4)) aj)))) (gNm 3))
 (ay (aQ rB (gNm 4))
 qw)))
noncomputable def wH:XS:=(ay (aQ (az jR (ab (aa 0) aj)) (gNm 1))
 (ay vJ
 (aE (xC (.bl true)))))
noncomputable def uc:XF:=aH 1 7 wH
local macro_rules | `(tactic| walk_at "mx") => `(tactic| simp only [Fn, ED, Eo, E8, BL, EY, Fj, EO, zS, zP, DM, FU, FL, Cy, DL, F3, Gh, yE, Ft, Eu, Dk, Dp, Bm, Gr, Dg, Gg, Gk, F_, Fe, EB, CZ, DV, Ec, FY, EH, FW, Cz, DN, Bd, By, Bc, BQ, BZ, D5, Bf, Bs, DR, Dh, C1, vO, tH, zE, zD, GI, GP, tM, B7, zA, Gf, ES, BF, vT, z7, Gy, EW, FC, FG, E7, Ff, FR, EF, Fo, E6, oj, h_, jN, Es, Gb, Gi, BA, F6, Cc, Fw, AW, AX, yv, zW, Co, qX, ia, pP, nq, m8, Ep, F0, Ga, F9, zB, z5, zp, t7, qJ, uA, vG, w4, Dx, De, EA, DA, Dv, C9, Gj, GD, Di, Em, EX, F5, F1, EV, Fg, E5, F7, CY, Dt, BD, CU, xQ, yl, yh, xO, EM, nO, Eg, CO, D3, C4, Cs, Ax, Ao, FP, Ge, Fc, F2, Fx, Gn, Fp, GJ, Gv, GZ, G4, Cg, B6, Dw, Cr, D9, B2, C7, Dj, Eb, B_, AH, Bz, AJ, BH, Cw, El, Ej, Cf, Dn, D4, Dz, DU, DD, Aj, BB, Ag, Dc, CC, CG, Dd, rn, yX, zi, yU, yV, yz, zY, xx, E9, D6,
 List.getElem?_cons_zero,List.getElem?_cons_succ,List.set_cons_zero,List.set_cons_succ,List.map_cons,List.map_nil,List.length_cons,List.length_nil,List.cons_append,List.nil_append,List.replicate_succ,List.replicate_zero,List.append_nil,Nat.reduceSub,Nat.reduceAdd,Nat.zero_add,Bool.not_true,Bool.not_false,decide_true,decide_false,beq_self_eq_true,if_true,if_false,↓reduceIte,Int.reduceNeg])
local macro_rules | `(tactic| walk_at "mo") => `(tactic| first
  | rw [zG (by first | decide | omega)]
  | rw [Ew (by first | exact EJ (by decide) (by decide) | exact Or.inl ⟨by omega,by omega⟩ | exact Or.inr ⟨by omega,by omega⟩)]
  | rw [EC ⟨by first | decide | omega,by first | decide | omega⟩]
  | rw [uh ⟨by decide,by decide,by decide⟩]
  | rw [w6 (by first | (simp only [List.length_cons,List.length_nil,List.length_map];omega) | (simp;omega))]
  | rw [rp (by first | (simp only [List.length_cons,List.length_nil,List.length_map];omega) | (simp;omega))]
  | rw [Ey (by omega)]
  | rw [u4 (by omega)])
local macro_rules | `(tactic| walk_at "mm") => `(tactic| repeat (first | walk_at "mx" | walk_at "mo"))
def du (cells:List Int) (at' pool:Int):Ob:=.lst [.lst (cells.map D.int),.int at',.int pool]
def Pen (o:Ob):Prop:=∃ cells at' pool,o=du cells at' pool∧cells.length≤63∧0≤at'∧0≤pool
theorem aJ {S:Sto} {x:D} {τ:Nv}:leave S (.ok (.rt (.d x),τ) S)=.ok (.d x) S:=by rw [jI,il,List.take_length]
theorem fm {S R:Sto} {x:D} {τ:Nv}:leave S (.ok (.rt (.d x),τ) (S++R))=.ok (.d x) S:=by rw [jI,il,List.take_left]
theorem bE {S S':Sto} {x:D} {τ:Nv}:leave S (.ok (.rt (.d x),τ) S')=.ok (.d x) (S'.take S.length):=by rw [jI,il]
theorem vP (cell at':Int) (h:0≤at') (S:Sto):∃ r:Int,0≤r∧e9 [.d (.int cell),.d (.int at')] S=.ok (.d (.int r)) S:=by
 unfold e9
 rw [c8]
 unfold l9
 walk_at "mx"
 rw [uh ⟨by decide,by decide,by decide⟩]
 walk_at "mx"
 by_cases hc:(10:Int) ^ (18:Int).toNat≤cell
 ·rw [decide_eq_true hc]
  refine ⟨cell,Int.le_trans (by decide) hc,?_⟩
  walk_at "mx"
  exact aJ
 ·rw [decide_eq_false hc]
  walk_at "mm"
  generalize hone:(cell % 1000000007 * 69069+at' * 40503+977) % 2147483629=one
  have o1:0≤one:=by rw [← hone];exact Int.emod_nonneg _ (by decide)
  have o2:one < 2147483629:=by rw [← hone];exact Int.emod_lt_of_pos _ (by decide)
  walk_at "mm"
  generalize htwo:(one * one+at' * 7919+cell % 65537) % 2147483587=two
  have o3:0≤two:=by rw [← htwo];exact Int.emod_nonneg _ (by decide)
  have o4:two < 2147483587:=by rw [← htwo];exact Int.emod_lt_of_pos _ (by decide)
  walk_at "mm"
  generalize hthree:(two * two+one * 31+5) % 2147483563=three
  have o5:0≤three:=by rw [← hthree];exact Int.emod_nonneg _ (by decide)
  walk_at "mm"
  exact ⟨(one * 2147483659+two) * 2147483693+three,by omega,aJ⟩
theorem nz {cells:List Int} {at' pool:Int} {R:Sto}:oIx (.r 0) (.d (.int 0)) (du cells at' pool :: R)=.ok (.d (.lst (cells.map D.int))) (du cells at' pool :: R):=pX rfl rfl
theorem F4 {cells:List Int} {at' pool:Int} {R:Sto}:oIx (.r 0) (.d (.int 1)) (du cells at' pool :: R)=.ok (.d (.int at')) (du cells at' pool :: R):=pX rfl rfl
theorem uT {cells:List Int} {at' pool:Int} {R:Sto}:oIx (.r 0) (.d (.int 2)) (du cells at' pool :: R)=.ok (.d (.int pool)) (du cells at' pool :: R):=pX rfl rfl
theorem DE {cells:List Int} {at' pool v:Int} {R:Sto}:eB (.r 0) (.d (.int 1)) (.d (.int v)) (du cells at' pool :: R)=.ok () (du cells v pool :: R):=af rfl
theorem qL {cells:List Int} {at' pool v:Int} {R:Sto}:eB (.r 0) (.d (.int 2)) (.d (.int v)) (du cells at' pool :: R)=.ok () (du cells at' v :: R):=af rfl
theorem fc {ns:List Int} {i:Int} (h0:0≤i) (h1:i < ns.length):∃ n,atI (ns.map D.int) i=some (.int n)∧n∈ns:=by
 have hk:i.toNat < ns.length:=by omega
 refine ⟨ns[i.toNat],?_,List.getElem_mem hk⟩
 unfold atI
 rw [ue h0 (by simpa using h1)]
 show (ns.map D.int)[i.toNat]?=_
 rw [List.getElem?_map,List.getElem?_eq_getElem hk]
 rfl
theorem fh {o o':Ob} {R:Sto}:(o' :: R).take (o :: R).length=o' :: R:=by rw [show (o :: R).length=(o' :: R).length from rfl,List.take_length]
theorem bH {o:Ob} {R:Sto} {m:Int} (hp:Pen o) (h0:0 < m) (h1:m < 1073741824):∃ (k:Int) (o':Ob),0≤k∧k < m∧Pen o'∧a_ [.r 0,.d (.int m)] (o :: R)=.ok (.d (.int k)) (o' :: R):=by
 obtain ⟨cells,at',pool,rfl,hl,ha,hq⟩:=hp
 unfold a_
 rw [c8]
 unfold oB
 have tail:∀ (at2 pool2:Int) (o2 o3:Option Vl),0≤at2→0≤pool2→∃ (k:Int) (o':Ob),0≤k∧k < m∧Pen o' ∧
   leave (du cells at' pool :: R) ((ay (aQ (xOp oMod (xOp oIx (aa 0) (xC (.int 2))) (aa 1)) (gNm 4)) (ay (aQ (xOp oDiv (xOp oIx (aa 0) (xC (.int 2))) (aa 1)) (gSb (aa 0) (xC (.int 2)) eB)) (aE (aa 4)))) [some (.r 0),some (.d (.int m)),o2,o3,none] (du cells at2 pool2 :: R))=.ok (.d (.int k)) (o' :: R):=by
  intro at2 pool2 o2 o3 g1 g2
  walk_at "mx"
  rw [uT]
  walk_at "mm"
  rw [uT]
  walk_at "mm"
  rw [qL]
  walk_at "mm"
  exact ⟨pool2 % m,_,Int.emod_nonneg _ (by omega),Int.emod_lt_of_pos _ h0,⟨cells,at2,pool2 / m,rfl,hl,g1,Int.ediv_nonneg g2 (by omega)⟩,by rw [bE,fh]⟩
 rw [h_,zW]
 walk_at "mx"
 rw [uT]
 walk_at "mm"
 by_cases hc:pool < m
 ·rw [decide_eq_true hc]
  walk_at "mx"
  rw [F4]
  walk_at "mm"
  rw [nz]
  walk_at "mm"
  have fin:∀ cell:Int,∃ (k:Int) (o':Ob),0≤k∧k < m∧Pen o'∧leave (du cells at' pool :: R) (sq1 ((ay (aQ (xOp bU (aa 2) (xC (.int 1))) (gSb (aa 0) (xC (.int 1)) eB)) (aQ (az e9 (ab (aa 3) (ab (aa 2) aj))) (gSb (aa 0) (xC (.int 2)) eB))) [some (.r 0),some (.d (.int m)),some (.d (.int at')),some (.d (.int cell)),none] (du cells at' pool :: R))
    (ay (aQ (xOp oMod (xOp oIx (aa 0) (xC (.int 2))) (aa 1)) (gNm 4)) (ay (aQ (xOp oDiv (xOp oIx (aa 0) (xC (.int 2))) (aa 1)) (gSb (aa 0) (xC (.int 2)) eB)) (aE (aa 4)))))=.ok (.d (.int k)) (o' :: R):=by
   intro cell
   rw [h_,ia]
   walk_at "mx"
   rw [DE]
   rw [t7,nq,jN,ia,tM]
   obtain ⟨r,hr,er⟩:=vP cell at' ha (du cells (at'+1) pool :: R)
   simp only [tH,vO,zP,zS,zE,zD,B7,er,zA,pP,zB,z5,zp,DM,qL,t7,nq,jN]
   exact tail (at'+1) r _ _ (by omega) hr
  by_cases hin:at' < ((cells.map D.int).length:Int)
  ·rw [decide_eq_true hin]
   walk_at "mx"
   rw [nz]
   obtain ⟨n,en,_⟩:=fc (ns:=cells) ha (by simpa using hin)
   walk_at "mx"
   rw [jO en]
   rw [pP,m8,nq,jN]
   exact fin n
  ·rw [decide_eq_false hin]
   walk_at "mx"
   rw [nz]
   walk_at "mm"
   by_cases hpos:(0:Int) < ((cells.map D.int).length:Int)
   ·rw [decide_eq_true hpos]
    walk_at "mx"
    rw [nz]
    walk_at "mm"
    rw [nz]
    walk_at "mm"
    obtain ⟨n,en,_⟩:=fc (ns:=cells) (i:=(at' * 5+3) % ((cells.map D.int).length:Int)) (Int.emod_nonneg _ (by omega)) (by have:=Int.emod_lt_of_pos (at' * 5+3) hpos;simpa using this)
    rw [jO en]
    walk_at "mx"
    rw [uh ⟨by decide,by decide,by decide⟩]
    walk_at "mx"
    rw [zG (by have:(0:Int) < 10 ^ (17:Int).toNat:=(by decide);omega)]
    rw [pP,m8,nq,jN]
    exact fin _
   ·rw [decide_eq_false hpos]
    rw [qX,oj,jN]
    exact fin 0
 ·rw [decide_eq_false hc]
  rw [qX,oj,jN]
  exact tail at' pool _ _ ha hq
structure GoodW (m:Int) (ws:List Int):Prop where
 rise:ws.Pairwise (· < ·)
 lim:∀ w∈ws,-9≤w∧w≤9
 pos:1≤ws.length
 le:(ws.length:Int)≤m
def ak (ns:List Int):D:=.tup (ns.map D.int)
theorem vn {o:Ob} {R:Sto} {most near:Int} (hp:Pen o) (h0:0 < most) (h1:most≤50) (n0:-9≤near) (n1:near≤5):∃ (ws:List Int) (o':Ob),GoodW most ws∧Pen o'∧gj [.r 0,.d (.int most),.d (.int near)] (o :: R)=.ok (.d (ak ws)) (o' :: R):=by
 unfold gj
 rw [dk]
 unfold mr
 walk_at "mx"
 obtain ⟨k,o1,k0,k1,hp1,e1⟩:=bH (R:=R++[.lst []]) hp h0 (by omega)
 obtain ⟨τ',S',e2,o2,ws,x4,x5,hp2,rfl,rfl,nd,lim,le,pos⟩:=d5 (show _=me [some (.r 0),some (.d (.int most)),some (.d (.int near)),some (.r (R.length+1)),none,none] (o :: (R++[.lst []])) from rfl)
  (S1:=o1 :: (R++[.lst []])) (gd:=none) (items:=(List.range (1+k).toNat).map fun i=>Vl.d (.int (i:Nat))) (by walk_at "mx";rw [e1];walk_at "mm")
  (fun i τ S=>∃ (o':Ob) (ws:List Int) (x4 x5:Option Vl),Pen o'∧τ=[some (.r 0),some (.d (.int most)),some (.d (.int near)),some (.r (R.length+1)),x4,x5]∧S=o' :: (R++[.lst (ws.map D.int)])∧ws.Nodup∧(∀ w∈ws,-9≤w∧w≤9)∧ws.length≤i∧(0 < i→0 < ws.length))
  ⟨o1,[],none,none,hp1,rfl,rfl,List.nodup_nil,by simp,Nat.le_refl _,by omega⟩ (by
   rintro i z τ S hz ⟨o',ws,x4,x5,hp',rfl,rfl,nd,lim,le,pos⟩
   have hi:i < (1+k).toNat:=by simpa using (List.getElem?_eq_some_iff.mp hz).1
   obtain ⟨a,oa,a0,a1,hpa,ea⟩:=bH (R:=R++[.lst (ws.map D.int)]) (m:=5) hp' (by decide) (by decide)
   obtain ⟨b,ob,b0,b1,hpb,eb⟩:=bH (R:=R++[.lst (ws.map D.int)]) (m:=6) hpa (by decide) (by decide)
   obtain ⟨c,oc,c0,c1,hpc,ec⟩:=bH (R:=R++[.lst (ws.map D.int)]) (m:=19) hpb (by decide) (by decide)
   have fin:∀ (v:Int) (q:Ob) (x5':Option Vl),-9≤v→v≤9→Pen q→x5'=some (.d (.int v))→∃ fl τ2 S2,(xIf (aM (xOp ee (aa 5) (aa 3))) (ed (xLm kT (aa 3) (aa 5))) aO) [some (.r 0),some (.d (.int most)),some (.d (.int near)),some (.r (R.length+1)),some z,x5'] (q :: (R++[.lst (ws.map D.int)]))=.ok (fl,τ2) S2∧(fl=.nx∨fl=.ct) ∧
     ∃ (o':Ob) (ws:List Int) (x4 x5:Option Vl),Pen o'∧τ2=[some (.r 0),some (.d (.int most)),some (.d (.int near)),some (.r (R.length+1)),x4,x5]∧S2=o' :: (R++[.lst (ws.map D.int)])∧ws.Nodup∧(∀ w∈ws,-9≤w∧w≤9)∧ws.length≤i+1∧(0 < i+1→0 < ws.length):=by
    rintro v q _ v0 v1 hq rfl
    walk_at "mx"
    rw [nK (ns:=ws) lK]
    by_cases hm:v∈ws
    ·rw [decide_eq_true hm]
     walk_at "mx"
     exact ⟨_,_,_,rfl,.inl rfl,q,ws,_,_,hq,rfl,rfl,nd,lim,by omega,fun _=>List.length_pos_of_mem hm⟩
    ·rw [decide_eq_false hm]
     walk_at "mx"
     rw [uj (by rw [List.length_map];omega)]
     walk_at "mx"
     refine ⟨_,_,_,rfl,.inl rfl,q,ws++[v],_,_,hq,rfl,by rw [List.map_append];rfl,?_,?_,by simp;omega,fun _=>by simp⟩
     ·rw [List.nodup_append]
      refine ⟨nd,by simp,fun x hx y hy=>?_⟩
      rw [List.mem_singleton.mp hy]
      rintro rfl
      exact hm hx
     ·intro w hw
      rcases List.mem_append.mp hw with e | e
      ·exact lim w e
      ·rw [List.mem_singleton.mp e];omega
   by_cases hb:b=0
   ·subst hb
    obtain ⟨fl,τ2,S2,f1,f2,f3⟩:=fin (c - 9) oc _ (by omega) (by omega) hpc rfl
    refine ⟨_,_,fl,τ2,S2,m8,?_,f2,True.intro,f3⟩
    walk_at "mx"
    rw [ea]
    walk_at "mx"
    rw [eb]
    walk_at "mx"
    rw [ec]
    walk_at "mx"
    rw [← f1]
    walk_at "mx"
   ·obtain ⟨fl,τ2,S2,f1,f2,f3⟩:=fin (near+a) ob _ (by omega) (by omega) hpb rfl
    refine ⟨_,_,fl,τ2,S2,m8,?_,f2,True.intro,f3⟩
    walk_at "mx"
    rw [ea]
    walk_at "mx"
    rw [eb]
    walk_at "mx"
    rw [decide_eq_false hb]
    walk_at "mx"
    rw [← f1]
    walk_at "mx")
 rw [e2]
 walk_at "mx"
 rw [jl] at le pos
 rw [sS lK (by omega)]
 walk_at "mx"
 refine ⟨sortI ws,o2,⟨gZ nd,fun w hw=>lim w ((dz ws w).mp hw),by rw [cU];exact pos (by omega),by rw [cU];omega⟩,hp2,?_⟩
 rw [bE]
 simp [ak]
structure cN (n m:Int) (wss:List (List Int)):Prop where
 pos:1≤wss.length
 le:(wss.length:Int)≤n
 all:∀ ws∈wss,GoodW m ws
def au (wss:List (List Int)):D:=.tup (wss.map ak)
theorem y0 {o:Ob} {R:Sto} {names most:Int} (hp:Pen o) (h0:0 < names) (h1:names≤50) (m0:0 < most) (m1:most≤50):∃ (wss:List (List Int)) (o':Ob),cN names most wss∧Pen o'∧iO [.r 0,.d (.int names),.d (.int most)] (o :: R)=.ok (.d (au wss)) (o' :: R):=by
 unfold iO
 rw [dk]
 unfold nG
 walk_at "mx"
 obtain ⟨k,o1,k0,k1,hp1,e1⟩:=bH (R:=R) (m:=15) hp (by decide) (by decide)
 rw [e1]
 walk_at "mx"
 obtain ⟨j,o2,j0,j1,hp2,e2⟩:=bH (R:=R) hp1 h0 (by omega)
 obtain ⟨acc,Q,e4,hl,o3,wss,hp3,rfl,rfl,hw,hg⟩:=qI (show _=nu [some (.r 0),some (.d (.int names)),some (.d (.int most)),some (.d (.int (k - 9)))] (o1 :: R) from rfl) (S1:=o2 :: R) (items:=(List.range (1+j).toNat).map fun i=>Vl.d (.int (i:Nat))) (by walk_at "mx";rw [e2];walk_at "mm")
  (fun i acc Q=>∃ (o':Ob) (wss:List (List Int)),Pen o'∧acc=wss.map ak∧Q=o' :: R∧wss.length=i∧∀ ws∈wss,GoodW most ws) ⟨o2,[],hp2,rfl,rfl,rfl,by simp⟩ (by
   rintro i z acc Q hz ⟨o',wss,hp',rfl,rfl,hw,hg⟩ _
   obtain ⟨hi,rfl⟩:=lM hz
   obtain ⟨ws,o3,gw,hp3,e3⟩:=vn (R:=R++[.lst (wss.map ak)]) (near:=k - 9) hp' m0 m1 (by omega) (by omega)
   refine ⟨ak ws,o3 :: R,?_,rfl,o3,wss++[ws],hp3,gL.symm,rfl,by simp [hw],fun x hx=>?_⟩
   ·walk_at "mx"
    rw [e3]
    walk_at "mx"
   ·rcases List.mem_append.mp hx with e | e
    ·exact hg x e
    ·rw [List.mem_singleton.mp e];exact gw)
 rw [e4]
 walk_at "mx"
 rw [jl] at hw
 exact ⟨wss,o3,⟨by omega,by omega,hg⟩,hp3,by rw [bE,fh];rfl⟩
theorem Ad {o:Ob} {R:Sto} (hp:Pen o):∃ o',Pen o'∧jU [.r 0] (o :: R)=.ok (.r 0) (o' :: R):=by
 obtain ⟨cells,at',pool,rfl,hl,ha,hq⟩:=hp
 unfold jU
 rw [bO]
 unfold oW
 walk_at "mx"
 rw [qL]
 walk_at "mx"
 refine ⟨du cells at' 0,⟨cells,at',0,rfl,hl,ha,Int.le_refl 0⟩,?_⟩
 rw [jI]
 unfold out
 dsimp only
 rw [if_pos (by simp),fh]
theorem jS {xs:List D} {i:Nat} {z:Vl} (h:(cM 0 xs)[i]?=some z):∃ x,xs[i]?=some x∧z=.d (.tup [.int i,x]):=by
 rw [dw] at h
 cases q:xs[i]? with
 | none=>rw [q] at h;cases h
 | some x=>rw [q] at h;cases h;exact ⟨x,rfl,by rw [Nat.zero_add]⟩
theorem Bq (ns:List Int):∃ o,Pen o∧jR [.sc ns] []=.ok (.r 0) [o]:=by
 unfold jR
 rw [bO]
 unfold oD
 walk_at "mx"
 rw [show (12:Int)=((12:Nat):Int) from rfl,BR,← List.map_take]
 obtain ⟨τ',S',e2,cs,x2,x3,rfl,rfl,hl⟩:=d5 (show _=pb [some (.sc ns),some (.r 0),none,none] [.lst ((ns.take 12).map D.int)] from rfl)
  (S1:=[.lst ((ns.take 12).map D.int)]) (gd:=none) (items:=cM 0 (((ns.map D.int).drop 12).take (63 - 12))) (by
   walk_at "mx"
   rw [show (12:Int)=((12:Nat):Int) from rfl,show (63:Int)=((63:Nat):Int) from rfl,C_])
  (fun i τ S=>∃ (cs:List Int) (x2 x3:Option Vl),τ=[some (.sc ns),some (.r 0),x2,x3]∧S=[.lst (cs.map D.int)]∧cs.length=(ns.take 12).length) ⟨_,none,none,rfl,rfl,rfl⟩ (by
   rintro i z τ S hz ⟨cs,x2,x3,rfl,rfl,hl⟩
   obtain ⟨x,ex,rfl⟩:=jS hz
   have hx:x∈ns.map D.int:=List.mem_of_mem_drop (List.mem_of_mem_take (List.mem_of_getElem? ex))
   obtain ⟨v,_,rfl⟩:=List.mem_map.mp hx
   have hlen:12 < ns.length:=by
    have:=(List.getElem?_eq_some_iff.mp ex).1
    simp at this
    omega
   have hcs:cs.length=12:=by rw [hl];simp;omega
   have h0:0≤((i:Nat):Int) % 12:=Int.emod_nonneg _ (by decide)
   have h1:((i:Nat):Int) % 12 < 12:=Int.emod_lt_of_pos _ (by decide)
   obtain ⟨c,ec,_⟩:=fc (ns:=cs) (i:=((i:Nat):Int) % 12) h0 (by omega)
   have hix:ixN (cs.map D.int).length (((i:Nat):Int) % 12)=some (((i:Nat):Int) % 12).toNat:=ue h0 (by rw [List.length_map];omega)
   refine ⟨_,_,.nx,_,_,by walk_at "mm";rfl,by
    walk_at "mm"
    rw [pX (xs:=cs.map D.int) rfl ec]
    walk_at "mm"
    rw [show eB (.r 0) (.d (.int (((i:Nat):Int) % 12))) (.d (.int (c+v))) [Ob.lst (cs.map D.int)]=.ok () [.lst ((cs.map D.int).set (((i:Nat):Int) % 12).toNat (.int (c+v)))] by
     unfold eB
     simp only [List.getElem?_cons_zero,hix]
     rfl]
    walk_at "mx"
    rfl,.inl rfl,True.intro,cs.set (((i:Nat):Int) % 12).toNat (c+v),_,_,rfl,by rw [List.map_set],by rw [List.length_set];exact hl⟩)
 rw [e2]
 walk_at "mx"
 refine ⟨du cs 0 0,⟨cs,0,0,rfl,by rw [hl];simp;omega,Int.le_refl 0,Int.le_refl 0⟩,?_⟩
 rfl
theorem oK {α β:Type} (f:α→β):∀ (l:List α) (k:Nat),(l.eraseIdx k).map f=(l.map f).eraseIdx k
 | [],_=>rfl
 | _ :: _,0=>rfl
 | x :: l,k+1=>by
  rw [List.eraseIdx_cons_succ,List.map_cons,List.map_cons,List.eraseIdx_cons_succ,oK f l k]
structure bX (k:Nat) (ns:List Int):Prop where
 dom:∀ n∈ns,0≤n∧n < (k:Int)
 pos:1≤ns.length
 le:ns.length≤k
 nd:ns.Nodup
theorem pM {o:Ob} {R:Sto} {wss:List (List Int)} (hp:Pen o) (h0:1≤wss.length) (h1:wss.length≤50):∃ (ns:List Int) (o':Ob),bX wss.length ns∧Pen o'∧dJ [.r 0,.d (au wss)] (o :: R)=.ok (.d (ak ns)) (o' :: R):=by
 unfold dJ
 rw [c8]
 unfold iD au
 walk_at "mx"
 rw [List.length_map,Ea (by omega)]
 walk_at "mx"
 have hr:(List.range ((wss.length:Nat):Int).toNat).map (fun i=>D.int ((i:Nat):Int))=((List.range wss.length).map fun i=>((i:Nat):Int)).map D.int:=by rw [Int.toNat_natCast,List.map_map];rfl
 rw [hr]
 generalize hL:((List.range wss.length).map fun i=>((i:Nat):Int))=L0
 have lL:L0.length=wss.length:=by rw [← hL];simp
 have dL:∀ n∈L0,0≤n∧n < (wss.length:Int):=by
  intro n hn
  rw [← hL] at hn
  obtain ⟨i,hi,rfl⟩:=List.mem_map.mp hn
  have:=List.mem_range.mp hi
  omega
 have nL:L0.Nodup:=by
  rw [← hL]
  exact List.Pairwise.map _ (fun a b (h:a≠b)=>by omega) List.nodup_range
 rw [q_ (xs:=L0.map D.int) (by walk_at "mx"),List.length_map,lL]
 obtain ⟨a,o1,a0,a1,hp1,e1⟩:=bH (R:=R++[.lst (L0.map D.int)]) (m:=(wss.length:Int)) hp (by omega) (by omega)
 walk_at "mx"
 rw [e1]
 walk_at "mx"
 obtain ⟨b,o2,b0,b1,hp2,e2⟩:=bH (R:=R++[.lst (L0.map D.int)]) (m:=3) hp1 (by decide) (by decide)
 rw [e2]
 walk_at "mx"
 have fin:∀ (many:Int),1≤many→many≤wss.length→∃ (ns left:List Int) (o':Ob),bX wss.length ns∧Pen o' ∧
   eR [some (.r 0),some (.d (.tup (wss.map ak))),some (.r (R.length+1)),some (.d (.int many))] (o2 :: (R++[.lst (L0.map D.int)]))=.ok (.d (.lst (ns.map D.int))) (o' :: (R++[.lst (left.map D.int)])):=by
  intro many m0 m1
  obtain ⟨acc,Q,e4,hl,o3,ns,left,hp3,rfl,rfl,hw,hlen,hmem,hnd⟩:=qI (show _=eR [some (.r 0),some (.d (.tup (wss.map ak))),some (.r (R.length+1)),some (.d (.int many))] (o2 :: (R++[.lst (L0.map D.int)])) from rfl) (S1:=o2 :: (R++[.lst (L0.map D.int)])) (items:=(List.range many.toNat).map fun i=>Vl.d (.int (i:Nat))) (by walk_at "mm")
   (fun i acc Q=>∃ (o':Ob) (ns left:List Int),Pen o'∧acc=ns.map D.int∧Q=o' :: (R++[.lst (left.map D.int)])∧ns.length=i∧left.length+i=wss.length∧(∀ n,n∈ns++left→0≤n∧n < (wss.length:Int))∧(ns++left).Nodup) ⟨o2,[],L0,hp2,rfl,rfl,rfl,by omega,by simpa using dL,by simpa using nL⟩ (by
    rintro i z acc Q hz ⟨o',ns,left,hp',rfl,rfl,hw,hlen,hmem,hnd⟩ _
    obtain ⟨hi,rfl⟩:=lM hz
    obtain ⟨c,o3,c0,c1,hp3,e3⟩:=bH (R:=R++[.lst (left.map D.int),.lst (ns.map D.int)]) (m:=(left.length:Int)) hp' (by omega) (by omega)
    have hc:c.toNat < left.length:=by omega
    have hge:(left.map D.int)[c.toNat]?=some (.int left[c.toNat]):=by rw [List.getElem?_map,List.getElem?_eq_getElem hc];rfl
    have pe:(left[c.toNat] :: left.eraseIdx c.toNat).Perm left:=ju left c.toNat hc
    have pa:((ns++[left[c.toNat]])++left.eraseIdx c.toNat).Perm (ns++left):=by
     rw [List.append_assoc]
     exact List.Perm.append_left ns pe
    refine ⟨.int left[c.toNat],o3 :: (R++[.lst ((left.eraseIdx c.toNat).map D.int)]),?_,by simp,o3,ns++[left[c.toNat]],left.eraseIdx c.toNat,hp3,gL.symm,rfl,by simp [hw],?_,fun n hn=>hmem n (pa.mem_iff.mp hn),pa.nodup_iff.mpr hnd⟩
    ·walk_at "mx"
     rw [show (R++[Ob.lst (left.map D.int)]++[Ob.lst (ns.map D.int)])=R++[.lst (left.map D.int),.lst (ns.map D.int)] by simp]
     walk_at "mx"
     rw [q_ (xs:=left.map D.int) (by walk_at "mx"),List.length_map]
     walk_at "mx"
     rw [e3]
     walk_at "mx"
     rw [Fh (by omega) hge]
     walk_at "mx"
     rw [oK]
     simp
    ·rw [List.length_eraseIdx_of_lt hc];omega)
  rw [jl] at hw hlen
  exact ⟨ns,left,o3,⟨fun n hn=>hmem n (List.mem_append_left _ hn),by omega,by omega,(List.nodup_append.mp hnd).1⟩,hp3,e4⟩
 by_cases hb:0 < b
 ·rw [decide_eq_true hb]
  walk_at "mx"
  rw [q_ (xs:=L0.map D.int) (by walk_at "mx"),List.length_map,lL]
  walk_at "mx"
  obtain ⟨ns,left,o3,gn,hp3,e4⟩:=fin (wss.length:Int) (by omega) (by omega)
  rw [e4]
  walk_at "mx"
  refine ⟨ns,o3,gn,hp3,?_⟩
  rw [bE]
  simp [ak]
 ·rw [decide_eq_false hb]
  walk_at "mx"
  obtain ⟨ns,left,o3,gn,hp3,e4⟩:=fin (1+a) (by omega) (by omega)
  rw [e4]
  walk_at "mx"
  refine ⟨ns,o3,gn,hp3,?_⟩
  rw [bE]
  simp [ak]
theorem ints_get {ps:List Int} {i:Nat} {z:Vl} (h:((ps.map D.int).map Vl.d)[i]?=some z):∃ p,ps[i]?=some p∧z=.d (.int p):=by
 rw [List.getElem?_map,List.getElem?_map] at h
 cases q:ps[i]? with
 | none=>rw [q] at h;cases h
 | some p=>rw [q] at h;cases h;exact ⟨p,rfl,rfl⟩
theorem take_snoc {α:Type} {ps:List α} {i:Nat} {p:α} (h:ps[i]?=some p):ps.take (i+1)=ps.take i++[p]:=by
 rw [List.take_add_one,h];rfl
theorem Dy {n:Nat} {S:Sto} {xs:List D} (e:S[n]?=some (.lst xs)):cS [.r n] S=.ok (.d (.tup xs)) S:=by
 unfold cS
 dsimp only
 rw [uY e]
theorem AY {o:Ob} {R:Sto} {wss:List (List Int)} {n m:Int} (hp:Pen o) (g:cN n m wss) (hn:n≤50) (hm:m≤50):∃ (w:Int) (o':Ob),(-9≤w∧w≤9)∧Pen o'∧dM [.r 0,.d (au wss)] (o :: R)=.ok (.d (.int w)) (o' :: R):=by
 have g0:=g.pos
 have g1:=g.le
 unfold dM
 rw [c8]
 unfold iG
 obtain ⟨a,o1,a0,a1,hp1,e1⟩:=bH (R:=R) (m:=8) hp (by decide) (by decide)
 walk_at "mx"
 rw [e1]
 walk_at "mx"
 by_cases ha:a=0
 ·rw [decide_eq_true ha]
  obtain ⟨b,o2,b0,b1,hp2,e2⟩:=bH (R:=R) (m:=19) hp1 (by decide) (by decide)
  walk_at "mx"
  rw [e2]
  walk_at "mx"
  exact ⟨b - 9,o2,by omega,hp2,by rw [bE,fh]⟩
 ·rw [decide_eq_false ha]
  obtain ⟨b,o2,b0,b1,hp2,e2⟩:=bH (R:=R) (m:=(wss.length:Int)) hp1 (by omega) (by omega)
  unfold au
  walk_at "mx"
  rw [List.length_map,e2]
  walk_at "mx"
  have hb:b.toNat < wss.length:=by omega
  have hat:atI (wss.map ak) b=some (ak wss[b.toNat]):=by
   obtain ⟨k,rfl⟩:=Int.eq_ofNat_of_zero_le b0
   exact mH (by rw [List.getElem?_map,List.getElem?_eq_getElem (by simpa using hb)];rfl)
  have gw:=g.all _ (List.getElem_mem hb)
  generalize wss[b.toNat]=ws at hat gw
  have w0:=gw.pos
  have w1:=gw.le
  rw [cv hat]
  walk_at "mx"
  obtain ⟨c,o3,c0,c1,hp3,e3⟩:=bH (R:=R) (m:=(ws.length:Int)) hp2 (by omega) (by omega)
  rw [show ak ws=.tup (ws.map D.int) from rfl]
  walk_at "mx"
  rw [List.length_map,e3]
  walk_at "mx"
  obtain ⟨v,ev,_⟩:=fc (ns:=ws) (i:=c) c0 c1
  rw [cv ev]
  obtain ⟨d,o4,d0,d1,hp4,e4⟩:=bH (R:=R) (m:=5) hp3 (by decide) (by decide)
  walk_at "mx"
  rw [e4]
  walk_at "mx"
  obtain ⟨u,eu,_⟩:=fc (ns:=[0,0,0,1,-1]) (i:=d) d0 (by simpa using d1)
  rw [jO (show atI [D.int 0,D.int 0,D.int 0,D.int 1,D.int (-1)] d=some (.int u) from eu)]
  walk_at "mx"
  refine ⟨_,o4,?_,hp4,by rw [bE,fh]⟩
  split<;>split at *<;>omega
abbrev Tri:=Int×Int×Int
def ba (t:Tri):D:=.tup [.int t.1,.int t.2.1,.int t.2.2]
structure bo (bs:List Tri):Prop where
 le:bs.length≤4
 rise:(bs.map (·.1)).Pairwise (· < ·)
 lim:∀ b∈bs,(-9≤b.1∧b.1≤9)∧0≤b.2.1∧b.2.1≤b.2.2∧b.2.2≤4
theorem vx {o:Ob} {R:Sto} {wss:List (List Int)} {n m:Int} (hp:Pen o) (g:cN n m wss) (hn:n≤50) (hm:m≤50):∃ (bs:List Tri) (o':Ob),bo bs∧Pen o'∧gx [.r 0,.d (au wss)] (o :: R)=.ok (.d (.tup (bs.map ba))) (o' :: R):=by
 unfold gx
 rw [c8]
 unfold mh
 walk_at "mx"
 obtain ⟨a,o1,a0,a1,hp1,e1⟩:=bH (R:=R++[.lst []]) (m:=5) hp (by decide) (by decide)
 obtain ⟨τ',S',e2,o2,ws,x3,x4,hp2,rfl,rfl,nd,lim,le⟩:=d5 (show _=mj [some (.r 0),some (.d (au wss)),some (.r (R.length+1)),none,none,none,none] (o :: (R++[.lst []])) from rfl)
  (S1:=o1 :: (R++[.lst []])) (gd:=none) (items:=(List.range a.toNat).map fun i=>Vl.d (.int (i:Nat))) (by
   walk_at "mx"
   rw [e1]
   walk_at "mm")
  (fun i τ S=>∃ (o':Ob) (ws:List Int) (x3 x4:Option Vl),Pen o'∧τ=[some (.r 0),some (.d (au wss)),some (.r (R.length+1)),x3,x4,none,none]∧S=o' :: (R++[.lst (ws.map D.int)])∧ws.Nodup∧(∀ w∈ws,-9≤w∧w≤9)∧ws.length≤i) ⟨o1,[],none,none,hp1,rfl,rfl,List.nodup_nil,fun _ h=>(by cases h),Nat.le_refl 0⟩ (by
   rintro i z τ S hz ⟨o',ws,x3,x4,hp',rfl,rfl,nd,lim,le⟩
   obtain ⟨hi,rfl⟩:=lM hz
   obtain ⟨w,o3,hw,hp3,e3⟩:=AY (R:=R++[.lst (ws.map D.int)]) hp' g hn hm
   by_cases hin:w∈ws
   ·refine ⟨_,_,.nx,_,_,by walk_at "mx";rfl,by
     walk_at "mx"
     rw [e3]
     walk_at "mx"
     rw [nK (ns:=ws) lK,decide_eq_true hin]
     walk_at "mx"
     rfl,.inl rfl,True.intro,o3,ws,_,_,hp3,rfl,rfl,nd,lim,by omega⟩
   ·refine ⟨_,_,.nx,_,_,by walk_at "mx";rfl,by
     walk_at "mx"
     rw [e3]
     walk_at "mx"
     rw [nK (ns:=ws) lK,decide_eq_false hin]
     walk_at "mx"
     rw [uj (by rw [List.length_map];omega)]
     walk_at "mx"
     rfl,.inl rfl,True.intro,o3,ws++[w],_,_,hp3,rfl,by rw [gL],?_,?_,by simp;omega⟩
    ·exact List.nodup_append.mpr ⟨nd,by simp,fun x hx y hy=>by rw [List.mem_singleton.mp hy];exact fun e=>hin (e ▸ hx)⟩
    ·intro x hx
     rcases List.mem_append.mp hx with q | q
     ·exact lim x q
     ·rw [List.mem_singleton.mp q];exact hw)
 rw [jl] at le
 rw [e2]
 walk_at "mx"
 obtain ⟨τ',S',e3,o3,bs,x4',x6,hp3,rfl,rfl,hb1,hb2⟩:=d5 (show _=mf [some (.r 0),some (.d (au wss)),some (.r (R.length+1)),x3,x4,some (.r ((R++[Ob.lst (ws.map D.int)]).length+1)),none] (o2 :: (R++[Ob.lst (ws.map D.int)]++[Ob.lst []])) from rfl)
  (S1:=o2 :: (R++[Ob.lst (ws.map D.int)]++[Ob.lst []])) (gd:=none) (items:=((sortI ws).map D.int).map Vl.d) (by
   walk_at "mx"
   rw [sS (ns:=ws) (by simp) (by omega)]
   walk_at "mx")
  (fun i τ S=>∃ (o':Ob) (bs:List Tri) (x4 x6:Option Vl),Pen o'∧τ=[some (.r 0),some (.d (au wss)),some (.r (R.length+1)),x3,x4,some (.r ((R++[Ob.lst (ws.map D.int)]).length+1)),x6]∧S=o' :: (R++[Ob.lst (ws.map D.int)]++[Ob.lst (bs.map ba)])∧bs.map (·.1)=(sortI ws).take i∧∀ b∈bs,0≤b.2.1∧b.2.1≤b.2.2∧b.2.2≤4) ⟨o2,[],x4,none,hp2,rfl,rfl,rfl,fun _ h=>(by cases h)⟩ (by
   rintro i z τ S hz ⟨o',bs,x4,x6,hp',rfl,rfl,hb1,hb2⟩
   obtain ⟨w,ew,rfl⟩:=ints_get hz
   have hi:=(List.getElem?_eq_some_iff.mp ew).1
   rw [cU] at hi
   have hlb:bs.length≤4:=by
    have:=congrArg List.length hb1
    simp only [List.length_map,List.length_take,cU] at this
    omega
   generalize hR:R++[Ob.lst (ws.map D.int)]=R'
   obtain ⟨b,o3,b0,b1,hp3,e3⟩:=bH (R:=R'++[.lst (bs.map ba)]) (m:=5) hp' (by decide) (by decide)
   obtain ⟨c,o4,c0,c1,hp4,e4⟩:=bH (R:=R'++[.lst (bs.map ba)]) (m:=6) hp3 (by decide) (by decide)
   obtain ⟨d,o5,d0,d1,hp5,e5⟩:=bH (R:=R'++[.lst (bs.map ba)]) (m:=5) hp4 (by decide) (by decide)
   obtain ⟨e,o6,f0,f1,hp6,e6⟩:=bH (R:=R'++[.lst (bs.map ba)]) (m:=5) hp5 (by decide) (by decide)
   obtain ⟨low,el,ml⟩:=fc (ns:=[0,0,1,1,2,b]) (i:=c) c0 (by simpa using c1)
   obtain ⟨up,eu,mu⟩:=fc (ns:=[0,0,1,4,d]) (i:=e) f0 (by simpa using f1)
   have hlow:0≤low∧low≤4:=by
    simp only [List.mem_cons,List.not_mem_nil,or_false] at ml
    omega
   have hup:0≤up:=by
    simp only [List.mem_cons,List.not_mem_nil,or_false] at mu
    omega
   refine ⟨_,_,.nx,_,_,by walk_at "mx";rfl,by
    walk_at "mx"
    rw [e3]
    walk_at "mx"
    rw [e4]
    walk_at "mx"
    rw [jO (show atI [D.int 0,D.int 0,D.int 1,D.int 1,D.int 2,D.int b] c=some (.int low) from el)]
    walk_at "mx"
    rw [e5]
    walk_at "mx"
    rw [e6]
    walk_at "mx"
    rw [jO (show atI [D.int 0,D.int 0,D.int 1,D.int 4,D.int d] e=some (.int up) from eu)]
    walk_at "mx"
    rw [uj (by rw [List.length_map];omega)]
    walk_at "mx"
    rfl,.inl rfl,True.intro,o6,bs++[(w,low,if low+up < 4 then low+up else 4)],some (.d (.int w)),some (.d (.int low)),hp6,rfl,by rw [gL];rfl,?_,?_⟩
   ·rw [gL,hb1,take_snoc ew]
   ·intro x hx
    rcases List.mem_append.mp hx with q | q
    ·exact hb2 x q
    ·rw [List.mem_singleton.mp q]
     refine ⟨hlow.1,?_,?_⟩<;>dsimp only<;>split<;>omega)
 rw [e3]
 walk_at "mx"
 rw [show ((List.map D.int (sortI ws)).map Vl.d).length=(sortI ws).length by simp,List.take_length] at hb1
 rw [show cS [.r ((R++[Ob.lst (ws.map D.int)]).length+1)] (o3 :: (R++[Ob.lst (ws.map D.int)]++[Ob.lst (bs.map ba)]))=.ok (.d (.tup (bs.map ba))) (o3 :: (R++[Ob.lst (ws.map D.int)]++[Ob.lst (bs.map ba)])) from Dy (by simp)]
 walk_at "mx"
 refine ⟨bs,o3,⟨?_,?_,?_⟩,hp3,?_⟩
 ·have:=congrArg List.length hb1
  simp only [List.length_map,cU] at this
  omega
 ·rw [hb1];exact gZ nd
 ·intro b hb
  refine ⟨lim b.1 ?_,hb2 b hb⟩
  rw [← dz,← hb1]
  exact List.mem_map.mpr ⟨b,hb,rfl⟩
 ·rw [bE]
  simp
structure He (ds:List Tri):Prop where
 le:ds.length≤12
 nd:ds.Nodup
 lim:∀ d∈ds,(0≤d.1∧d.1≤3)∧(-9≤d.2.1∧d.2.1≤9)∧0≤d.2.2∧d.2.2≤3
def bf (wss:List (List Int)) (ps:List Int):List Int:=ps.flatMap fun p=>wss.getD p.toNat []
theorem yN {ps:List Int}:ps=aV ps↔ps.Pairwise (· < ·):=⟨fun h=>by rw [h];exact b6 ps,fun h=>mz (fun _=>Iff.rfl) h⟩
theorem pz {wss:List (List Int)} {ps:List Int} {p:Int}:bf wss (ps++[p])=bf wss ps++wss.getD p.toNat []:=by simp [bf]
theorem jC {wss:List (List Int)} {p:Int} (h0:0≤p) (h1:p < wss.length):atI (wss.map ak) p=some (ak (wss.getD p.toNat [])):=by
 obtain ⟨k,rfl⟩:=Int.eq_ofNat_of_zero_le h0
 have hk:k < wss.length:=by omega
 exact mH (by rw [List.getElem?_map,List.getElem?_eq_getElem hk,Int.toNat_natCast,List.getD_eq_getElem?_getD,List.getElem?_eq_getElem hk];rfl)
theorem iI {wss:List (List Int)} {p:Int} (h0:0≤p) (h1:p < wss.length):wss.getD p.toNat []∈wss:=by
 have hk:p.toNat < wss.length:=by omega
 rw [List.getD_eq_getElem?_getD,List.getElem?_eq_getElem hk]
 exact List.getElem_mem hk
theorem sC {v:Int} {S:Sto}:gB [.d (.int v)] S=.ok (.d (.bl true)) S:=by
 unfold gB
 rw [bO]
 unfold md
 walk_at "mx"
 rw [show isT "int" (.int v)=true from rfl]
 walk_at "mx"
 rw [show isT "bool" (.int v)=false from rfl]
 walk_at "mx"
 rw [aJ]
theorem eY {v lo hi:Int} {S:Sto} (h:lo≤v∧v≤hi):cZ [.d (.int v),.d (.int lo),.d (.int hi)] S=.ok (.d (.bl true)) S:=by
 unfold cZ
 rw [dk]
 unfold lA
 walk_at "mx"
 rw [sC]
 walk_at "mx"
 rw [decide_eq_true h.1]
 walk_at "mx"
 rw [decide_eq_true h.2]
 rw [aJ]
theorem all_true {α:Type} {l:List α} {S:Sto}:ix [.d (.lst (l.map fun _=>D.bl true))] S=.ok (.d (.bl true)) S:=by
 rw [qr (f:=fun _=>true)]
 simp
theorem oq {xs:List D}:isT "tuple" (.tup xs)=true:=rfl
theorem kg {ns:List Int} {lo hi:Int} {S:Sto} (h:∀ v∈ns,lo≤v∧v≤hi):dD [.d (ak ns),.d (.int lo),.d (.int hi)] S=.ok (.d (.bl true)) S:=by
 unfold dD
 rw [dk]
 unfold j9 ak
 walk_at "mx"
 rw [oq]
 walk_at "mx"
 rw [dG (show _=kc [some (.d (.tup (ns.map D.int))),some (.d (.int lo)),some (.d (.int hi))] S from rfl) (xs:=ns.map D.int) (S1:=S) (by walk_at "mx") (fun _=>.bl true) (by
  intro x hx S
  obtain ⟨v,hv,rfl⟩:=List.mem_map.mp hx
  walk_at "mx"
  rw [eY (h v hv)]
  walk_at "mx")]
 walk_at "mx"
 rw [all_true]
 walk_at "mx"
 rw [aJ]
theorem Ak {ns:List Int} (h:∀ k,k+1 < ns.length→ns.getD k 0 < ns.getD (k+1) 0):ns.Pairwise (· < ·):=by
 rw [List.pairwise_iff_getElem]
 have key:∀ d i,(hd:i+d+1 < ns.length)→ns.getD i 0 < ns.getD (i+d+1) 0:=by
  intro d
  induction d with
  | zero=>intro i hd;exact h i hd
  | succ d ih=>
   intro i hd
   have a:=ih i (by omega)
   have b:=h (i+d+1) (by omega)
   rw [show i+(d+1)+1=i+d+1+1 by omega]
   omega
 intro i j hi hj hij
 have:=key (j - i - 1) i (by omega)
 rw [show i+(j - i - 1)+1=j by omega,List.getD_eq_getElem?_getD,List.getD_eq_getElem?_getD,List.getElem?_eq_getElem hi,List.getElem?_eq_getElem hj] at this
 simpa using this
theorem AD {ns:List Int} (h:ns.Pairwise (· < ·)) {k:Nat} (hk:k+1 < ns.length):ns.getD k 0 < ns.getD (k+1) 0:=by
 rw [List.pairwise_iff_getElem] at h
 have:=h k (k+1) (by omega) hk (by omega)
 rw [List.getD_eq_getElem?_getD,List.getD_eq_getElem?_getD,List.getElem?_eq_getElem hk,List.getElem?_eq_getElem (by omega)]
 simpa using this
theorem qt {ns:List Int}:((List.range (ns.length - 1)).all fun k=>decide (ns.getD k 0 < ns.getD (k+1) 0))=decide (ns.Pairwise (· < ·)):=by
 rw [Bool.eq_iff_iff,List.all_eq_true,decide_eq_true_iff]
 constructor
 ·intro h
  exact Ak fun k hk=>by simpa using h k (List.mem_range.mpr (by omega))
 ·intro h k hk
  have:=List.mem_range.mp hk
  exact decide_eq_true (AD h (by omega))
def nbL (ns:List Int):Vl→D
 | .d (.int j)=>.bl (decide (ns.getD (j.toNat - 1) 0 < ns.getD j.toNat 0))
 | _=>.non
theorem n5 {ns:List Int} {i:Nat} (h:i < ns.length):atI (ns.map D.int) (i:Int)=some (.int (ns.getD i 0)):=mH (by rw [List.getElem?_map,List.getElem?_eq_getElem h,List.getD_eq_getElem?_getD,List.getElem?_eq_getElem h];rfl)
theorem pN {ns:List Int} {S:Sto} (h:ns.length≤1000):cJ [.d (ak ns)] S=.ok (.d (.bl (decide (ns.Pairwise (· < ·))))) S:=by
 unfold cJ
 rw [bO]
 unfold fX ak
 walk_at "mx"
 have key:dh [some (.d (.tup (ns.map D.int)))] S=.ok (.d (.lst ((List.range (ns.length - 1)).map fun k=>.bl (decide (ns.getD k 0 < ns.getD (k+1) 0))))) S:=by
  unfold dh
  rw [rV (items:=(List.range ((ns.length:Int) - 1).toNat).map fun k=>Vl.d (.int (1+(k:Nat)))) (S1:=S) (by walk_at "mx";rw [List.length_map,u4 (by omega)]) (nbL ns) (by
   intro z hz S
   obtain ⟨k,hk,rfl⟩:=List.mem_map.mp hz
   have hk:=List.mem_range.mp hk
   walk_at "mx"
   rw [show (1:Int)+(k:Nat) - 1=(k:Nat) by omega,show (1:Int)+(k:Nat)=((k+1:Nat):Int) by omega,cv (n5 (by omega))]
   walk_at "mx"
   rw [cv (n5 (by omega))]
   walk_at "mx"
   rfl)]
  rw [List.map_map,show ((ns.length:Int) - 1).toNat=ns.length - 1 by omega]
  congr 3
  refine List.map_congr_left fun k hk=>?_
  show nbL ns (.d (.int (1+(k:Nat))))=_
  rw [show (1:Int)+(k:Nat)=((k+1:Nat):Int) by omega]
  rfl
 rw [key]
 walk_at "mx"
 rw [qr,qt]
 walk_at "mx"
 rw [aJ]
theorem pH {ws:List Int} {m:Int} {S:Sto} (g:GoodW m ws) (hm:m≤4):eU [.d (ak ws)] S=.ok (.d (.bl true)) S:=by
 have h1:=g.pos
 have h2:=g.le
 unfold eU
 rw [bO]
 unfold kd
 walk_at "mx"
 rw [kg g.lim]
 walk_at "mx"
 rw [show ak ws=.tup (ws.map D.int) from rfl]
 try walk_at "mx"
 rw [List.length_map,decide_eq_true (show (1:Int)≤(ws.length:Int) by omega)]
 walk_at "mx"
 rw [decide_eq_true (show (ws.length:Int)≤4 by omega)]
 walk_at "mx"
 rw [show D.tup (ws.map D.int)=ak ws from rfl,pN (by omega),decide_eq_true g.rise]
 walk_at "mx"
 rw [aJ]
theorem sO {wss:List (List Int)} {n m:Int} {S:Sto} (g:cN n m wss) (hn:n≤4) (hm:m≤4):gm [.d (au wss)] S=.ok (.d (.bl true)) S:=by
 have h1:=g.pos
 have h2:=g.le
 unfold gm
 rw [bO]
 unfold mn au
 walk_at "mx"
 rw [oq]
 walk_at "mx"
 rw [List.length_map,decide_eq_true (show (1:Int)≤(wss.length:Int) by omega)]
 walk_at "mx"
 rw [decide_eq_true (show (wss.length:Int)≤4 by omega)]
 walk_at "mx"
 rw [dG (show _=mi [some (.d (.tup (wss.map ak)))] S from rfl) (xs:=wss.map ak) (S1:=S) (by walk_at "mx") (fun _=>.bl true) (by
  intro x hx S
  obtain ⟨ws,hv,rfl⟩:=List.mem_map.mp hx
  walk_at "mx"
  rw [pH (g.all ws hv) hm]
  walk_at "mx")]
 walk_at "mx"
 rw [all_true]
 walk_at "mx"
 rw [aJ]
theorem pO {wss:List (List Int)} {n m:Int} {S:Sto} (g:cN n m wss) (hn:n≤4) (hm:m≤4):e_ [.d (au wss)] S=.ok (.d .non) S:=by
 unfold e_
 rw [bO]
 unfold km
 walk_at "mx"
 rw [sO g hn hm]
 walk_at "mx"
 rw [jT,il,List.take_length]
theorem jD {ns:List Int} (h:ns.Nodup):(aV ns).length=ns.length:=by
 rw [← mz (xs:=ns) (fun z=>dz ns z) (gZ h),cU]
theorem pk {ns:List Int} {S:Sto} (h:ns.Nodup) (hl:ns.length≤60):eK [.d (ak ns)] S=.ok (.d (.bl true)) S:=by
 unfold eK
 rw [bO]
 unfold ki ak
 walk_at "mx"
 rw [En (ns:=ns) rfl (by omega)]
 walk_at "mx"
 rw [List.length_map,jD h]
 walk_at "mx"
 rw [aJ]
theorem qU {ns:List Int} {k:Nat} {S:Sto} (g:bX k ns) (hk:k≤4):fz [.d (ak ns)] S=.ok (.d (.bl true)) S:=by
 have h1:=g.pos
 have h2:=g.le
 unfold fz
 rw [bO]
 unfold lC
 walk_at "mx"
 rw [kg (fun v hv=>by have:=g.dom v hv;omega)]
 walk_at "mx"
 rw [show ak ns=.tup (ns.map D.int) from rfl]
 try walk_at "mx"
 rw [List.length_map,decide_eq_true (show (1:Int)≤(ns.length:Int) by omega)]
 walk_at "mx"
 rw [decide_eq_true (show (ns.length:Int)≤4 by omega)]
 walk_at "mx"
 rw [show D.tup (ns.map D.int)=ak ns from rfl,pk g.nd (by omega)]
 walk_at "mx"
 rw [aJ]
theorem iw:∀ (l:List Int) (a b:Int),a≤b→l.Pairwise (· < ·)→(∀ x∈l,a≤x∧x < b)→(l.length:Int)≤b - a
 | [],a,b,h,_,_=>by simp;omega
 | x :: l,a,b,h,hp,hx=>by
  have h1:=hx x (List.mem_cons_self ..)
  have:=iw l (x+1) b (by omega) (List.pairwise_cons.mp hp).2 fun y hy=>by
   have:=(List.pairwise_cons.mp hp).1 y hy
   have:=hx y (List.mem_cons_of_mem _ hy)
   omega
  rw [List.length_cons]
  omega
theorem nZ {ns:List Int} {S:Sto} (h:ns.length≤1000):cJ [.d (.lst (ns.map D.int))] S=.ok (.d (.bl (decide (ns.Pairwise (· < ·))))) S:=by
 unfold cJ
 rw [bO]
 unfold fX
 walk_at "mx"
 have key:dh [some (.d (.lst (ns.map D.int)))] S=.ok (.d (.lst ((List.range (ns.length - 1)).map fun k=>.bl (decide (ns.getD k 0 < ns.getD (k+1) 0))))) S:=by
  unfold dh
  rw [rV (items:=(List.range ((ns.length:Int) - 1).toNat).map fun k=>Vl.d (.int (1+(k:Nat)))) (S1:=S) (by walk_at "mx";rw [List.length_map,u4 (by omega)]) (nbL ns) (by
   intro z hz S
   obtain ⟨k,hk,rfl⟩:=List.mem_map.mp hz
   have hk:=List.mem_range.mp hk
   walk_at "mx"
   rw [show (1:Int)+(k:Nat) - 1=(k:Nat) by omega,show (1:Int)+(k:Nat)=((k+1:Nat):Int) by omega,jO (n5 (by omega))]
   walk_at "mx"
   rw [jO (n5 (by omega))]
   walk_at "mx"
   rfl)]
  rw [List.map_map,show ((ns.length:Int) - 1).toNat=ns.length - 1 by omega]
  congr 3
  refine List.map_congr_left fun k hk=>?_
  show nbL ns (.d (.int (1+(k:Nat))))=_
  rw [show (1:Int)+(k:Nat)=((k+1:Nat):Int) by omega]
  rfl
 rw [key]
 walk_at "mx"
 rw [qr,qt]
 walk_at "mx"
 rw [aJ]
theorem u6 {t:Tri} {S:Sto}:oIx (.d (ba t)) (.d (.int 0)) S=.ok (.d (.int t.1)) S:=cv rfl
theorem zr {t:Tri} {S:Sto}:oIx (.d (ba t)) (.d (.int 1)) S=.ok (.d (.int t.2.1)) S:=cv rfl
theorem zt {t:Tri} {S:Sto}:oIx (.d (ba t)) (.d (.int 2)) S=.ok (.d (.int t.2.2)) S:=cv rfl
theorem z_ {t:Tri} {S:Sto}:bA [.d (ba t)] S=.ok (.d (.int 3)) S:=nO
theorem As {t:Tri}:isT "tuple" (ba t)=true:=rfl
theorem uv {a b lo hi:Int} {S:Sto} (h:lo≤a∧a≤b∧b≤hi):iN [.d (.int a),.d (.int b),.d (.int lo),.d (.int hi)] S=.ok (.d (.bl true)) S:=by
 unfold iN
 rw [nJ]
 unfold nB
 walk_at "mx"
 rw [eY (by omega)]
 walk_at "mx"
 rw [eY (by omega)]
 walk_at "mx"
 rw [decide_eq_true h.2.1,aJ]
theorem sv {t:Tri} {S:Sto} (h:(-9≤t.1∧t.1≤9)∧0≤t.2.1∧t.2.1≤t.2.2∧t.2.2≤4):gq [.d (ba t)] S=.ok (.d (.bl true)) S:=by
 unfold gq
 rw [bO]
 unfold mx
 walk_at "mx"
 rw [As]
 walk_at "mx"
 rw [z_]
 walk_at "mx"
 rw [u6]
 walk_at "mx"
 rw [eY h.1]
 walk_at "mx"
 rw [zr]
 walk_at "mx"
 rw [zt]
 walk_at "mx"
 rw [uv (by omega)]
 walk_at "mx"
 rw [aJ]
theorem pJ {bs:List Tri} {S:Sto} (g:bo bs):eT [.d (.tup (bs.map ba))] S=.ok (.d (.bl true)) S:=by
 have hl:=g.le
 unfold eT
 rw [bO]
 unfold ku
 walk_at "mx"
 rw [oq]
 walk_at "mx"
 rw [List.length_map,decide_eq_false (by omega)]
 walk_at "mx"
 rw [dG (show _=kq [some (.d (.tup (bs.map ba)))] S from rfl) (xs:=bs.map ba) (S1:=S) (by walk_at "mx") (fun _=>.bl true) (by
  intro x hx S
  obtain ⟨b,hb,rfl⟩:=List.mem_map.mp hx
  walk_at "mx"
  rw [sv (g.lim b hb)]
  walk_at "mx")]
 walk_at "mx"
 rw [all_true]
 walk_at "mx"
 rw [dG (show _=j7 [some (.d (.tup (bs.map ba)))] S from rfl) (xs:=bs.map ba) (S1:=S) (by walk_at "mx") (fun x=>match x with | .tup (y :: _)=>y | z=>z) (by
  intro x hx S
  obtain ⟨b,hb,rfl⟩:=List.mem_map.mp hx
  walk_at "mx"
  rw [u6]
  rfl)]
 walk_at "mx"
 rw [List.map_map,show ((fun x:D=>(match x with | .tup (y :: _)=>y | z=>z)) ∘ ba)=fun b:Tri=>D.int b.1 from rfl,show (bs.map fun b:Tri=>D.int b.1)=(bs.map (·.1)).map D.int by rw [List.map_map];rfl,nZ (by rw [List.length_map];omega),decide_eq_true g.rise]
 walk_at "mx"
 rw [aJ]
theorem gJ {it:XI} {t:XT} {e:XE} {τ:Nv} {S S1:Sto} {r:R Vl} (hC:xLC it 1 (gNm 0) t e τ S=r) {α:Type} {d g:α→D} {xs:List α} (hit:it τ S=.ok ⟨xs.map fun x=>Vl.d (d x),none⟩ S1) (p:α→Bool) (ht:∀ x∈xs,∀ S:Sto,t (some (.d (d x)) :: τ) S=.ok (p x) S) (he:∀ x∈xs,p x=true→∀ S:Sto,e (some (.d (d x)) :: τ) S=.ok (.d (g x)) S):r=.ok (.d (.lst ((xs.filter p).map g))) S1:=by
 obtain ⟨acc,Q,e1,hl,rfl,rfl⟩:=pW hC hit (fun i acc Q=>acc=((xs.take i).filter p).map g∧Q=S1) ⟨by simp,rfl⟩ (by
  rintro i z acc Q hz ⟨rfl,rfl⟩ _
  rw [List.getElem?_map] at hz
  cases q:xs[i]? with
  | none=>rw [q] at hz;cases hz
  | some x=>
   rw [q] at hz
   cases hz
   have hx:=List.mem_of_getElem? q
   refine ⟨p x,Q,ht x hx _,rfl,fun hb=>⟨g x,Q,he x hx hb _,rfl,?_,rfl⟩,fun hb=>⟨?_,rfl⟩⟩
   ·rw [take_snoc q,List.filter_append,List.map_append]
    simp [hb]
   ·rw [take_snoc q,List.filter_append]
    simp [hb])
 rw [e1,List.length_map,List.take_length]
theorem dR {ws:List Int}:(ws.map D.int).map Vl.d=ws.map fun x=>Vl.d (.int x):=by rw [List.map_map];rfl
theorem oy {bs:List Tri}:(bs.map ba).map Vl.d=bs.map fun b=>Vl.d (ba b):=by rw [List.map_map];rfl
theorem lcG {it:XI} {k:Nat} {g:XG} {t:XT} {e:XE} {τ:Nv} {S S1:Sto} {items:List Vl} (hit:it τ S=.ok ⟨items,none⟩ S1) (own:Vl→Nv) (f:Vl→D) (p:Vl→Bool) (hown:∀ z∈items,(own z).length=k) (hg:∀ z∈items,∀ ρ:Nv,ρ.length=k→∀ S:Sto,g z (ρ++τ) S=.ok (own z++τ) S)
  (ht:∀ z∈items,∀ S:Sto,t (own z++τ) S=.ok (p z) S) (he:∀ z∈items,p z=true→∀ S:Sto,e (own z++τ) S=.ok (.d (f z)) S):xLC it k g t e τ S=.ok (.d (.lst ((items.filter p).map f))) S1:=by
 have key:∀ (zs:List Vl) (acc:List D) (ρ:Nv),(∀ z∈zs,z∈items)→ρ.length=k→eA g t e S1.length none zs acc (ρ++τ) (S1++[.lst acc])=.ok (acc++(zs.filter p).map f) (S1++[.lst (acc++(zs.filter p).map f)]):=by
  intro zs
  induction zs with
  | nil=>
   intro acc ρ _ _
   rw [eA,if_pos (by simp)]
   simp
  | cons z zs ih=>
   intro acc ρ hz hl
   have hm:=hz z (List.mem_cons_self ..)
   rw [eA,hg z hm ρ hl,aI,ht z hm,aI]
   by_cases hp:p z=true
   ·rw [if_pos hp,he z hm hp,aI]
    dsimp only
    rw [if_pos ⟨by simp,True.intro⟩]
    rw [show (S1++[Ob.lst acc]).set S1.length (.lst (acc++[f z]))=S1++[.lst (acc++[f z])] by simp]
    rw [ih (acc++[f z]) (own z) (fun y hy=>hz y (List.mem_cons_of_mem _ hy)) (hown z hm),List.filter_cons_of_pos hp,List.map_cons,List.append_assoc]
    rfl
   ·rw [if_neg hp,if_pos (show gok none (S1++[Ob.lst acc]) from True.intro),ih acc (own z) (fun y hy=>hz y (List.mem_cons_of_mem _ hy)) (hown z hm),List.filter_cons_of_neg hp]
 show (it τ S).bind _=_
 rw [hit,aI]
 dsimp only
 rw [key items [] (List.replicate k none) (fun _ h=>h) (by simp),aI]
 unfold lJ
 rw [if_pos (by simp),List.take_left]
 simp
theorem ft {xs:List D}:D.bG xs []=xs.isEmpty:=by cases xs<;>simp [D.bG]
theorem jG {ns:List Int} {S:Sto}:bA [.d (ak ns)] S=.ok (.d (.int ns.length)) S:=by unfold ak;rw [nO,List.length_map]
theorem lV {ns:List Int} {v:Int} {S:Sto}:oIn (.d (.int v)) (.d (ak ns)) S=.ok (.d (.bl (decide (v∈ns)))) S:=zY
theorem c_ {ns:List Int} {v:Int} {S:Sto}:ee (.d (.int v)) (.d (ak ns)) S=.ok (.d (.bl (!decide (v∈ns)))) S:=xx
theorem dS {α:Type} {l:List α} {q:α→Bool}:(l.filter q).isEmpty=l.all fun x=>!q x:=by
 induction l with
 | nil=>rfl
 | cons x l ih=>cases h:q x<;>simp [List.filter_cons,h,ih]
theorem dn {α β:Type} {f:α→β} {l:List α}:(l.map f).isEmpty=l.isEmpty:=by cases l<;>rfl
theorem jw {α:Type} (l:List α):D.depth (.lst (l.map fun _=>D.int 1))≤50:=by
 rw [show (l.map fun _=>D.int 1)=(l.map fun _=>(1:Int)).map D.int by rw [List.map_map];rfl,D.depth,eV]
 decide
theorem ints_list {s:List Int} {S:Sto}:l7 [.d (ak s)] S=.ok (.d (.lst (s.map D.int))) S:=by
 unfold ak
 walk_at "mx"
theorem zN {α β:Type} {f:α→β}:∀ {l:List α},l.Nodup→(∀ x∈l,∀ y∈l,f x=f y→x=y)→(l.map f).Nodup
 | [],_,_=>List.nodup_nil
 | a :: l,h,k=>by
  rw [List.nodup_cons] at h
  rw [List.map_cons,List.nodup_cons]
  refine ⟨fun hm=>?_,zN h.2 fun x hx y hy=>k x (List.mem_cons_of_mem _ hx) y (List.mem_cons_of_mem _ hy)⟩
  obtain ⟨y,hy,e⟩:=List.mem_map.mp hm
  have:=k a (List.mem_cons_self ..) y (List.mem_cons_of_mem _ hy) e.symm
  exact h.1 (this ▸ hy)
theorem Bv {s:List Int} {S:Sto} (h:s.length≤60):oSS (.d (ak s)) S=.ok (.d (.lst ((aV s).map D.int))) S:=Fs (ns:=s) rfl (by omega) (by have:=oS s;omega)
theorem ug {v:Int} {S:Sto}:eJ [.d (.int v)] S=.ok (.d (.bl true)) S:=by
 unfold eJ
 rw [bO]
 unfold kh
 walk_at "mx"
 rw [show isT "int" (.int v)=true from rfl]
 walk_at "mx"
 rw [show isT "bool" (.int v)=false from rfl]
 walk_at "mx"
 rw [aJ]
theorem y9 {kvs:List (Key×D)} {yd z:D} {k:Key} {S:Sto} (hk:eX yd=some k) (hv:dq kvs k=some z):oDx (.fd kvs) (.d yd) S=.ok (.d z) S:=by
 unfold oDx
 dsimp only
 rw [hk]
 simp only [eZ,hv]
theorem rN {S:Sto} {x:Ob}:(S++[x])[S.length]?=some x:=by simp
theorem lI {S:Sto} {x y:Ob}:(S++[x]).set S.length y=S++[y]:=by simp
theorem pR {S R:Sto} {kvs:List (Key×D)}:frz (.r S.length) (S++[.dct kvs])=.ok (.fd kvs) (S++[.dead]):=by
 unfold frz
 simp
theorem xn {S R:Sto} {kvs:List (Key×D)} {τ:Nv}:leave S (.ok (.rt (.fd kvs),τ) (S++R))=.ok (.fd kvs) S:=by
 unfold leave out
 simp
theorem qp {kvs:List (Key×D)} {k:Key} {v:D} (h:k∉kvs.map (·.1)):putD kvs k v=kvs++[(k,v)]:=by
 unfold putD
 rw [if_neg]
 intro z
 obtain ⟨x,hx,hk⟩:=List.any_eq_true.mp z
 exact h (List.mem_map.mpr ⟨x,hx,by simpa using hk⟩)
theorem oA:∀ {l kvs:List (Key×D)},(l.map (·.1)).Nodup→(∀ k∈l.map (·.1),k∉kvs.map (·.1))→d7 kvs l=kvs++l
 | [],kvs,_,_=>by simp [d7]
 | p :: l,kvs,hn,hd=>by
  rw [List.map_cons] at hn hd
  obtain ⟨h1,h2⟩:=List.nodup_cons.mp hn
  show d7 (putD kvs p.1 p.2) l=_
  rw [qp (hd p.1 (by simp)),oA h2,List.append_assoc]
  ·rfl
  ·intro k hk z
   rw [List.map_append] at z
   rcases List.mem_append.mp z with z | z
   ·exact hd k (by simp [hk]) z
   ·rw [List.map_cons,List.map_nil,List.mem_singleton] at z
    exact h1 (z ▸ hk)
theorem qe {t:XT} {e:XE} {τ:Nv} {S1:Sto} {n:Nat} {ob:Ob} {α:Type} {d g:α→D} (hn:S1[n]?=some ob) (p:α→Bool):∀ (xs:List α) (acc:List D) (ρ:Nv),ρ.length=1→(∀ x∈xs,∀ S:Sto,t (some (.d (d x)) :: τ) S=.ok (p x) S)→(∀ x∈xs,p x=true→∀ S:Sto,e (some (.d (d x)) :: τ) S=.ok (.d (g x)) S) →
  eA (gNm 0) t e S1.length (some (n,ob)) (xs.map fun x=>Vl.d (d x)) acc (ρ++τ) (S1++[.lst acc])=.ok (acc++(xs.filter p).map g) (S1++[.lst (acc++(xs.filter p).map g)])
 | [],acc,ρ,_,_,_=>by
  rw [List.map_nil,eA,if_pos (by simp)]
  simp
 | x :: xs,acc,[r],hρ,ht,he=>by
  have hlt:n < S1.length:=(List.getElem?_eq_some_iff.mp hn).1
  have gk:∀ l,gok (some (n,ob)) (S1++[Ob.lst l]):=fun l=>by
   show (S1++[Ob.lst l])[n]?=some ob
   rw [List.getElem?_append_left hlt];exact hn
  have set_top:∀ l l',(S1++[Ob.lst l]).set S1.length (.lst l')=S1++[.lst l']:=fun l l'=>by simp
  rw [List.map_cons,eA]
  rw [show gNm 0 (Vl.d (d x)) ([r]++τ) (S1++[.lst acc])=.ok (some (.d (d x)) :: τ) (S1++[.lst acc]) from rfl,aI,ht x (by simp),aI]
  cases hp:p x with
  | true=>
   rw [if_pos rfl,he x (by simp) hp,aI]
   dsimp only
   rw [if_pos ⟨by simp,by rw [set_top];exact gk _⟩,set_top]
   have:=qe hn p (d:=d) (g:=g) xs (acc++[g x]) [some (.d (d x))] rfl (fun y hy=>ht y (by simp [hy])) (fun y hy=>he y (by simp [hy]))
   rw [List.filter_cons,if_pos hp,List.map_cons]
   simpa using this
  | false=>
   rw [if_neg (by decide),if_pos (gk _)]
   have:=qe hn p (d:=d) (g:=g) xs acc [some (.d (d x))] rfl (fun y hy=>ht y (by simp [hy])) (fun y hy=>he y (by simp [hy]))
   rw [List.filter_cons,if_neg (by simp [hp])]
   exact this
theorem qo {it:XI} {t:XT} {e:XE} {τ:Nv} {S S1:Sto} {r:R Vl} (hC:xLC it 1 (gNm 0) t e τ S=r) {α:Type} {d g:α→D} {xs:List α} {n:Nat} {ob:Ob} (hit:it τ S=.ok ⟨xs.map fun x=>Vl.d (d x),some (n,ob)⟩ S1) (hn:S1[n]?=some ob) (p:α→Bool) (ht:∀ x∈xs,∀ S:Sto,t (some (.d (d x)) :: τ) S=.ok (p x) S) (he:∀ x∈xs,p x=true→∀ S:Sto,e (some (.d (d x)) :: τ) S=.ok (.d (g x)) S):r=.ok (.d (.lst ((xs.filter p).map g))) S1:=by
 rw [← hC]
 unfold xLC rF
 rw [hit,aI]
 dsimp only
 rw [show (List.replicate 1 (none:Option Vl)++τ)=[none]++τ from rfl,qe hn p xs [] [none] rfl ht he,aI]
 unfold lJ
 simp
theorem Ds {a:XE} {τ:Nv} {xs:List D} {n:Nat} {S S1:Sto} (ha:a τ S=.ok (.r n) S1) (hn:S1[n]?=some (.lst xs)):bz a τ S=.ok ⟨xs.map Vl.d,some (n,.lst xs)⟩ S1:=by unfold bz;rw [ha,aI];simp [hn]
theorem f_:∀ l:List (List Int),D.cA (l.map ak)≤1
 | []=>by simp [D.cA]
 | f :: l=>by
  have:=f_ l
  rw [List.map_cons,D.cA,show D.depth (ak f)=1 by unfold ak;rw [D.depth,eV]]
  omega
local macro_rules | `(tactic| walk_at "my") => `(tactic| repeat (first | walk_at "mx" | simp only [jG, lV, c_, List.length_map]))
def a8 (ns:List Int) (bs:List Tri):D:=.tup [.str "many",ak ns,.tup (bs.map ba)]
theorem pV {ns:List Int} {bs:List Tri} {S:Sto}:oIx (.d (a8 ns bs)) (.d (.int 0)) S=.ok (.d (.str "many")) S:=cv rfl
theorem lR {ns:List Int} {bs:List Tri} {S:Sto}:oIx (.d (a8 ns bs)) (.d (.int 1)) S=.ok (.d (ak ns)) S:=cv rfl
theorem m9 {ns:List Int} {bs:List Tri} {S:Sto}:oIx (.d (a8 ns bs)) (.d (.int 2)) S=.ok (.d (.tup (bs.map ba))) S:=cv rfl
theorem sW {ns:List Int} {bs:List Tri} {S:Sto}:bA [.d (a8 ns bs)] S=.ok (.d (.int 3)) S:=nO
theorem v3:decide ((Str.ofString "many":Str)=Str.ofString "unlike")=false:=by decide +kernel
theorem uP {ns:List Int} {bs:List Tri} {S:Sto} (g:bo bs):iE [.d (a8 ns bs)] S=.ok (.d (.bl true)) S:=by
 unfold iE
 rw [bO]
 unfold nI
 walk_at "mx"
 rw [sW]
 walk_at "mx"
 rw [m9]
 walk_at "mx"
 rw [pJ g]
 walk_at "mx"
 rw [aJ]
theorem Bu {ns:List Int} {bs:List Tri} {S:Sto} (g:bo bs):de [.d (a8 ns bs)] S=.ok (.d (.bl true)) S:=by
 unfold de
 rw [bO]
 unfold f9
 walk_at "mx"
 rw [pV]
 walk_at "mx"
 rw [v3]
 walk_at "mx"
 rw [uP g]
 walk_at "mx"
 rw [aJ]
theorem uD {ns:List Int} {bs:List Tri} {k:Nat} {S:Sto} (g:bX k ns) (gb:bo bs) (hk:k≤4):iJ [.d (a8 ns bs)] S=.ok (.d (.bl true)) S:=by
 unfold iJ
 rw [bO]
 unfold mX
 walk_at "mx"
 rw [show isT "tuple" (a8 ns bs)=true from rfl]
 walk_at "mx"
 rw [sW]
 walk_at "mx"
 rw [show decide ((3:Int) < 2)=false from rfl]
 walk_at "mx"
 rw [lR]
 walk_at "mx"
 rw [qU g hk]
 walk_at "mx"
 rw [Bu gb]
 walk_at "mx"
 rw [aJ]
theorem pD {wss:List (List Int)} {ns:List Int} {bs:List Tri} {S:Sto} (g:bX wss.length ns) (gb:bo bs) (hk:wss.length≤4):eO [.d (au wss),.d (a8 ns bs)] S=.ok (.d (.bl true)) S:=by
 unfold eO
 rw [c8]
 unfold ka
 walk_at "mx"
 rw [uD g gb hk]
 walk_at "mx"
 rw [dG (show _=j5 [some (.d (au wss)),some (.d (a8 ns bs))] S from rfl) (xs:=ns.map D.int) (S1:=S) (by walk_at "mx";rw [lR];rfl) (fun _=>.bl true) (by
  intro x hx S
  obtain ⟨v,hv,rfl⟩:=List.mem_map.mp hx
  have:=g.dom v hv
  unfold au
  walk_at "mx"
  rw [List.length_map,decide_eq_true this.2])]
 walk_at "mx"
 rw [all_true]
 walk_at "mx"
 rw [aJ]
theorem se {wss:List (List Int)} {ns:List Int} {bs:List Tri} {x:Vl} {S:Sto} (g:bX wss.length ns) (gb:bo bs) (hk:wss.length≤4):fu [.d (au wss),.d (a8 ns bs),x] S=.ok (.d .non) S:=by
 unfold fu
 rw [dk]
 unfold kW
 walk_at "mx"
 rw [pD g gb hk]
 walk_at "mx"
 rw [jT,il,List.take_length]
theorem z6 {wss:List (List Int)} {n m:Int} {ns:List Int} {bs:List Tri} {S:Sto} (gs:cN n m wss) (hn:n≤4) (hm:m≤4) (g:bX wss.length ns) (gb:bo bs):nc [.d (au wss),.d (a8 ns bs)] S=.ok (.d .non) S:=by
 have:=gs.le
 unfold nc
 rw [c8]
 unfold tw
 walk_at "mx"
 rw [pO gs hn hm]
 walk_at "mx"
 rw [se g gb (by omega)]
 walk_at "mx"
 rw [jT,il,List.take_length]
theorem rS {wss:List (List Int)} {n m:Int} {ns:List Int} {bs:List Tri} {S:Sto} (gs:cN n m wss) (hn:n≤4) (hm:m≤4) (g:bX wss.length ns) (gb:bo bs):fA [.d (au wss),.d (a8 ns bs),.d (.str "many")] S=.ok (.d .non) S:=by
 unfold fA
 rw [dk]
 unfold kN
 walk_at "mx"
 rw [z6 gs hn hm g gb]
 walk_at "mx"
 rw [pV]
 walk_at "mx"
 rw [jT,il,List.take_length]
theorem uW {o:Ob} {R:Sto} {wss:List (List Int)} {n m:Int} (hp:Pen o) (gs:cN n m wss) (hn:n≤50) (hm:m≤50):∃ (ns:List Int) (bs:List Tri) (o':Ob),bX wss.length ns∧bo bs∧Pen o'∧fD [.r 0,.d (au wss),.d (.int 1)] (o :: R)=.ok (.d (a8 ns bs)) (o' :: R):=by
 have:=gs.le
 obtain ⟨ns,o1,gn,hp1,e1⟩:=pM (R:=R) hp gs.pos (by omega)
 obtain ⟨bs,o2,gb,hp2,e2⟩:=vx (R:=R) hp1 gs hn hm
 refine ⟨ns,bs,o2,gn,gb,hp2,?_⟩
 unfold fD
 rw [dk]
 unfold kL
 walk_at "mx"
 rw [e1]
 walk_at "mx"
 rw [show decide ((1:Int)=0)=false from rfl]
 walk_at "mx"
 rw [e2]
 walk_at "mx"
 rw [bE,fh]
 rfl
def cx (b:Tri):Key×D:=(.inl b.1,.int b.2.1)
def bN (b:Tri):Key×D:=(.inl b.1,.int b.2.2)
def dY (b:Tri):Key×D:=(.inl b.1,ba b)
def aS (bs:List Tri):List Int:=bs.map (·.1)
theorem jr {bs:List Tri} {g:Tri→Key×D} {S:Sto} (h:∀ b,(g b).1=.inl b.1) (gb:bo bs):fDL [.d (.lst (bs.map fun b=>D.tup [.int b.1,(g b).2]))] S=.ok (.r S.length) (S++[.dct (bs.map g)]):=by
 have e:eg (bs.map fun b=>D.tup [.int b.1,(g b).2])=some (bs.map g):=by
  have:∀ l:List Tri,eg (l.map fun b=>D.tup [.int b.1,(g b).2])=some (l.map g):=fun l=>by
   induction l with
   | nil=>rfl
   | cons b l ih=>
    rw [List.map_cons,List.map_cons,eg,ih]
    simp only [eX]
    rw [← h b]
  exact this bs
 have hl:=gb.le
 unfold fDL
 dsimp only
 rw [show cu (.d (.lst (bs.map fun b=>D.tup [.int b.1,(g b).2]))) S=some (bs.map fun b=>D.tup [.int b.1,(g b).2]) from rfl,Option.bind_some,e]
 dsimp only
 rw [if_pos (by rw [List.length_map];omega),oA]
 ·rfl
 ·rw [List.map_map]
  have e2:(bs.map ((fun x=>x.1) ∘ g))=(bs.map (·.1)).map Sum.inl:=by
   rw [List.map_map]
   exact List.map_congr_left fun b _=>h b
  rw [e2]
  exact zN (gb.rise.imp fun z=>by omega) fun x _ y _ z=>Sum.inl.inj z
 ·simp
theorem uO {bs:List Tri} {S:Sto} (gb:bo bs):iH [.d (.tup (bs.map ba))] S=.ok (.fd (bs.map cx)) S:=by
 unfold iH
 rw [bO]
 unfold m6
 have e:jz [some (.d (.tup (bs.map ba)))] S=.ok (.d (.lst (bs.map fun b=>D.tup [.int b.1,(cx b).2]))) S:=by
  unfold jz
  rw [lcG (items:=bs.map fun b=>Vl.d (ba b)) (S1:=S) (by walk_at "mx";rw [oy]) (fun z=>match z with | .d (.tup [a,b,c])=>[some (.d a),some (.d b),some (.d c)] | _=>[none,none,none]) (fun z=>match z with | .d (.tup [a,b,c])=>.tup [a,b] | _=>.non) (fun _=>true) ?_ ?_ ?_ ?_]
  ·rw [List.filter_eq_self.mpr (fun _ _=>rfl),List.map_map]
   rfl
  ·intro z hz
   obtain ⟨b,_,rfl⟩:=List.mem_map.mp hz
   rfl
  ·intro z hz ρ hρ S
   obtain ⟨b,_,rfl⟩:=List.mem_map.mp hz
   match ρ,hρ with
   | [_,_,_],_=>unfold ba;walk_at "mx"
  ·intro z hz S
   rfl
  ·intro z hz _ S
   obtain ⟨b,_,rfl⟩:=List.mem_map.mp hz
   unfold ba
   dsimp only
   walk_at "mx"
 walk_at "mx"
 rw [e]
 walk_at "mx"
 rw [jr (fun _=>rfl) gb]
 walk_at "mx"
 rw [pR (R:=[])]
 walk_at "mx"
 rw [xn]
theorem sH {bs:List Tri} {S:Sto} (gb:bo bs):gC [.d (.tup (bs.map ba))] S=.ok (.fd (bs.map bN)) S:=by
 unfold gC
 rw [bO]
 unfold mq
 have e:iZ [some (.d (.tup (bs.map ba)))] S=.ok (.d (.lst (bs.map fun b=>D.tup [.int b.1,(bN b).2]))) S:=by
  unfold iZ
  rw [lcG (items:=bs.map fun b=>Vl.d (ba b)) (S1:=S) (by walk_at "mx";rw [oy]) (fun z=>match z with | .d (.tup [a,b,c])=>[some (.d a),some (.d b),some (.d c)] | _=>[none,none,none]) (fun z=>match z with | .d (.tup [a,b,c])=>.tup [a,c] | _=>.non) (fun _=>true) ?_ ?_ ?_ ?_]
  ·rw [List.filter_eq_self.mpr (fun _ _=>rfl),List.map_map]
   rfl
  ·intro z hz
   obtain ⟨b,_,rfl⟩:=List.mem_map.mp hz
   rfl
  ·intro z hz ρ hρ S
   obtain ⟨b,_,rfl⟩:=List.mem_map.mp hz
   match ρ,hρ with
   | [_,_,_],_=>unfold ba;walk_at "mx"
  ·intro z hz S
   rfl
  ·intro z hz _ S
   obtain ⟨b,_,rfl⟩:=List.mem_map.mp hz
   unfold ba
   dsimp only
   walk_at "mx"
 walk_at "mx"
 rw [e]
 walk_at "mx"
 rw [jr (fun _=>rfl) gb]
 walk_at "mx"
 rw [pR (R:=[])]
 walk_at "mx"
 rw [xn]
def bI (bs:List Tri) (w:Int):Tri:=(bs.find? fun b=>decide (b.1=w)).getD (0,0,0)
theorem nU {bs:List Tri} {w:Int} (h:w∈aS bs):bI bs w∈bs∧(bI bs w).1=w:=by
 obtain ⟨b,hb,rfl⟩:=List.mem_map.mp h
 have:(bs.find? fun x=>decide (x.1=b.1)).isSome:=List.find?_isSome.mpr ⟨b,hb,by simp⟩
 obtain ⟨c,hc⟩:=Option.isSome_iff_exists.mp this
 unfold bI
 rw [hc]
 exact ⟨List.mem_of_find?_eq_some hc,by simpa using List.find?_some hc⟩
theorem x8 {bs:List Tri} {g:Tri→Key×D} {w:Int} (hg:∀ b,(g b).1=.inl b.1):dq (bs.map g) (.inl w)=if w∈aS bs then some (g (bI bs w)).2 else none:=by
 induction bs with
 | nil=>rfl
 | cons b bs ih=>
  rw [List.map_cons]
  by_cases h:b.1=w
  ·rw [gP (by rw [hg,h]),if_pos (by simp [aS,h])]
   simp [bI,List.find?_cons,h]
  ·rw [fi (fun z=>h (by rw [hg] at z;exact Sum.inl.inj z)),ih]
   have e1:w∈aS (b :: bs)↔w∈aS bs:=by
    simp only [aS,List.map_cons,List.mem_cons]
    exact ⟨fun z=>z.resolve_left fun q=>h q.symm,.inr⟩
   have e2:bI (b :: bs) w=bI bs w:=by simp [bI,List.find?_cons,h]
   rw [e2]
   by_cases q:w∈aS bs
   ·rw [if_pos q,if_pos (e1.mpr q)]
   ·rw [if_neg q,if_neg (fun z=>q (e1.mp z))]
theorem tX {bs:List Tri} {g:Tri→Key×D} {w:Int} {S:Sto} (hg:∀ b,(g b).1=.inl b.1):jV (.d (.int w)) (.fd (bs.map g)) S=.ok (.d (.bl (!decide (w∈aS bs)))) S:=by
 unfold jV lT
 dsimp only [eX,eZ]
 rw [x8 hg]
 by_cases h:w∈aS bs
 ·rw [if_pos h,decide_eq_true h];rfl
 ·rw [if_neg h,decide_eq_false h];rfl
theorem dxB {bs:List Tri} {g:Tri→Key×D} {w:Int} {S:Sto} (hg:∀ b,(g b).1=.inl b.1) (h:w∈aS bs):oDx (.fd (bs.map g)) (.d (.int w)) S=.ok (.d (g (bI bs w)).2) S:=y9 (k:=.inl w) rfl (by rw [x8 hg,if_pos h])
theorem wg {α:Type} {f:α→Int} {l:List α} {S:Sto} (hl:l.length≤1000) (h:∀ x∈l,-1000000≤f x∧f x≤1000000):nV [.d (.lst (l.map fun x=>D.int (f x)))] S=.ok (.d (.int (l.map f).sum)) S:=by
 unfold nV
 dsimp only
 rw [show (cu (.d (.lst (l.map fun x=>D.int (f x)))) S).bind intsOf=some (l.map f) from by
  show intsOf _=_
  rw [mB f l]]
 dsimp only
 rw [if_pos ⟨by rw [List.length_map];exact hl,fun n hn=>by obtain ⟨x,hx,rfl⟩:=List.mem_map.mp hn;exact h x hx⟩]
def tooMany (wss:List (List Int)) (bs:List Tri) (ps:List Int):Bool:=((aV (bf wss ps)).all fun w=>decide (w∈aS bs)) && decide (((aV (bf wss ps)).map fun w=>(bI bs w).2.2).sum < (ps.length:Int))
def gp (wss:List (List Int)) (ns ps:List Int):List Int:=ns.filter fun n=>(wss.getD n.toNat []).any fun w=>decide (w∈ps)
def mI (wss:List (List Int)) (ns:List Int) (bs:List Tri) (ps:List Int):Bool:=decide (((gp wss ns ps).length:Int) < (ps.map fun w=>(bI bs w).2.1).sum)
def bR (wss:List (List Int)) (ns:List Int) (bs:List Tri) (nm:Bool) (ps:List Int):Bool:=!decide (ps=[]) && (decide (ps.Pairwise (· < ·)) && (if nm then ps.all (fun p=>decide (p∈ns)) && tooMany wss bs ps else ps.all (fun p=>decide (p∈aS bs)) && mI wss ns bs ps))
def cD (nm:Bool) (ps:List Int):D:=.tup [.str (if nm then "names" else "worths"),ak ps]
theorem je {bs:List Tri} {w:Int} (gb:bo bs):(0≤(bI bs w).2.1∧(bI bs w).2.1≤4)∧0≤(bI bs w).2.2∧(bI bs w).2.2≤4:=by
 by_cases h:w∈aS bs
 ·have:=gb.lim _ (nU h).1
  omega
 ·have:bs.find? (fun b=>decide (b.1=w))=none:=List.find?_eq_none.mpr fun b hb z=>h (List.mem_map.mpr ⟨b,hb,by simpa using z⟩)
  unfold bI
  rw [this]
  decide
theorem um {wss:List (List Int)} {n m:Int} {ps:List Int} (gs:cN n m wss) (hn:∀ p∈ps,0≤p∧p < (wss.length:Int)):(aV (bf wss ps)).length < 64:=by
 have h1:∀ x∈aV (bf wss ps),-9≤x∧x < 10:=fun x hx=>by
  rw [cE] at hx
  obtain ⟨p,hp,hx⟩:=List.mem_flatMap.mp hx
  have:=hn p hp
  have:=(gs.all _ (iI this.1 this.2)).lim x hx
  omega
 have:=iw _ (-9) 10 (by decide) (b6 (bf wss ps)) h1
 omega
theorem qM {nm:Bool} {ps:List Int} {S:Sto}:oIx (.d (cD nm ps)) (.d (.int 0)) S=.ok (.d (.str (if nm then "names" else "worths"))) S:=cv rfl
theorem fG {nm:Bool} {ps:List Int} {S:Sto}:oIx (.d (cD nm ps)) (.d (.int 1)) S=.ok (.d (ak ps)) S:=cv rfl
theorem Ef:decide ((Str.ofString "worths":Str)=Str.ofString "names")=false:=by decide +kernel
theorem tK {ps:List Int} {S:Sto} (hl:ps.length≤60):dP [.d (ak ps)] S=.ok (.d (.bl (!decide (ps=[]) && decide (ps.Pairwise (· < ·))))) S:=by
 unfold dP
 rw [bO]
 unfold iC
 walk_at "mx"
 rw [show isT "tuple" (ak ps)=true from rfl]
 walk_at "mx"
 rw [show oEq (.d (ak ps)) (.d (.tup [])) S=.ok (.d (.bl (decide (ps=[])))) S from by
  unfold ak
  rw [FN (by rw [D.depth,eV];decide),show ([]:List D)=([]:List Int).map D.int from rfl,lB]]
 walk_at "mx"
 by_cases h1:ps=[]
 ·rw [decide_eq_true h1]
  walk_at "mx"
  rw [aJ]
  rfl
 ·rw [decide_eq_false h1]
  walk_at "mx"
  rw [gJ (show _=iL [some (.d (ak ps))] S from rfl) (d:=D.int) (g:=fun _=>D.int 1) (xs:=ps) (S1:=S) (by
   unfold ak
   walk_at "mx"
   rw [dR]) (fun _=>false) (fun n _ S=>by
   walk_at "mx"
   rw [ug]
   walk_at "mx") (fun n _ h S=>by cases h)]
  rw [show ps.filter (fun _=>false)=[] by simp]
  walk_at "mx"
  rw [h9 (by decide),show D.bG [] []=true from rfl]
  walk_at "mx"
  rw [ints_list]
  walk_at "mx"
  rw [Bv hl]
  walk_at "mx"
  rw [BJ (by rw [D.depth,eV];decide),lB,show decide (ps=aV ps)=decide (ps.Pairwise (· < ·)) from decide_eq_decide.mpr yN]
  walk_at "mx"
  rw [aJ]
  simp
theorem jM {a b:List Int} (h:a.Perm b):a.sum=b.sum:=by
 induction h with
 | nil=>rfl
 | cons x _ ih=>rw [List.sum_cons,List.sum_cons,ih]
 | swap x y l=>simp only [List.sum_cons];omega
 | trans _ _ i j=>rw [i,j]
theorem r_ {wss:List (List Int)} {ns:List Int} {bs:List Tri} {nm:Bool} {ps:List Int} {S:Sto} {x3 x4 x5 x6:Option Vl}:ez [some (.d (au wss)),some (.d (a8 ns bs)),some (.d (cD nm ps)),x3,x4,x5,x6] S=.ok (.d (.lst (bs.map fun b=>D.tup [.int b.1,(dY b).2]))) S:=by
 rw [dG (show _=ez [some (.d (au wss)),some (.d (a8 ns bs)),some (.d (cD nm ps)),x3,x4,x5,x6] S from rfl) (xs:=bs.map ba) (S1:=S) (by walk_at "mx";rw [m9]) (fun x=>match x with | .tup (y :: z)=>.tup [y,.tup (y :: z)] | z=>z) (by
  intro x hx S
  obtain ⟨b,hb,rfl⟩:=List.mem_map.mp hx
  walk_at "mx"
  rw [u6]
  walk_at "mx"
  rfl)]
 rw [List.map_map]
 rfl
theorem Ci {wss:List (List Int)} {n m:Int} {ns:List Int} {bs:List Tri} {ps:List Int} {S:Sto} {x6:Option Vl} (gs:cN n m wss) (hm:m≤4) (hn:∀ p∈ps,0≤p∧p < (wss.length:Int)) (hl:ps.length≤60) :
  ∃ (ws:List Int) (y5:Option Vl),ws.Nodup∧(∀ x,x∈ws↔x∈bf wss ps)∧eo [some (.d (au wss)),some (.d (a8 ns bs)),some (.d (cD true ps)),some (.fd (bs.map dY)),some (.r S.length),none,x6] (S++[.lst []])=.ok (.nx,[some (.d (au wss)),some (.d (a8 ns bs)),some (.d (cD true ps)),some (.fd (bs.map dY)),some (.r S.length),y5,x6]) (S++[.lst (ws.map D.int)]):=by
 obtain ⟨τ',S',e,ws,y5,h1,h2,rfl,rfl⟩:=d5 (show _=eo [some (.d (au wss)),some (.d (a8 ns bs)),some (.d (cD true ps)),some (.fd (bs.map dY)),some (.r S.length),none,x6] (S++[.lst []]) from rfl)
   (S1:=S++[.lst []]) (items:=(ps.map D.int).map Vl.d) (gd:=none) (by walk_at "mx";rw [fG];unfold ak;walk_at "mx")
   (fun i τ S'=>∃ (ws:List Int) (y5:Option Vl),ws.Nodup∧(∀ x,x∈ws↔x∈bf wss (ps.take i))∧τ=[some (.d (au wss)),some (.d (a8 ns bs)),some (.d (cD true ps)),some (.fd (bs.map dY)),some (.r S.length),y5,x6]∧S'=S++[.lst (ws.map D.int)]) ⟨[],none,.nil,fun x=>by simp [bf],rfl,rfl⟩ (by
    rintro i z τ S' hz ⟨ws,y5,h1,h2,rfl,rfl⟩
    obtain ⟨p,ep,rfl⟩:=ints_get hz
    obtain ⟨p0,p1⟩:=hn p (List.mem_of_getElem? ep)
    have gw:=gs.all _ (iI p0 p1)
    have hwl:=gw.le
    have hfew:ws.length≤200:=by
     have e1:=jD h1
     have h3:∀ x∈aV ws,-9≤x∧x < 10:=fun x hx=>by
      rw [cE,h2] at hx
      obtain ⟨q,hq,hx⟩:=List.mem_flatMap.mp hx
      have hq:=hn q (List.mem_of_mem_take hq)
      have:=(gs.all _ (iI hq.1 hq.2)).lim x hx
      omega
     have:=iw _ (-9) 10 (by decide) (b6 ws) h3
     omega
    refine ⟨_,_,.nx,_,_,by walk_at "mx";rfl,by
     walk_at "mx"
     obtain ⟨acc,Q,e1,_,rfl,rfl⟩:=pW (show _=ij [some (.d (au wss)),some (.d (a8 ns bs)),some (.d (cD true ps)),some (.fd (bs.map dY)),some (.r S.length),some (.d (.int p)),x6] (S++[.lst (ws.map D.int)]) from rfl) (S1:=S++[.lst (ws.map D.int)]) (items:=((wss.getD p.toNat []).map D.int).map Vl.d) (by
      walk_at "mx"
      unfold au
      rw [cv (jC p0 p1)]
      unfold ak
      walk_at "mx") (fun i acc Q=>acc=(((wss.getD p.toNat []).take i).filter fun w=>!decide (w∈ws)).map D.int∧Q=S++[.lst (ws.map D.int)]) ⟨by simp,rfl⟩ (by
      rintro i z acc Q hz ⟨rfl,rfl⟩ _
      obtain ⟨w,ew,rfl⟩:=ints_get hz
      refine ⟨!decide (w∈ws),S++[.lst (ws.map D.int)],?_,rfl,fun hb=>⟨.int w,_,by walk_at "mx",rfl,?_,rfl⟩,fun hb=>⟨?_,rfl⟩⟩
      ·walk_at "mx"
       rw [nK (ns:=ws) (by simp)]
       walk_at "mx"
      ·rw [take_snoc ew,List.filter_append,List.map_append]
       simp at hb
       simp [hb]
      ·rw [take_snoc ew,List.filter_append]
       simp at hb
       simp [hb])
     rw [e1,show (((wss.getD p.toNat []).map D.int).map Vl.d).length=(wss.getD p.toNat []).length by simp,List.take_length]
     walk_at "mx"
     rw [wA (by
      have:=List.length_filter_le (fun w=>!decide (w∈ws)) (wss.getD p.toNat [])
      simp only [List.length_map]
      omega)]
     walk_at "mx"
     rw [← List.map_append],.inl rfl,True.intro,ws++(wss.getD p.toNat []).filter (fun w=>!decide (w∈ws)),some (.d (.int p)),?_,?_,rfl,rfl⟩
    ·refine List.nodup_append.mpr ⟨h1,(gw.rise.imp fun z=>by omega).sublist List.filter_sublist,fun a ha b hb=>?_⟩
     rintro rfl
     have:=(List.mem_filter.mp hb).2
     simp [ha] at this
    ·intro x
     rw [take_snoc ep,pz,List.mem_append,List.mem_append,← h2,List.mem_filter]
     by_cases hx:x∈ws<;>simp [hx])
 rw [show ((ps.map D.int).map Vl.d).length=ps.length by simp,List.take_length] at h2
 exact ⟨ws,y5,h1,h2,e⟩
theorem yt {wss:List (List Int)} {n m:Int} {ns:List Int} {bs:List Tri} {ps:List Int} {S:Sto} (gs:cN n m wss) (hm:m≤4) (gn:bX wss.length ns) (gb:bo bs) (hl:ps.length≤60):bZ [.d (au wss),.d (a8 ns bs),.d (cD true ps)] S=.ok (.d (.bl (bR wss ns bs true ps))) S:=by
 unfold bZ
 rw [dk]
 unfold eh bR
 rw [if_pos rfl]
 walk_at "mx"
 rw [fG]
 walk_at "mx"
 rw [tK hl]
 by_cases h1:ps=[]
 ·rw [decide_eq_true h1]
  simp only [Bool.not_true,Bool.not_false,Bool.false_and,Bool.true_and,Bool.and_false,Bool.and_true]
  walk_at "mx"
  rw [aJ]
 by_cases h2:¬ps.Pairwise (· < ·)
 ·rw [decide_eq_false h2]
  simp only [Bool.not_true,Bool.not_false,Bool.false_and,Bool.true_and,Bool.and_false,Bool.and_true]
  walk_at "mx"
  rw [aJ]
 rw [decide_eq_false h1,decide_eq_true (Decidable.of_not_not h2)]
 simp only [Bool.not_true,Bool.not_false,Bool.false_and,Bool.true_and,Bool.and_false,Bool.and_true]
 walk_at "mx"
 rw [r_]
 walk_at "mx"
 rw [jr (fun _=>rfl) gb]
 walk_at "mx"
 rw [pR (R:=[])]
 walk_at "mx"
 rw [qM,if_pos rfl]
 walk_at "mx"
 rw [gJ (show _=ip [some (.d (au wss)),some (.d (a8 ns bs)),some (.d (cD true ps)),some (.fd (bs.map dY)),none,none,none] (S++[.dead]) from rfl) (d:=D.int) (g:=fun _=>D.int 1) (xs:=ps) (S1:=S++[.dead]) (by
  walk_at "mx"
  rw [fG]
  unfold ak
  walk_at "mx"
  rw [dR]) (fun p=>!decide (p∈ns)) (fun p _ S=>by
  walk_at "mx"
  rw [lR]
  walk_at "my") (fun p _ _ S=>by walk_at "mx")]
 walk_at "mx"
 rw [h9 (jw _),ft,dn,dS]
 simp only [Bool.not_not]
 cases h3:ps.all fun p=>decide (p∈ns) with
 | false=>
  walk_at "mx"
  rw [fm]
  rfl
 | true=>
  walk_at "mx"
  have h3:=List.all_eq_true.mp h3
  have hd:∀ p∈ps,0≤p∧p < (wss.length:Int):=fun p hp=>gn.dom p (by simpa using h3 p hp)
  obtain ⟨ws,y5,k1,k2,e⟩:=Ci (n:=n) (m:=m) (ns:=ns) (bs:=bs) (S:=S++[.dead]) (x6:=none) gs hm hd hl
  rw [e]
  have hpm:ws.Perm (aV (bf wss ps)):=(List.perm_ext_iff_of_nodup k1 ((b6 _).imp fun z=>by omega)).mpr fun x=>by rw [cE,k2]
  have hfew:=um gs hd
  have hlen:=hpm.length_eq
  have hg:∀ l,(S++[Ob.dead]++[Ob.lst (ws.map D.int)]++l)[(S++[Ob.dead]).length]?=some (.lst (ws.map D.int)):=fun l=>by simp
  have hg0:=hg []
  rw [List.append_nil] at hg0
  walk_at "mx"
  rw [qo (show _=ib [some (.d (au wss)),some (.d (a8 ns bs)),some (.d (cD true ps)),some (.fd (bs.map dY)),some (.r (S++[Ob.dead]).length),y5,none] (S++[Ob.dead]++[.lst (ws.map D.int)]) from rfl) (d:=D.int) (g:=fun _=>D.int 1) (xs:=ws) (S1:=S++[Ob.dead]++[.lst (ws.map D.int)]) (by
   rw [Ds (by walk_at "mx") hg0,dR]) hg0 (fun p=>!decide (p∈aS bs)) (fun p _ S=>by
   walk_at "mx"
   rw [tX (fun _=>rfl)]
   walk_at "mx") (fun p _ _ S=>by walk_at "mx")]
  walk_at "mx"
  rw [h9 (jw _),ft,dn,dS]
  simp only [Bool.not_not]
  unfold tooMany
  rw [show ((aV (bf wss ps)).all fun w=>decide (w∈aS bs))=ws.all fun w=>decide (w∈aS bs) from by
   rw [Bool.eq_iff_iff,List.all_eq_true,List.all_eq_true]
   exact ⟨fun h x hx=>h x (hpm.mem_iff.mp hx),fun h x hx=>h x (hpm.mem_iff.mpr hx)⟩]
  cases h4:ws.all fun w=>decide (w∈aS bs) with
  | false=>
   walk_at "mx"
   rw [List.append_assoc,fm]
   rfl
  | true=>
   have h4:=List.all_eq_true.mp h4
   walk_at "mx"
   rw [qo (show _=ig [some (.d (au wss)),some (.d (a8 ns bs)),some (.d (cD true ps)),some (.fd (bs.map dY)),some (.r (S++[Ob.dead]).length),y5,none] (S++[Ob.dead]++[.lst (ws.map D.int)]) from rfl) (d:=D.int) (g:=fun w=>D.int (bI bs w).2.2) (xs:=ws) (S1:=S++[Ob.dead]++[.lst (ws.map D.int)]) (by
    rw [Ds (by walk_at "mx") hg0,dR]) hg0 (fun _=>true) (fun p _ S=>rfl) (fun w hw _ S=>by
    walk_at "mx"
    rw [dxB (fun _=>rfl) (by simpa using h4 w hw)]
    walk_at "mx"
    rw [show (dY (bI bs w)).2=ba (bI bs w) from rfl,zt])]
   rw [List.filter_eq_self.mpr (fun _ _=>rfl)]
   walk_at "mx"
   rw [wg (by omega) (fun w _=>by have:=je (w:=w) gb;omega)]
   walk_at "mx"
   rw [fG]
   walk_at "my"
   rw [List.append_assoc,fm,jM (hpm.map fun w=>(bI bs w).2.2)]
   simp
theorem xk {wss:List (List Int)} {ns:List Int} {bs:List Tri} {ps:List Int} {S:Sto} (gn:bX wss.length ns) (gb:bo bs) (hl:ps.length≤60):bZ [.d (au wss),.d (a8 ns bs),.d (cD false ps)] S=.ok (.d (.bl (bR wss ns bs false ps))) S:=by
 unfold bZ
 rw [dk]
 unfold eh bR
 rw [if_neg (by decide)]
 walk_at "mx"
 rw [fG]
 walk_at "mx"
 rw [tK hl]
 by_cases h1:ps=[]
 ·rw [decide_eq_true h1]
  simp only [Bool.not_true,Bool.not_false,Bool.false_and,Bool.true_and,Bool.and_false,Bool.and_true]
  walk_at "mx"
  rw [aJ]
 by_cases h2:¬ps.Pairwise (· < ·)
 ·rw [decide_eq_false h2]
  simp only [Bool.not_true,Bool.not_false,Bool.false_and,Bool.true_and,Bool.and_false,Bool.and_true]
  walk_at "mx"
  rw [aJ]
 rw [decide_eq_false h1,decide_eq_true (Decidable.of_not_not h2)]
 simp only [Bool.not_true,Bool.not_false,Bool.false_and,Bool.true_and,Bool.and_false,Bool.and_true]
 walk_at "mx"
 rw [r_]
 walk_at "mx"
 rw [jr (fun _=>rfl) gb]
 walk_at "mx"
 rw [pR (R:=[])]
 walk_at "mx"
 rw [qM,if_neg (by decide)]
 walk_at "mx"
 rw [Ef]
 walk_at "mx"
 rw [gJ (show _=ik [some (.d (au wss)),some (.d (a8 ns bs)),some (.d (cD false ps)),some (.fd (bs.map dY)),none,none,none] (S++[.dead]) from rfl) (d:=D.int) (g:=fun _=>D.int 1) (xs:=ps) (S1:=S++[.dead]) (by
  walk_at "mx"
  rw [fG]
  unfold ak
  walk_at "mx"
  rw [dR]) (fun p=>!decide (p∈aS bs)) (fun p _ S=>by
  walk_at "mx"
  rw [tX (fun _=>rfl)]
  walk_at "mx") (fun p _ _ S=>by walk_at "mx")]
 walk_at "mx"
 rw [h9 (jw _),ft,dn,dS]
 simp only [Bool.not_not]
 cases h3:ps.all fun p=>decide (p∈aS bs) with
 | false=>
  walk_at "mx"
  rw [fm]
  rfl
 | true=>
  walk_at "mx"
  have h3:=List.all_eq_true.mp h3
  obtain ⟨τ',S',e,y5,rfl,rfl⟩:=d5 (show _=gQ [some (.d (au wss)),some (.d (a8 ns bs)),some (.d (cD false ps)),some (.fd (bs.map dY)),none,none,some (.d (.int 0))] (S++[.dead]) from rfl)
   (S1:=S++[.dead]) (items:=(ns.map D.int).map Vl.d) (gd:=none) (by walk_at "mx";rw [lR];unfold ak;walk_at "mx")
   (fun i τ S'=>∃ (y5:Option Vl),τ=[some (.d (au wss)),some (.d (a8 ns bs)),some (.d (cD false ps)),some (.fd (bs.map dY)),none,y5,some (.d (.int (gp wss (ns.take i) ps).length))]∧S'=S++[.dead]) ⟨none,rfl,rfl⟩ (by
    rintro i z τ S' hz ⟨y5,rfl,rfl⟩
    obtain ⟨p,ep,rfl⟩:=ints_get hz
    obtain ⟨p0,p1⟩:=gn.dom p (List.mem_of_getElem? ep)
    refine ⟨_,_,.nx,_,_,by walk_at "mx";rfl,by
     walk_at "mx"
     rw [gJ (show _=gR [some (.d (au wss)),some (.d (a8 ns bs)),some (.d (cD false ps)),some (.fd (bs.map dY)),none,some (.d (.int p)),some (.d (.int (gp wss (ns.take i) ps).length))] (S++[.dead]) from rfl) (d:=D.int) (g:=D.int) (xs:=wss.getD p.toNat []) (S1:=S++[.dead]) (by
      walk_at "mx"
      unfold au
      rw [cv (jC p0 p1)]
      unfold ak
      walk_at "mx"
      rw [dR]) (fun w=>decide (w∈ps)) (fun w _ S=>by
      walk_at "mx"
      rw [fG]
      walk_at "my") (fun w _ _ S=>by walk_at "mx")]
     walk_at "mx"
     rw [h9 (by rw [D.depth,eV];decide),ft,dn,dS]
     walk_at "mx"
     rfl,.inl rfl,True.intro,some (.d (.int p)),?_,rfl⟩
    have ea:(!(wss.getD p.toNat []).all fun w=>!decide (w∈ps))=(wss.getD p.toNat []).any fun w=>decide (w∈ps):=by
     rw [List.not_all_eq_any_not]
     simp
    unfold gp
    rw [ea,take_snoc ep,List.filter_append,List.length_append]
    by_cases hq:((wss.getD p.toNat []).any fun w=>decide (w∈ps))=true
    ·rw [hq,List.filter_cons,if_pos hq]
     simp
    ·rw [Bool.not_eq_true] at hq
     rw [hq,List.filter_cons_of_neg (by rw [hq];decide)]
     simp)
  rw [e]
  rw [show ((ns.map D.int).map Vl.d).length=ns.length by simp,List.take_length]
  walk_at "mx"
  rw [dG (show _=f7 [some (.d (au wss)),some (.d (a8 ns bs)),some (.d (cD false ps)),some (.fd (bs.map dY)),none,y5,some (.d (.int (gp wss ns ps).length))] (S++[.dead]) from rfl) (xs:=ps.map D.int) (S1:=S++[.dead]) (by walk_at "mx";rw [fG];rfl) (fun x=>match x with | .int w=>.int (bI bs w).2.1 | _=>.non) (by
   intro x hx S
   obtain ⟨w,hw,rfl⟩:=List.mem_map.mp hx
   walk_at "mx"
   rw [dxB (fun _=>rfl) (by simpa using h3 w hw)]
   walk_at "mx"
   rw [show (dY (bI bs w)).2=ba (bI bs w) from rfl,zr])]
  walk_at "mx"
  rw [List.map_map,show ((fun x:D=>(match x with | .int w=>D.int (bI bs w).2.1 | _=>.non)) ∘ D.int)=fun w:Int=>D.int (bI bs w).2.1 from rfl,wg (by omega) (fun w _=>by have:=je (w:=w) gb;omega)]
  walk_at "mx"
  rw [fm]
  rfl
abbrev Se:=List (Int×Int)
def bD (wss:List (List Int)) (n:Int):List Int:=wss.getD n.toNat []
def b7 (M:Se) (n w:Int):Se:=if (M.any fun p=>decide (p.1=n))=true then M.map (fun p=>if p.1=n then (n,w) else p) else M++[(n,w)]
theorem dg {M:Se} {n w:Int} {p:Int×Int}:p∈b7 M n w↔p=(n,w)∨(p∈M∧p.1≠n):=by
 unfold b7
 split
 ·rename_i h
  obtain ⟨q,hq,hn⟩:=List.any_eq_true.mp h
  have hn:q.1=n:=by simpa using hn
  rw [List.mem_map]
  constructor
  ·rintro ⟨r,hr,rfl⟩
   by_cases e:r.1=n
   ·exact .inl (if_pos e)
   ·rw [if_neg e];exact .inr ⟨hr,e⟩
  ·rintro (rfl | ⟨h1,h2⟩)
   ·exact ⟨q,hq,if_pos hn⟩
   ·exact ⟨p,h1,if_neg h2⟩
 ·rename_i h
  have hno:∀ q∈M,q.1≠n:=fun q hq e=>h (List.any_eq_true.mpr ⟨q,hq,by simpa using e⟩)
  rw [List.mem_append,List.mem_singleton]
  constructor
  ·rintro (h1 | h1)
   ·exact .inr ⟨h1,hno p h1⟩
   ·exact .inl h1
  ·rintro (h1 | h1)
   ·exact .inr h1
   ·exact .inl h1.1
theorem lF {M:Se} {n w:Int}:(b7 M n w).map (·.1)=if n∈M.map (·.1) then M.map (·.1) else M.map (·.1)++[n]:=by
 have e:(M.any fun p=>decide (p.1=n))=decide (n∈M.map (·.1)):=by
  rw [Bool.eq_iff_iff,List.any_eq_true,decide_eq_true_iff,List.mem_map]
  exact ⟨fun ⟨q,h1,h2⟩=>⟨q,h1,by simpa using h2⟩,fun ⟨q,h1,h2⟩=>⟨q,h1,by simpa using h2⟩⟩
 unfold b7
 rw [e]
 by_cases h:n∈M.map (·.1)
 ·rw [if_pos h,decide_eq_true h,if_pos rfl,List.map_map]
  refine List.map_congr_left fun p _=>?_
  show (if p.1=n then (n,w) else p).1=p.1
  split
  ·rename_i z;exact z.symm
  ·rfl
 ·rw [if_neg h,decide_eq_false h,if_neg (by decide),List.map_append]
  rfl
theorem kI {α β:Type} {f:α→β} {l:List α} (h:(l.map f).Nodup) {x y:α} (hx:x∈l) (hy:y∈l) (e:f x=f y):x=y:=by
 induction l with
 | nil=>cases hx
 | cons a l ih=>
  rw [List.map_cons,List.nodup_cons] at h
  rcases List.mem_cons.mp hx with ex | hx'
  ·rcases List.mem_cons.mp hy with ey | hy'
   ·rw [ex,ey]
   ·exact absurd (List.mem_map.mpr ⟨y,hy',by rw [← e,ex]⟩) h.1
  ·rcases List.mem_cons.mp hy with ey | hy'
   ·exact absurd (List.mem_map.mpr ⟨x,hx',by rw [e,ey]⟩) h.1
   ·exact ih h.2 hx' hy'
theorem sV {M:Se} {n w x:Int}:x∈(b7 M n w).map (·.1)↔x∈M.map (·.1)∨x=n:=by
 rw [lF]
 split
 ·rename_i h
  exact ⟨.inl,fun z=>z.elim id fun e=>e ▸ h⟩
 ·rw [List.mem_append,List.mem_singleton]
def unA (M:Se) (A:List Int):Nat:=(M.filter fun p=>!decide (p.2∈A)).length
theorem jB {M:Se} {A B:List Int} (h:∀ x∈A,x∈B):unA M B≤unA M A:=by
 unfold unA
 induction M with
 | nil=>simp
 | cons p M ih=>
  simp only [List.filter_cons]
  by_cases h1:p.2∈A
  ·simp only [h1,h _ h1,decide_true,Bool.not_true,Bool.false_eq_true,if_false];exact ih
  ·by_cases h2:p.2∈B
   ·simp only [h1,h2,decide_true,decide_false,Bool.not_true,Bool.not_false,Bool.false_eq_true,if_false,if_true,List.length_cons];omega
   ·simp only [h1,h2,decide_false,Bool.not_false,if_true,List.length_cons];omega
theorem qK {M:Se} {A:List Int} {n w:Int} (hs:(n,w)∈M) (ha:w∉A):unA M (A++[w]) < unA M A:=by
 unfold unA
 induction M with
 | nil=>cases hs
 | cons p M ih=>
  simp only [List.filter_cons]
  rcases List.mem_cons.mp hs with rfl | hs
  ·have:=jB (M:=M) (A:=A) (B:=A++[w]) fun x hx=>List.mem_append_left _ hx
   unfold unA at this
   simp only [ha,List.mem_append,List.mem_singleton,or_true,decide_true,decide_false,Bool.not_true,Bool.not_false,Bool.false_eq_true,if_false,if_true,List.length_cons]
   simp only [List.mem_append,List.mem_singleton] at this
   omega
  ·have:=ih hs
   by_cases h1:p.2∈A
   ·simp only [h1,List.mem_append,true_or,decide_true,Bool.not_true,Bool.false_eq_true,if_false]
    simp only [List.mem_append] at this
    exact this
   ·by_cases h2:p.2=w
    ·simp only [h1,h2,ha,List.mem_append,List.mem_singleton,or_true,decide_true,decide_false,Bool.not_true,Bool.not_false,Bool.false_eq_true,if_false,if_true,List.length_cons]
     simp only [List.mem_append,List.mem_singleton] at this
     omega
    ·simp only [h1,h2,List.mem_append,List.mem_singleton,or_false,decide_false,Bool.not_false,if_true,List.length_cons]
     simp only [List.mem_append,List.mem_singleton] at this
     omega
def seD (p:Int×Int):Key×D:=(.inl p.1,.int p.2)
def asD (w:Int):Key×D:=(.inl w,.bl true)
def Zs (S:Sto) (a b:Nat) (M:Se) (A:List Int):Sto:=(S.set a (.dct (M.map seD))).set b (.dct (A.map asD))
section
variable {S:Sto} {a b:Nat} {M M':Se} {A A':List Int}
theorem bg:(Zs S a b M A).length=S.length:=by unfold Zs;simp
theorem z_s (ha:a < S.length) (hab:a≠b):(Zs S a b M A)[a]?=some (.dct (M.map seD)):=by
 unfold Zs
 rw [List.getElem?_set_ne (fun z=>hab z.symm),List.getElem?_set,if_pos rfl,if_pos ha]
theorem z_a (hb:b < S.length):(Zs S a b M A)[b]?=some (.dct (A.map asD)):=by
 unfold Zs
 rw [List.getElem?_set,if_pos rfl,if_pos (by simpa using hb)]
theorem vL (hab:a≠b):(Zs S a b M A).set a (.dct (M'.map seD))=Zs S a b M' A:=by
 unfold Zs
 rw [List.set_comm _ _ (fun z=>hab z.symm),List.set_set]
theorem wR:(Zs S a b M A).set b (.dct (A'.map asD))=Zs S a b M A':=by unfold Zs;rw [List.set_set]
theorem i8 {N:Se} {B:List Int}:(Zs S a b M A).take (Zs S a b N B).length=Zs S a b M A:=by
 rw [bg,← bg (M:=M) (A:=A) (a:=a) (b:=b),List.take_length]
end
theorem nC {M:Se} (h:(M.map (·.1)).Nodup) {p:Int×Int} (hp:p∈M):dq (M.map seD) (.inl p.1)=some (.int p.2):=by
 induction M with
 | nil=>cases hp
 | cons q M ih=>
  rw [List.map_cons,List.nodup_cons] at h
  rw [List.map_cons]
  rcases List.mem_cons.mp hp with e | hp'
  ·subst e;exact gP rfl
  ·rw [fi,ih h.2 hp']
   intro z
   exact h.1 (by rw [Sum.inl.inj (show (Sum.inl q.1:Key)=.inl p.1 from z)];exact List.mem_map.mpr ⟨p,hp',rfl⟩)
theorem EZ {α:Type} {f:α→Key×D} {g:α→Int} {l:List α} {w:Int} (hf:∀ x,(f x).1=.inl (g x)):(dq (l.map f) (.inl w)).isSome=decide (w∈l.map g):=by
 induction l with
 | nil=>rfl
 | cons x l ih=>
  rw [List.map_cons,List.map_cons]
  by_cases h:g x=w
  ·rw [gP (by rw [hf,h]),decide_eq_true (by simp [h])];rfl
  ·rw [fi (fun z=>h (by rw [hf] at z;exact Sum.inl.inj z)),ih]
   congr 1
   rw [List.mem_cons,eq_iff_iff]
   exact ⟨.inr,fun z=>z.resolve_left fun q=>h q.symm⟩
theorem gy {n:Nat} {A:List Int} {w:Int} {S:Sto} (e:S[n]?=some (.dct (A.map asD))):mJ (.d (.int w)) (.r n) S=.ok (.d (.bl (decide (w∈A)))) S:=by
 unfold mJ lT
 dsimp only [eX,eZ]
 rw [e]
 dsimp only
 rw [EZ (g:=id) (fun _=>rfl),List.map_id]
theorem dput {o i e:XE} {τ:Nv} {S:Sto} {n:Nat} {k:Int} {zd:D} {kvs:List (Key×D)} (he:e τ S=.ok (.d zd) S) (ho:o τ S=.ok (.r n) S) (hi:i τ S=.ok (.d (.int k)) S) (hk:S[n]?=some (.dct kvs)) (hl:kvs.length < 100000):fw o i e τ S=.ok (.nx,τ) (S.set n (.dct (putD kvs (.inl k) zd))):=by
 unfold fw
 rw [he,aI,ho,aI,hi,aI]
 dsimp only [eX]
 rw [hk]
 dsimp only
 rw [if_pos hl]
theorem vE {M:Se} {n w:Int}:putD (M.map seD) (.inl n) (.int w)=(b7 M n w).map seD:=by
 have e:((M.map seD).any fun kv=>decide (kv.1=(.inl n:Key)))=M.any fun p=>decide (p.1=n):=by
  rw [List.any_map]
  congr 1
  funext p
  show decide ((Sum.inl p.1:Key)=.inl n)=decide (p.1=n)
  exact decide_eq_decide.mpr ⟨fun z=>Sum.inl.inj z,fun z=>by rw [z]⟩
 unfold putD b7
 rw [e]
 split
 ·rw [List.map_map,List.map_map]
  refine List.map_congr_left fun p _=>?_
  show (if (Sum.inl p.1:Key)=.inl n then ((Sum.inl p.1:Key),D.int w) else seD p)=seD (if p.1=n then (n,w) else p)
  by_cases h:p.1=n
  ·rw [if_pos h,if_pos (by rw [h]),h];rfl
  ·rw [if_neg h,if_neg (fun z=>h (Sum.inl.inj z))]
 ·rw [List.map_append];rfl
theorem wt {A:List Int} {w:Int} (h:w∉A):putD (A.map asD) (.inl w) (.bl true)=(A++[w]).map asD:=by
 rw [qp,List.map_append]
 ·rfl
 ·intro z
  rw [List.map_map] at z
  obtain ⟨x,hx,e⟩:=List.mem_map.mp z
  exact h (by rw [← Sum.inl.inj (show (Sum.inl x:Key)=.inl w from e)];exact hx)
theorem kH {i:Nat} {a:XE} {τ:Nv} {S:Sto} {n:Nat} {kvs:List (Key×D)} {x:D} (h1:τ[i]?=some (some (.r n))) (h2:S[n]?=some (.dct kvs)) (h3:a (τ.set i (some (.fd kvs))) (S.set n .dead)=.ok (.d x) (S.set n .dead)):iS i a τ S=.ok (.d x) S:=by
 unfold iS
 rw [h1]
 dsimp only
 rw [h2]
 dsimp only
 rw [h3,aI]
 dsimp only
 rw [List.set_set]
 congr 1
 apply List.ext_getElem?
 intro j
 rw [List.getElem?_set]
 split
 ·rename_i q
  subst q
  rw [if_pos (List.getElem?_eq_some_iff.mp h2).1,h2]
 ·rfl
def atW (M:Se) (w:Int):Se:=M.filter fun p=>decide (p.2=w)
theorem iQ {M:Se} {w:Int} {n:Nat} {S:Sto} (hn:S[n]?=some (.dct (M.map seD))) (hk:(M.map (·.1)).Nodup):cF [.r n,.d (.int w)] S=.ok (.d (.lst ((atW M w).map fun p=>D.int p.1))) S:=by
 unfold cF
 rw [c8]
 unfold kU
 walk_at "mx"
 rw [kH (x:=.lst ((atW M w).map fun p=>D.int p.1)) rfl hn (by
  show ir [some (.fd (M.map seD)),some (.d (.int w))] (S.set n .dead)=_
  rw [gJ (show _=ir [some (.fd (M.map seD)),some (.d (.int w))] (S.set n .dead) from rfl) (d:=fun p:Int×Int=>D.int p.1) (g:=fun p=>D.int p.1) (xs:=M) (S1:=S.set n .dead) (by
   unfold mC
   walk_at "mx"
   rw [aI]
   dsimp only
   rw [List.map_map]
   rfl) (fun p=>decide (p.2=w)) (fun p hp S=>by
   walk_at "mx"
   rw [y9 (k:=.inl p.1) rfl (nC hk hp)]
   walk_at "mx") (fun p _ _ S=>by walk_at "mx")]
  rfl)]
 walk_at "mx"
 rw [aJ]
structure AOk (A:List Int):Prop where
 nd:A.Nodup
 lim:∀ x∈A,-9≤x∧x < 10
theorem AOk.len {A:List Int} (h:AOk A):A.length≤19:=by
 have:=iw _ (-9) 10 (by decide) (b6 A) fun x hx=>h.lim x ((cE x _).mp hx)
 rw [jD h.nd] at this
 omega
theorem AOk.snoc {A:List Int} {w:Int} (h:AOk A) (hw:w∉A) (hl:-9≤w∧w < 10):AOk (A++[w]):=
 ⟨List.nodup_append.mpr ⟨h.nd,by simp,fun a ha b hb e=>hw (by rw [← List.mem_singleton.mp hb,← e];exact ha)⟩,fun x hx=>by
  rcases List.mem_append.mp hx with z | z
  ·exact h.lim x z
  ·rw [List.mem_singleton.mp z];exact hl⟩
theorem cL {α:Type} [DecidableEq α]:∀ {l1 l2:List α},l1.Nodup→(∀ x∈l1,x∈l2)→l1.length≤l2.length
 | [],_,_,_=>by simp
 | x :: l1,l2,h,k=>by
  obtain ⟨h1,h2⟩:=List.nodup_cons.mp h
  have hx:=k x (by simp)
  have:=cL (l1:=l1) (l2:=l2.erase x) h2 fun y hy=>(List.mem_erase_of_ne (fun z:y=x=>h1 (z ▸ hy))).mpr (k y (by simp [hy]))
  rw [List.length_erase_of_mem hx] at this
  have:=List.length_pos_of_mem hx
  rw [List.length_cons]
  omega
theorem C3 {S:Sto} {a b:Nat} {M:Se} {A:List Int} (h1:S[a]?=some (.dct (M.map seD))) (h2:S[b]?=some (.dct (A.map asD))):Zs S a b M A=S:=by
 unfold Zs
 have e:∀ {T:Sto} {j:Nat} {x:Ob},T[j]?=some x→T.set j x=T:=fun {T j x} h=>by
  apply List.ext_getElem?
  intro k
  rw [List.getElem?_set]
  split
  ·rename_i q;subst q;rw [if_pos (List.getElem?_eq_some_iff.mp h).1,h]
  ·rfl
 rw [e h1,e h2]
def aZ (M:Se) (w:Int):Nat:=(atW M w).length
def hiB (bs:List Tri) (w:Int):Int:=(bI bs w).2.2
def loB (bs:List Tri) (w:Int):Int:=(bI bs w).2.1
structure OkC (wss:List (List Int)) (ns:List Int) (bs:List Tri) (M:Se):Prop where
 kn:(M.map (·.1)).Nodup
 mem:∀ p∈M,p.1∈ns∧p.2∈bD wss p.1
 cap:∀ w∈aS bs,(aZ M w:Int)≤hiB bs w
def nj (bs:List Tri) (M:Se) (w:Int):Prop:=w∈aS bs∧hiB bs w≤(aZ M w:Int)
theorem c6 {M:Se} {w:Int} {p:Int×Int}:p∈atW M w↔p∈M∧p.2=w:=by
 unfold atW
 rw [List.mem_filter]
 simp
theorem uC {M:Se} (h:(M.map (·.1)).Nodup) (w:Int):(atW M w).Nodup:=by
 have:M.Nodup:=by
  rw [List.Nodup,List.pairwise_map] at h
  exact h.imp fun z e=>z (by rw [e])
 exact this.sublist List.filter_sublist
theorem ou {M:Se} {n w:Int} (h:(M.map (·.1)).Nodup):((b7 M n w).map (·.1)).Nodup:=by
 rw [lF]
 split
 ·exact h
 ·rename_i z
  refine List.nodup_append.mpr ⟨h,by simp,fun a ha b hb e=>z ?_⟩
  rw [List.mem_singleton.mp hb] at e
  exact e ▸ ha
theorem AL {M:Se} {n w x:Int} (h:(M.map (·.1)).Nodup):aZ (b7 M n w) x≤aZ M x+(if x=w then 1 else 0):=by
 unfold aZ
 by_cases e:x=w
 ·rw [if_pos e]
  have:=cL (l1:=atW (b7 M n w) x) (l2:=(n,w) :: atW M x) (uC (ou h) x) fun p hp=>by
   obtain ⟨h1,h2⟩:=c6.mp hp
   rcases dg.mp h1 with rfl | ⟨h3,_⟩
   ·simp
   ·exact List.mem_cons_of_mem _ (c6.mpr ⟨h3,h2⟩)
  simpa using this
 ·rw [if_neg e]
  exact cL (uC (ou h) x) fun p hp=>by
   obtain ⟨h1,h2⟩:=c6.mp hp
   rcases dg.mp h1 with rfl | ⟨h3,_⟩
   ·exact absurd h2.symm e
   ·exact c6.mpr ⟨h3,h2⟩
theorem qh {wss:List (List Int)} {ns:List Int} {bs:List Tri} {M:Se} {n w:Int} (h:OkC wss ns bs M) (hn:n∈ns) (hw:w∈bD wss n) (hr:w∈aS bs→(aZ M w:Int) < hiB bs w):OkC wss ns bs (b7 M n w) where
 kn:=ou h.kn
 mem:=fun p hp=>by
  rcases dg.mp hp with rfl | ⟨h1,_⟩
  ·exact ⟨hn,hw⟩
  ·exact h.mem p h1
 cap:=fun x hx=>by
  have a:=AL (n:=n) (w:=w) (x:=x) h.kn
  have b:=h.cap x hx
  by_cases e:x=w
  ·rw [if_pos e] at a
   have c:=hr (e ▸ hx)
   rw [← e] at c
   omega
  ·rw [if_neg e] at a
   omega
def fS (wss:List (List Int)) (ns:List Int) (bs:List Tri) (M:Se) (A:List Int) (n:Int) (M':Se) (A':List Int):Prop:=OkC wss ns bs M'∧(∀ x,x∈M'.map (·.1)↔x∈M.map (·.1)∨x=n)∧(∀ p∈M',p.2∈A→p∈M∧p.1≠n)∧∀ x∈A,x∈A'
def lY (wss:List (List Int)) (bs:List Tri) (M:Se) (A A':List Int):Prop:=∀ x∈A',x∉A→nj bs M x∧∀ p∈M,p.2=x→∀ w∈bD wss p.1,w∈A'
def qQ (wss:List (List Int)) (bs:List Tri) (M:Se) (A:List Int) (n:Int) (A':List Int):Prop:=(∀ x∈A,x∈A')∧(∀ w∈bD wss n,w∈A')∧lY wss bs M A A'
theorem Cu {wss:List (List Int)} {ns:List Int} {bs:List Tri} {M:Se} {A A1:List Int} {n w:Int} (h:OkC wss ns bs M) (hn:n∈ns) (hw:w∈bD wss n) (hA:∀ x∈A,x∈A1) (ha:w∉A) (hr:¬nj bs M w):fS wss ns bs M A n (b7 M n w) (A1++[w]):=by
 refine ⟨qh h hn hw (fun z=>?_),fun x=>sV,fun p hp hpa=>?_,fun x hx=>List.mem_append_left _ (hA x hx)⟩
 ·have:¬hiB bs w≤(aZ M w:Int):=fun q=>hr ⟨z,q⟩
  omega
 ·rcases dg.mp hp with rfl | z
  ·exact absurd hpa ha
  ·exact z
theorem AU {wss:List (List Int)} {ns:List Int} {bs:List Tri} {M M1:Se} {A A1 B A2:List Int} {n w n1:Int} (h:OkC wss ns bs M) (hn:n∈ns) (hw:w∈bD wss n) (hA:∀ x∈A,x∈A1) (hB:∀ x∈A1,x∈B) (hwB:w∈B) (ha:w∉A1) (hs:(n1,w)∈M) (hp:fS wss ns bs M B n1 M1 A2):fS wss ns bs M A n (b7 M1 n w) A2:=by
 obtain ⟨h1,h2,h3,h4⟩:=hp
 have hlt:aZ M1 w < aZ M w:=by
  have:=cL (l1:=(n1,w) :: atW M1 w) (l2:=atW M w) (List.nodup_cons.mpr ⟨fun z=>by
   obtain ⟨z1,_⟩:=c6.mp z
   exact (h3 _ z1 hwB).2 rfl,uC h1.kn w⟩) fun p hp=>by
   rcases List.mem_cons.mp hp with rfl | hp
   ·exact c6.mpr ⟨hs,rfl⟩
   ·obtain ⟨z1,z2⟩:=c6.mp hp
    exact c6.mpr ⟨(h3 p z1 (by rw [z2];exact hwB)).1,z2⟩
  rw [List.length_cons] at this
  exact this
 refine ⟨qh h1 hn hw (fun z=>by have:=h.cap w z;omega),fun x=>?_,fun p hp hpa=>?_,fun x hx=>h4 x (hB x (hA x hx))⟩
 ·rw [sV,h2]
  have:n1∈M.map (·.1):=List.mem_map.mpr ⟨_,hs,rfl⟩
  constructor
  ·rintro ((z | rfl) | z)
   ·exact .inl z
   ·exact .inl this
   ·exact .inr z
  ·rintro (z | z)
   ·exact .inl (.inl z)
   ·exact .inr z
 ·rcases dg.mp hp with rfl | ⟨z1,z2⟩
  ·exact absurd (hA _ hpa) ha
  ·exact ⟨(h3 p z1 (hB _ (hA _ hpa))).1,z2⟩
def mR (bs:List Tri) (M:Se) (w:Int):Bool:=!decide (w∈aS bs) || decide ((aZ M w:Int) < hiB bs w)
theorem qD {bs:List Tri} {M:Se} {w:Int}:mR bs M w=true↔¬nj bs M w:=by
 unfold mR nj
 by_cases h:w∈aS bs
 ·simp [h]
 ·simp [h]
theorem lg {bs:List Tri} {M:Se} {w:Int} {n:Nat} {S:Sto} (hn:S[n]?=some (.dct (M.map seD))) (hk:(M.map (·.1)).Nodup):gA [.d (.int w),.fd (bs.map bN),.r n] S=.ok (.d (.bl (mR bs M w))) S:=by
 unfold gA
 rw [dk]
 unfold l_ mR
 walk_at "mx"
 rw [tX (fun _=>rfl)]
 by_cases h:w∈aS bs
 ·rw [decide_eq_true h]
  walk_at "mx"
  rw [iQ hn hk]
  walk_at "mx"
  rw [dxB (fun _=>rfl) h,show (bN (bI bs w)).2=.int (hiB bs w) from rfl]
  walk_at "mx"
  rw [aJ,List.length_map]
  rfl
 ·rw [decide_eq_false h]
  walk_at "mx"
  rw [aJ]
  rfl
theorem tZ {wss:List (List Int)} {ns:List Int} {bs:List Tri} {M:Se} {A0:List Int} {S:Sto} {a b f:Nat} {w:Int} (ha:a < S.length) (hab:a≠b) (hM:OkC wss ns bs M) (hA0:AOk A0)
  (ih:∀ (B:List Int) (n1:Int),(n1,w)∈M→AOk B→(∀ x∈A0,x∈B) →
   (∃ M' A',AOk A'∧fS wss ns bs M B n1 M' A'∧bF f [.d (au wss),.d (.int n1),.fd (bs.map bN),.r a,.r b] (Zs S a b M B)=.ok (.d (.bl true)) (Zs S a b M' A')) ∨
   (∃ A',AOk A'∧qQ wss bs M B n1 A'∧bF f [.d (au wss),.d (.int n1),.fd (bs.map bN),.r a,.r b] (Zs S a b M B)=.ok (.d (.bl false)) (Zs S a b M A'))) :
  (∃ M' A' n1 B,AOk A'∧(n1,w)∈M∧(∀ x∈A0,x∈B)∧fS wss ns bs M B n1 M' A'∧cf (f+1) [.d (au wss),.d (.int w),.fd (bs.map bN),.r a,.r b] (Zs S a b M A0)=.ok (.d (.bl true)) (Zs S a b M' A')) ∨
  (∃ A',AOk A'∧(∀ x∈A0,x∈A')∧(∀ p∈M,p.2=w→∀ x∈bD wss p.1,x∈A')∧lY wss bs M A0 A'∧cf (f+1) [.d (au wss),.d (.int w),.fd (bs.map bN),.r a,.r b] (Zs S a b M A0)=.ok (.d (.bl false)) (Zs S a b M A')):=by
 rw [cf,rP]
 unfold kY
 walk_at "mx"
 rw [iQ (z_s ha hab) hM.kn]
 walk_at "mx"
 have q:=gG (show _=kz (cf f) (bF f) [some (.d (au wss)),some (.d (.int w)),some (.fd (bs.map bN)),some (.r a),some (.r b),some (.d (.lst ((atW M w).map fun p=>D.int p.1))),none] (Zs S a b M A0) from rfl)
  (fun v S2=>v=.d (.bl true)∧∃ M' A' n1 B,AOk A'∧(n1,w)∈M∧(∀ x∈A0,x∈B)∧fS wss ns bs M B n1 M' A'∧S2=Zs S a b M' A')
  (S1:=Zs S a b M A0) (items:=(atW M w).map fun p=>Vl.d (.int p.1)) (gd:=none) (by walk_at "mx";rw [List.map_map];rfl)
  (fun i τ S'=>∃ x6 B,τ=[some (.d (au wss)),some (.d (.int w)),some (.fd (bs.map bN)),some (.r a),some (.r b),some (.d (.lst ((atW M w).map fun p=>D.int p.1))),x6]∧S'=Zs S a b M B∧AOk B∧(∀ x∈A0,x∈B)∧(∀ p∈(atW M w).take i,∀ x∈bD wss p.1,x∈B)∧lY wss bs M A0 B)
  ⟨none,A0,rfl,rfl,hA0,fun _ h=>h,by simp,fun x h1 h2=>absurd h1 h2⟩ (by
   rintro i z τ S' hz ⟨x6,B,rfl,rfl,hB,hsub,hpre,hcl⟩
   rw [List.getElem?_map] at hz
   cases q:(atW M w)[i]? with
   | none=>rw [q] at hz;cases hz
   | some p=>
    rw [q] at hz
    cases hz
    obtain ⟨h1,h2⟩:=c6.mp (List.mem_of_getElem? q)
    have hs:(p.1,w)∈M:=by rw [← h2];exact h1
    rcases ih B p.1 hs hB hsub with ⟨M2,A2,hA2,hP,e⟩ | ⟨A2,hA2,hP,e⟩
    ·refine ⟨_,_,.rt (.d (.bl true)),_,_,by walk_at "mx";rfl,by
      walk_at "mx"
      rw [e]
      walk_at "mx"
      rfl,.inr ⟨_,rfl,rfl,M2,A2,p.1,B,hA2,hs,hsub,hP,rfl⟩⟩
    ·refine ⟨_,_,.nx,_,_,by walk_at "mx";rfl,by
      walk_at "mx"
      rw [e]
      walk_at "mx"
      rfl,.inl ⟨.inl rfl,True.intro,_,A2,rfl,rfl,hA2,fun x hx=>hP.1 x (hsub x hx),fun p' hp' x hx=>?_,fun x hx hx0=>?_⟩⟩
     ·rw [take_snoc q] at hp'
      rcases List.mem_append.mp hp' with h | h
      ·exact hP.1 x (hpre p' h x hx)
      ·rw [List.mem_singleton.mp h] at hx
       exact hP.2.1 x hx
     ·by_cases hxB:x∈B
      ·obtain ⟨c1,c2⟩:=hcl x hxB hx0
       exact ⟨c1,fun p' h3 h4 y hy=>hP.1 y (c2 p' h3 h4 y hy)⟩
      ·exact hP.2.2 x hx hxB)
 rcases q with ⟨τ',S',e,x6,B,rfl,rfl,hB,hsub,hpre,hcl⟩ | ⟨v,τ',S',e,rfl,M',A',n1,B,hA',hs,hsub,hP,rfl⟩
 ·refine .inr ⟨B,hB,hsub,fun p hp hpw x hx=>hpre p ?_ x hx,hcl,?_⟩
  ·rw [List.length_map,List.take_length]
   exact c6.mpr ⟨hp,hpw⟩
  ·rw [e]
   walk_at "mx"
   rw [bE,i8]
 ·refine .inl ⟨M',A',n1,B,hA',hs,hsub,hP,?_⟩
  rw [e]
  walk_at "mx"
  rw [bE,i8]
theorem OkC.len {wss:List (List Int)} {ns:List Int} {bs:List Tri} {M:Se} (h:OkC wss ns bs M) (hn:∀ n∈ns,0≤n∧n < (wss.length:Int)):M.length≤wss.length:=by
 have:=iw _ 0 (wss.length:Int) (by omega) (b6 (M.map (·.1))) fun x hx=>by
  obtain ⟨p,hp,rfl⟩:=List.mem_map.mp ((cE x _).mp hx)
  exact hn _ (h.mem p hp).1
 rw [jD h.kn,List.length_map] at this
 omega
theorem yO {wss:List (List Int)} {ns:List Int} {bs:List Tri} {S:Sto} {a b:Nat} (ha:a < S.length) (hb:b < S.length) (hab:a≠b) (hd:∀ n∈ns,0≤n∧n < (wss.length:Int)) (hw4:wss.length≤4) (hU:∀ n∈ns,∀ w∈bD wss n,-9≤w∧w < 10) (u:Nat) :
  ∀ (f:Nat) (M:Se) (A:List Int) (n:Int),unA M A=u→2 * u+2≤f→OkC wss ns bs M→AOk A→n∈ns →
  (∃ M' A',AOk A'∧fS wss ns bs M A n M' A'∧bF f [.d (au wss),.d (.int n),.fd (bs.map bN),.r a,.r b] (Zs S a b M A)=.ok (.d (.bl true)) (Zs S a b M' A')) ∨
  (∃ A',AOk A'∧qQ wss bs M A n A'∧bF f [.d (au wss),.d (.int n),.fd (bs.map bN),.r a,.r b] (Zs S a b M A)=.ok (.d (.bl false)) (Zs S a b M A')):=by
 induction u using Nat.strongRecOn with
 | _ u ih=>
 intro f M A n hu hf hM hA hn
 match f,hf with
 | f+1,hf=>
 obtain ⟨f,rfl⟩:∃ g,f=g+1:=⟨f - 1,by omega⟩
 obtain ⟨n0,n1⟩:=hd n hn
 have hml:=hM.len hd
 rw [bF,rP]
 unfold ly
 walk_at "mx"
 have q:=gG (show _=kM (cf (f+1)) (bF (f+1)) [some (.d (au wss)),some (.d (.int n)),some (.fd (bs.map bN)),some (.r a),some (.r b),none] (Zs S a b M A) from rfl)
  (fun v S2=>v=.d (.bl true)∧∃ M' A',AOk A'∧fS wss ns bs M A n M' A'∧S2=Zs S a b M' A')
  (S1:=Zs S a b M A) (items:=((bD wss n).map D.int).map Vl.d) (gd:=none) (by
   walk_at "mx"
   unfold au
   rw [cv (jC n0 n1)]
   unfold ak bD
   walk_at "mx")
  (fun i τ S'=>∃ x5 A1,τ=[some (.d (au wss)),some (.d (.int n)),some (.fd (bs.map bN)),some (.r a),some (.r b),x5]∧S'=Zs S a b M A1∧AOk A1∧(∀ x∈A,x∈A1)∧(∀ w∈(bD wss n).take i,w∈A1)∧lY wss bs M A A1)
  ⟨none,A,rfl,rfl,hA,fun _ h=>h,by simp,fun x h1 h2=>absurd h1 h2⟩ (by
   rintro i z τ S' hz ⟨x5,A1,rfl,rfl,hA1,hsub,hpre,hcl⟩
   obtain ⟨w,ew,rfl⟩:=ints_get hz
   have hwm:w∈bD wss n:=List.mem_of_getElem? ew
   have hlim:=hU n hn w hwm
   have hpre':∀ {B:List Int},(∀ x∈A1,x∈B)→w∈B→∀ x∈(bD wss n).take (i+1),x∈B:=fun {B} h1 h2 x hx=>by
    rw [take_snoc ew] at hx
    rcases List.mem_append.mp hx with z | z
    ·exact h1 x (hpre x z)
    ·rw [List.mem_singleton.mp z];exact h2
   by_cases hin:w∈A1
   ·refine ⟨_,_,.ct,_,_,by walk_at "mx";rfl,by
     walk_at "mx"
     rw [gy (z_a hb),decide_eq_true hin]
     walk_at "mx"
     rfl,.inl ⟨.inr rfl,True.intro,_,A1,rfl,rfl,hA1,hsub,hpre' (fun _ h=>h) hin,hcl⟩⟩
   have hA2:=hA1.snoc hin hlim
   have hl1:=hA1.len
   have eput:fw (aa 4) (aa 5) (xC (.bl true)) [some (.d (au wss)),some (.d (.int n)),some (.fd (bs.map bN)),some (.r a),some (.r b),some (.d (.int w))] (Zs S a b M A1)=.ok (.nx,[some (.d (au wss)),some (.d (.int n)),some (.fd (bs.map bN)),some (.r a),some (.r b),some (.d (.int w))]) (Zs S a b M (A1++[w])):=by
    rw [dput (n:=b) (k:=w) (zd:=.bl true) (by walk_at "mx") (by walk_at "mx") (by walk_at "mx") (z_a hb) (by rw [List.length_map];omega),wt hin,wR]
   have eput2:∀ (M1:Se) (B:List Int),M1.length < 1000→fw (aa 3) (aa 1) (aa 5) [some (.d (au wss)),some (.d (.int n)),some (.fd (bs.map bN)),some (.r a),some (.r b),some (.d (.int w))] (Zs S a b M1 B)=.ok (.nx,[some (.d (au wss)),some (.d (.int n)),some (.fd (bs.map bN)),some (.r a),some (.r b),some (.d (.int w))]) (Zs S a b (b7 M1 n w) B):=fun M1 B hl=>by
    rw [dput (n:=a) (k:=n) (zd:=.int w) (by walk_at "mx") (by walk_at "mx") (by walk_at "mx") (z_s ha hab) (by rw [List.length_map];omega),vE,vL hab]
   by_cases hroom:mR bs M w=true
   ·refine ⟨_,_,.rt (.d (.bl true)),_,_,by walk_at "mx";rfl,by
     walk_at "mx"
     rw [gy (z_a hb),decide_eq_false hin]
     walk_at "mx"
     rw [eput]
     walk_at "mx"
     rw [lg (z_s ha hab) hM.kn,hroom]
     walk_at "mx"
     rw [eput2 M _ (by omega)]
     walk_at "mx"
     rfl,.inr ⟨_,rfl,rfl,b7 M n w,A1++[w],hA2,Cu hM hn hwm hsub (fun z=>hin (hsub w z)) (qD.mp hroom),rfl⟩⟩
   have hfull:nj bs M w:=Classical.byContradiction fun z=>hroom (qD.mpr z)
   rw [Bool.not_eq_true] at hroom
   have h2:=jB (M:=M) hsub
   rcases tZ (f:=f) (w:=w) (A0:=A1++[w]) ha hab hM hA2 (fun B n1' hs hB hBs=>by
    have h1:=qK hs hin
    have h3:=jB (M:=M) hBs
    exact ih _ (by omega) f M B n1' rfl (by omega) hM hB (hM.mem _ hs).1) with ⟨M2,A3,n1',B,hA3,hs,hBs,hP,e⟩ | ⟨A3,hA3,hs3,hsit,hcl3,e⟩
   ·have hm2:=hP.1.len hd
    refine ⟨_,_,.rt (.d (.bl true)),_,_,by walk_at "mx";rfl,by
     walk_at "mx"
     rw [gy (z_a hb),decide_eq_false hin]
     walk_at "mx"
     rw [eput]
     walk_at "mx"
     rw [lg (z_s ha hab) hM.kn,hroom]
     walk_at "mx"
     rw [e]
     walk_at "mx"
     rw [eput2 M2 _ (by omega)]
     walk_at "mx"
     rfl,.inr ⟨_,rfl,rfl,b7 M2 n w,A3,hA3,AU hM hn hwm hsub (fun x hx=>hBs x (List.mem_append_left _ hx)) (hBs w (by simp)) hin hs hP,rfl⟩⟩
   ·refine ⟨_,_,.nx,_,_,by walk_at "mx";rfl,by
     walk_at "mx"
     rw [gy (z_a hb),decide_eq_false hin]
     walk_at "mx"
     rw [eput]
     walk_at "mx"
     rw [lg (z_s ha hab) hM.kn,hroom]
     walk_at "mx"
     rw [e]
     walk_at "mx"
     rfl,.inl ⟨.inl rfl,True.intro,_,A3,rfl,rfl,hA3,fun x hx=>hs3 x (List.mem_append_left _ (hsub x hx)),hpre' (fun x hx=>hs3 x (List.mem_append_left _ hx)) (hs3 w (by simp)),fun x hx hx0=>?_⟩⟩
    by_cases hx1:x∈A1
    ·obtain ⟨c1,c2⟩:=hcl x hx1 hx0
     exact ⟨c1,fun p h3 h4 y hy=>hs3 y (List.mem_append_left _ (c2 p h3 h4 y hy))⟩
    ·by_cases hxw:x=w
     ·subst hxw
      exact ⟨hfull,hsit⟩
     ·exact hcl3 x hx (by rw [List.mem_append,List.mem_singleton];exact fun z=>z.elim hx1 hxw))
 rcases q with ⟨τ',S',e,x5,A1,rfl,rfl,hA1,hsub,hpre,hcl⟩ | ⟨v,τ',S',e,rfl,M',A',hA',hP,rfl⟩
 ·refine .inr ⟨A1,hA1,⟨hsub,fun w hw=>hpre w ?_,hcl⟩,?_⟩
  ·rw [show (((bD wss n).map D.int).map Vl.d).length=(bD wss n).length by simp,List.take_length];exact hw
  ·rw [e]
   walk_at "mx"
   rw [bE,i8]
 ·refine .inl ⟨M',A',hA',hP,?_⟩
  rw [e]
  walk_at "mx"
  rw [bE,i8]
theorem nW {f:Int→Int}:∀ {l1 l2:List Int},l1.Nodup→(∀ x∈l1,x∈l2)→(∀ x∈l2,0≤f x)→(l1.map f).sum≤(l2.map f).sum
 | [],l2,_,_,h0=>by
  have:∀ l:List Int,(∀ x∈l,0≤f x)→0≤(l.map f).sum:=fun l=>by
   induction l with
   | nil=>intro _;simp
   | cons a l ih=>
    intro h
    rw [List.map_cons,List.sum_cons]
    have:=h a (by simp)
    have:=ih fun x hx=>h x (by simp [hx])
    omega
  simpa using this l2 h0
 | x :: l1,l2,hn,hs,h0=>by
  obtain ⟨h1,h2⟩:=List.nodup_cons.mp hn
  have hx:=hs x (by simp)
  have ih:=nW (f:=f) (l1:=l1) (l2:=l2.erase x) h2 (fun y hy=>(List.mem_erase_of_ne (fun z:y=x=>h1 (z ▸ hy))).mpr (hs y (by simp [hy]))) fun y hy=>h0 y (List.mem_of_mem_erase hy)
  have e:=jM ((List.perm_cons_erase hx).map f)
  rw [List.map_cons,List.sum_cons] at e
  rw [List.map_cons,List.sum_cons,e]
  omega
theorem jA {f g:Int→Int} {l:List Int} (h:∀ x∈l,f x≤g x):(l.map f).sum≤(l.map g).sum:=by
 induction l with
 | nil=>simp
 | cons a l ih=>
  rw [List.map_cons,List.map_cons,List.sum_cons,List.sum_cons]
  have:=h a (by simp)
  have:=ih fun x hx=>h x (by simp [hx])
  omega
theorem sU {α:Type} {p q:α→Bool} (h:∀ x,p x=true→q x=false):∀ L:List α,(L.filter fun x=>p x || q x).length=(L.filter p).length+(L.filter q).length
 | []=>rfl
 | x :: L=>by
  have ih:=sU h L
  simp only [List.filter_cons]
  cases hp:p x with
  | true=>
   rw [h x hp]
   simp only [Bool.true_or,if_true,Bool.false_eq_true,if_false,List.length_cons,ih]
   omega
  | false=>
   cases hq:q x with
   | true=>
    simp only [Bool.false_or,if_true,Bool.false_eq_true,if_false,List.length_cons,ih]
    omega
   | false=>
    simp only [Bool.or_false,Bool.false_eq_true,if_false,ih]
theorem jf {M:Se}:∀ {A:List Int},A.Nodup→(A.map fun w=>(aZ M w:Int)).sum=((M.filter fun p=>decide (p.2∈A)).length:Int)
 | [],_=>by
  rw [show (M.filter fun p=>decide (p.2∈([]:List Int)))=[] from List.filter_eq_nil_iff.mpr fun p _=>by simp]
  rfl
 | w :: A,h=>by
  obtain ⟨h1,h2⟩:=List.nodup_cons.mp h
  rw [List.map_cons,List.sum_cons,jf h2]
  rw [show (fun p:Int×Int=>decide (p.2∈w :: A))=fun p=>decide (p.2=w) || decide (p.2∈A) from by
   funext p
   rw [← Bool.decide_or]
   exact decide_eq_decide.mpr List.mem_cons]
  rw [sU (p:=fun p:Int×Int=>decide (p.2=w)) (q:=fun p=>decide (p.2∈A)) (fun x hx=>by
   have:x.2=w:=by simpa using hx
   rw [this]
   exact decide_eq_false h1)]
  unfold aZ atW
  omega
theorem DI {wss:List (List Int)} {ns:List Int} {bs:List Tri} {M:Se} {A:List Int} {n:Int} (gb:bo bs) (hM:OkC wss ns bs M) (hA:AOk A) (hn:n∈ns) (hnk:n∉M.map (·.1)) (hP:qQ wss bs M [] n A):bR wss ns bs true (sortI (n :: (M.filter fun p=>decide (p.2∈A)).map (·.1)))=true:=by
 obtain ⟨_,p2,p3⟩:=hP
 have nd:(n :: (M.filter fun p=>decide (p.2∈A)).map (·.1)).Nodup:=List.nodup_cons.mpr ⟨fun z=>by
  obtain ⟨p,hp,e⟩:=List.mem_map.mp z
  exact hnk (List.mem_map.mpr ⟨p,(List.mem_filter.mp hp).1,e⟩),hM.kn.sublist (List.filter_sublist.map _)⟩
 have mem:∀ x,x∈sortI (n :: (M.filter fun p=>decide (p.2∈A)).map (·.1))→x=n∨∃ p∈M,p.2∈A∧p.1=x:=fun x hx=>by
  rcases List.mem_cons.mp ((dz _ x).mp hx) with h | h
  ·exact .inl h
  ·obtain ⟨p,hp,e⟩:=List.mem_map.mp h
   obtain ⟨h1,h2⟩:=List.mem_filter.mp hp
   exact .inr ⟨p,h1,by simpa using h2,e⟩
 have hsub:∀ x∈aV (bf wss (sortI (n :: (M.filter fun p=>decide (p.2∈A)).map (·.1)))),x∈A:=fun x hx=>by
  rw [cE] at hx
  obtain ⟨p,hp,hx'⟩:=List.mem_flatMap.mp hx
  rcases mem p hp with e0 | ⟨q,h1,h2,rfl⟩
  ·exact p2 x (by rw [← e0];exact hx')
  ·exact (p3 q.2 h2 (by simp)).2 q h1 rfl x hx'
 have hsum:((aV (bf wss (sortI (n :: (M.filter fun p=>decide (p.2∈A)).map (·.1))))).map fun w=>(bI bs w).2.2).sum≤((M.filter fun p=>decide (p.2∈A)).length:Int):=by
  rw [← jf hA.nd]
  refine Int.le_trans (nW ((b6 _).imp fun z=>by omega) hsub fun x _=>(je gb).2.1) ?_
  exact jA fun x hx=>(p3 x hx (by simp)).1.2
 unfold bR tooMany
 rw [if_pos rfl,decide_eq_false,decide_eq_true (gZ nd),List.all_eq_true.mpr,List.all_eq_true.mpr,decide_eq_true]
 ·rfl
 ·rw [cU,List.length_cons,List.length_map]
  omega
 ·intro x hx
  exact decide_eq_true (p3 x (hsub x hx) (by simp)).1.1
 ·intro x hx
  rcases mem x hx with rfl | ⟨q,h1,_,rfl⟩
  ·exact decide_eq_true hn
  ·exact decide_eq_true (hM.mem q h1).1
 ·intro z
  have:=congrArg List.length z
  rw [cU] at this
  simp at this
theorem wM {wss:List (List Int)} {ns:List Int} {bs:List Tri} {S0:Sto} {a:Nat} (ha:S0[a]?=some (.dct [])) (gn:bX wss.length ns) (gb:bo bs) (hw4:wss.length≤4) (hU:∀ n∈ns,∀ w∈bD wss n,-9≤w∧w < 10) :
  (∃ M:Se,OkC wss ns bs M∧(∀ n∈ns,n∈M.map (·.1))∧eM [.d (au wss),.d (ak ns),.fd (bs.map bN),.r a] S0=.ok (.d (.tup [])) (S0.set a (.dct (M.map seD)))) ∨
  (∃ (ps:List Int) (M:Se),bR wss ns bs true ps=true∧eM [.d (au wss),.d (ak ns),.fd (bs.map bN),.r a] S0=.ok (.d (ak ps)) (S0.set a (.dct (M.map seD)))):=by
 have hal:a < S0.length:=(List.getElem?_eq_some_iff.mp ha).1
 have hgl:=gn.le
 unfold eM
 rw [nJ]
 unfold mv
 walk_at "mx"
 have hout:∀ {S':Sto} {M:Se},S0.length≤S'.length→S'[a]?=some (.dct (M.map seD))→(∀ j,j < S0.length→j≠a→S'[j]?=S0[j]?)→S'.take S0.length=S0.set a (.dct (M.map seD)):=fun {S' M} h1 h2 h3=>by
  apply List.ext_getElem?
  intro j
  rw [List.getElem?_take,List.getElem?_set]
  by_cases hj:j < S0.length
  ·rw [if_pos hj]
   by_cases e:a=j
   ·subst e;rw [if_pos rfl,if_pos hj,h2]
   ·rw [if_neg e,h3 j hj (fun z=>e z.symm)]
  ·rw [if_neg hj]
   split
   ·rename_i e;omega
   ·rw [List.getElem?_eq_none (by omega)]
 have q:=gG (show _=mw [some (.d (au wss)),some (.d (ak ns)),some (.fd (bs.map bN)),some (.r a),none,none] S0 from rfl)
  (fun v S2=>∃ (ps:List Int) (M:Se),v=.d (ak ps)∧bR wss ns bs true ps=true∧S2.take S0.length=S0.set a (.dct (M.map seD)))
  (S1:=S0) (items:=(ns.map D.int).map Vl.d) (gd:=none) (by unfold ak;walk_at "mx")
  (fun i τ S'=>∃ (x4 x5:Option Vl) (M:Se),τ=[some (.d (au wss)),some (.d (ak ns)),some (.fd (bs.map bN)),some (.r a),x4,x5]∧OkC wss ns bs M∧(∀ x,x∈M.map (·.1)↔x∈ns.take i)∧S0.length≤S'.length∧S'[a]?=some (.dct (M.map seD))∧∀ j,j < S0.length→j≠a→S'[j]?=S0[j]?)
  ⟨none,none,[],rfl,⟨by simp,by simp,fun w _=>(je gb).2.1⟩,by simp,Nat.le_refl _,ha,fun _ _ _=>rfl⟩ (by
   rintro i z τ S' hz ⟨x4,x5,M,rfl,hM,hk,hl,hs,hr⟩
   obtain ⟨n,en,rfl⟩:=ints_get hz
   have hn:n∈ns:=List.mem_of_getElem? en
   have hS2a:(S'++[Ob.dct []])[a]?=some (.dct (M.map seD)):=by rw [List.getElem?_append_left (by omega)];exact hs
   have hS2b:(S'++[Ob.dct []])[S'.length]?=some (.dct (([]:List Int).map asD)):=by simp
   have hid:=C3 hS2a hS2b
   have hml:=hM.len gn.dom
   have hu:unA M []≤4:=by
    have:unA M []≤M.length:=List.length_filter_le _ _
    omega
   have hnk:n∉M.map (·.1):=fun z=>by
    have h1:=(hk n).mp z
    obtain ⟨hi,e2⟩:=List.getElem?_eq_some_iff.mp en
    obtain ⟨j,hj,e3⟩:=List.mem_iff_getElem.mp h1
    rw [List.getElem_take] at e3
    rw [List.length_take] at hj
    have:=(List.getElem_inj gn.nd).mp (e3.trans e2.symm)
    omega
   rcases yO (wss:=wss) (ns:=ns) (bs:=bs) (S:=S'++[Ob.dct []]) (a:=a) (b:=S'.length) (by simp;omega) (by simp) (by omega) gn.dom hw4 hU _ 20 M [] n rfl (by omega) hM ⟨List.nodup_nil,by simp⟩ hn with ⟨M2,A2,hA2,hP,e⟩ | ⟨A2,hA2,hP,e⟩
   ·rw [hid] at e
    refine ⟨_,_,.nx,_,Zs (S'++[Ob.dct []]) a S'.length M2 A2,by walk_at "mx";rfl,by
     rw [h_,ia,show gh [some (.d (au wss)),some (.d (ak ns)),some (.fd (bs.map bN)),some (.r a),some (.d (.int n)),x5] S'=.ok (.r S'.length) (S'++[.dct []]) from rfl]
     walk_at "mx"
     rw [e]
     walk_at "mx"
     rfl,.inl ⟨.inl rfl,True.intro,_,_,M2,rfl,hP.1,fun x=>?_,by rw [bg];simp;omega,z_s (by simp;omega) (by omega),fun j hj hja=>?_⟩⟩
    ·rw [hP.2.1,hk,take_snoc en,List.mem_append,List.mem_singleton]
    ·unfold Zs
     rw [List.getElem?_set_ne (by omega),List.getElem?_set_ne (fun z=>hja z.symm),List.getElem?_append_left (by omega)]
     exact hr j hj hja
   ·rw [hid] at e
    have hZ1:(Zs (S'++[Ob.dct []]) a S'.length M A2)[a]?=some (.dct (M.map seD)):=z_s (by simp;omega) (by omega)
    refine ⟨_,_,.rt (.d (ak (sortI (n :: (M.filter fun p=>decide (p.2∈A2)).map (·.1))))),_,Zs (S'++[Ob.dct []]) a S'.length M A2,by walk_at "mx";rfl,by
     rw [h_,ia,show gh [some (.d (au wss)),some (.d (ak ns)),some (.fd (bs.map bN)),some (.r a),some (.d (.int n)),x5] S'=.ok (.r S'.length) (S'++[.dct []]) from rfl]
     walk_at "mx"
     rw [e]
     walk_at "mx"
     rw [kH (n:=a) (x:=.lst ((M.filter fun p=>decide (p.2∈A2)).map fun p=>D.int p.1)) rfl hZ1 (by
      show iT [some (.d (au wss)),some (.d (ak ns)),some (.fd (bs.map bN)),some (.fd (M.map seD)),some (.d (.int n)),some (.r S'.length)] ((Zs (S'++[Ob.dct []]) a S'.length M A2).set a .dead)=_
      have hb2:∀ acc,(((Zs (S'++[Ob.dct []]) a S'.length M A2).set a .dead)++[Ob.lst acc])[S'.length]?=some (.dct (A2.map asD)):=fun acc=>by
       rw [List.getElem?_append_left (by rw [List.length_set,bg];simp),List.getElem?_set_ne (by omega)]
       exact z_a (by simp)
      obtain ⟨acc,Q,e1,_,rfl,rfl⟩:=pW (show _=iT [some (.d (au wss)),some (.d (ak ns)),some (.fd (bs.map bN)),some (.fd (M.map seD)),some (.d (.int n)),some (.r S'.length)] ((Zs (S'++[Ob.dct []]) a S'.length M A2).set a .dead) from rfl) (S1:=(Zs (S'++[Ob.dct []]) a S'.length M A2).set a .dead) (items:=M.map fun p=>Vl.d (.int p.1)) (by
       unfold mC
       walk_at "mx"
       rw [aI]
       dsimp only
       rw [List.map_map]
       rfl) (fun i acc Q=>acc=((M.take i).filter fun p=>decide (p.2∈A2)).map (fun p=>D.int p.1)∧Q=(Zs (S'++[Ob.dct []]) a S'.length M A2).set a .dead) ⟨by simp,rfl⟩ (by
       rintro i z acc Q hz ⟨rfl,rfl⟩ _
       rw [List.getElem?_map] at hz
       cases q:M[i]? with
       | none=>rw [q] at hz;cases hz
       | some p=>
        rw [q] at hz
        cases hz
        have hpm:=List.mem_of_getElem? q
        refine ⟨decide (p.2∈A2),(Zs (S'++[Ob.dct []]) a S'.length M A2).set a .dead,?_,rfl,fun hb=>⟨.int p.1,_,by walk_at "mx",rfl,?_,rfl⟩,fun hb=>⟨?_,rfl⟩⟩
        ·walk_at "mx"
         rw [y9 (k:=.inl p.1) rfl (nC hM.kn hpm)]
         walk_at "mx"
         rw [gy (hb2 _)]
         walk_at "mx"
        ·rw [take_snoc q,List.filter_append,List.map_append]
         simp [hb]
        ·rw [take_snoc q,List.filter_append]
         simp [hb])
      rw [e1,List.length_map,List.take_length])]
     walk_at "mx"
     rw [rp (by
      have:=List.length_filter_le (fun p:Int×Int=>decide (p.2∈A2)) M
      simp only [List.length_cons,List.length_nil,List.length_map]
      omega)]
     walk_at "mx"
     rw [show (D.int n :: (M.filter fun p=>decide (p.2∈A2)).map fun p=>D.int p.1)=(n :: (M.filter fun p=>decide (p.2∈A2)).map (·.1)).map D.int by rw [List.map_cons,List.map_map];rfl,AG (by
      have:=List.length_filter_le (fun p:Int×Int=>decide (p.2∈A2)) M
      simp only [List.length_cons,List.length_map]
      omega)]
     walk_at "mx"
     rfl,.inr ⟨_,rfl,_,M,rfl,DI gb hM hA2 hn hnk hP,hout (by rw [bg];simp;omega) hZ1 fun j hj hja=>?_⟩⟩
    unfold Zs
    rw [List.getElem?_set_ne (by omega),List.getElem?_set_ne (fun z=>hja z.symm),List.getElem?_append_left (by omega)]
    exact hr j hj hja)
 rcases q with ⟨τ',S',e,x4,x5,M,rfl,hM,hk,hl,hs,hr⟩ | ⟨v,τ',S',e,ps,M,rfl,hR,hT⟩
 ·refine .inl ⟨M,hM,fun n hn=>(hk n).mpr ?_,?_⟩
  ·rw [show ((ns.map D.int).map Vl.d).length=ns.length by simp,List.take_length];exact hn
  ·rw [e]
   walk_at "mx"
   rw [bE,hout hl hs hr]
 ·refine .inr ⟨ps,M,hR,?_⟩
  rw [e]
  walk_at "mx"
  rw [bE,hT]
theorem Af {M:Se} {n w pl:Int} (hs:(n,pl)∈M):b7 M n w=M.map fun p=>if p.1=n then (n,w) else p:=by
 unfold b7
 rw [if_pos (List.any_eq_true.mpr ⟨_,hs,by simp⟩)]
theorem rj {M:Se} {n w pl:Int} (hk:(M.map (·.1)).Nodup) (hs:(n,pl)∈M) (x:Int):aZ (b7 M n w) x+(if x=pl then 1 else 0)=aZ M x+(if x=w then 1 else 0):=by
 rw [Af hs]
 unfold aZ atW
 induction M with
 | nil=>cases hs
 | cons q L ih=>
  rw [List.map_cons,List.nodup_cons] at hk
  rcases List.mem_cons.mp hs with e | hs'
  ·subst e
   have hL:(L.map fun p=>if p.1=n then (n,w) else p)=L:=by
    refine (List.map_congr_left (g:=id) fun p hp=>?_).trans (List.map_id _)
    rw [if_neg]
    ·rfl
    ·intro z
     exact hk.1 (List.mem_map.mpr ⟨p,hp,z⟩)
   rw [List.map_cons,hL,if_pos rfl,List.filter_cons,List.filter_cons]
   by_cases h1:x=pl
   ·by_cases h2:x=w
    ·simp [h1.symm,h2.symm]
    ·have h3:¬w=x:=fun z=>h2 z.symm
     have h4:¬w=pl:=fun z=>h2 (by rw [h1,z])
     simp [h1,h4,h3]
     intro z
     exact absurd z.symm h4
   ·have h5:¬pl=x:=fun z=>h1 z.symm
    by_cases h2:x=w
    ·simp [h2.symm,h1,h5]
    ·have h3:¬w=x:=fun z=>h2 z.symm
     simp [h1,h2,h3,h5]
  ·have hq:¬q.1=n:=fun z=>hk.1 (by rw [z];exact List.mem_map.mpr ⟨_,hs',rfl⟩)
   have:=ih hk.2 hs'
   rw [List.map_cons,if_neg hq,List.filter_cons,List.filter_cons]
   by_cases h:q.2=x
   ·rw [decide_eq_true h]
    simp only [if_true,List.length_cons]
    omega
   ·rw [decide_eq_false h]
    simp only [Bool.false_eq_true,if_false]
    exact this
structure eI (wss:List (List Int)) (ns:List Int) (bs:List Tri) (M:Se) (A:List Int) (w:Int) (M':Se):Prop where
 keys:M'.map (·.1)=M.map (·.1)
 mem:∀ p∈M',p.1∈ns∧p.2∈bD wss p.1
 fo:∀ p∈M,p.2∈A→p∈M'
 cnt:∃ z,z∉A∧loB bs z < (aZ M z:Int)∧∀ x,aZ M' x+(if x=z then 1 else 0)=aZ M x+(if x=w then 1 else 0)
def oi (wss:List (List Int)) (bs:List Tri) (M:Se) (A A':List Int):Prop:=∀ x∈A',x∉A→(∀ p∈M,x∈bD wss p.1→p.2∈A')∧(aZ M x:Int)≤loB bs x∧∃ p∈M,p.2=x
theorem lh {M:Se} {n w pl:Int} (hs:(n,pl)∈M):(b7 M n w).map (·.1)=M.map (·.1):=by
 rw [lF,if_pos (List.mem_map.mpr ⟨_,hs,rfl⟩)]
theorem Ac {wss:List (List Int)} {ns:List Int} {bs:List Tri} {M:Se} {A:List Int} {n w pl:Int} (hk:(M.map (·.1)).Nodup) (hm:∀ p∈M,p.1∈ns∧p.2∈bD wss p.1) (hs:(n,pl)∈M) (hw:w∈bD wss n) (hpl:pl∉A) (hsp:loB bs pl < (aZ M pl:Int)):eI wss ns bs M A w (b7 M n w) where
 keys:=lh hs
 mem:=fun p hp=>by
  rcases dg.mp hp with rfl | ⟨h1,_⟩
  ·exact ⟨(hm _ hs).1,hw⟩
  ·exact hm p h1
 fo:=fun p hp hpa=>dg.mpr (.inr ⟨hp,fun z=>hpl (by
  have:p=(n,pl):=kI hk hp hs z
  rw [this] at hpa
  exact hpa)⟩)
 cnt:=⟨pl,hpl,hsp,rj hk hs⟩
theorem Bo {wss:List (List Int)} {ns:List Int} {bs:List Tri} {M M1:Se} {A:List Int} {n w pl:Int} (hk:(M.map (·.1)).Nodup) (hs:(n,pl)∈M) (hn:n∈ns) (hw:w∈bD wss n) (hpl:pl∉A) (hP:eI wss ns bs M (A++[pl]) pl M1):eI wss ns bs M A w (b7 M1 n w):=by
 have hs1:(n,pl)∈M1:=hP.fo _ hs (by simp)
 have hk1:(M1.map (·.1)).Nodup:=by rw [hP.keys];exact hk
 obtain ⟨z,z1,z2,z3⟩:=hP.cnt
 refine ⟨(lh hs1).trans hP.keys,fun p hp=>?_,fun p hp hpa=>?_,⟨z,fun q=>z1 (List.mem_append_left _ q),z2,fun x=>?_⟩⟩
 ·rcases dg.mp hp with rfl | ⟨h1,_⟩
  ·exact ⟨hn,hw⟩
  ·exact hP.mem p h1
 ·refine dg.mpr (.inr ⟨hP.fo p hp (List.mem_append_left _ hpa),fun e=>hpl ?_⟩)
  have:p=(n,pl):=kI hk hp hs e
  rw [this] at hpa
  exact hpa
 ·have a:=z3 x
  have b:=rj (w:=w) hk1 hs1 x
  omega
theorem eI.mono {wss:List (List Int)} {ns:List Int} {bs:List Tri} {M M':Se} {A B:List Int} {w:Int} (h:eI wss ns bs M B w M') (k:∀ x∈A,x∈B):eI wss ns bs M A w M':=
 ⟨h.keys,h.mem,fun p hp hpa=>h.fo p hp (k _ hpa),let ⟨z,z1,z2,z3⟩:=h.cnt;⟨z,fun q=>z1 (k z q),z2,z3⟩⟩
theorem B9 {bs:List Tri} {w:Int}:(dq (bs.map cx) (.inl w)).getD (.int 0)=.int (loB bs w):=by
 rw [x8 (fun _=>rfl)]
 by_cases h:w∈aS bs
 ·rw [if_pos h];rfl
 ·rw [if_neg h]
  have:bs.find? (fun b=>decide (b.1=w))=none:=List.find?_eq_none.mpr fun b hb z=>h (List.mem_map.mpr ⟨b,hb,by simpa using z⟩)
  unfold loB bI
  rw [this]
  rfl
theorem ie {bs:List Tri} {M:Se} {w:Int} {n:Nat} {S:Sto} (hn:S[n]?=some (.dct (M.map seD))) (hk:(M.map (·.1)).Nodup):fE [.d (.int w),.fd (bs.map cx),.r n] S=.ok (.d (.bl (decide (loB bs w < (aZ M w:Int))))) S:=by
 unfold fE
 rw [dk]
 unfold kx
 walk_at "mx"
 rw [iQ hn hk]
 walk_at "mx"
 rw [show lO (aa 1) (aa 0) (xC (.int 0)) [some (.d (.int w)),some (.fd (bs.map cx)),some (.r n)] S=.ok (.d ((dq (bs.map cx) (.inl w)).getD (.int 0))) S from rfl,B9]
 walk_at "mx"
 rw [aJ,List.length_map]
 rfl
theorem yF {i a b:Nat} {τ:Nv} {S:Sto} {M:Se} (h1:τ[3]?=some (some (.r a))) (hs:S[a]?=some (.dct (M.map seD))) (hv:∀ T:Sto,xN h8 (ab (aa 3) aj) (τ.set 3 (some (.fd (M.map seD)))) T=.ok (.d (.lst (M.map fun p=>D.int p.1))) T):iS 3 (xN h8 (ab (aa 3) aj)) τ S=.ok (.d (.lst (M.map fun p=>D.int p.1))) S:=kH h1 hs (hv _)
theorem mQ {M:Se} {p:Int×Int} {n:Nat} {S:Sto} (hn:S[n]?=some (.dct (M.map seD))) (hk:(M.map (·.1)).Nodup) (hp:p∈M):oDx (.r n) (.d (.int p.1)) S=.ok (.d (.int p.2)) S:=by
 unfold oDx
 dsimp only [eX,eZ]
 rw [hn]
 dsimp only
 rw [nC hk hp]
theorem xT {wss:List (List Int)} {ns:List Int} {bs:List Tri} {S:Sto} {a b:Nat} (ha:a < S.length) (hb:b < S.length) (hab:a≠b) (hd:∀ n∈ns,0≤n∧n < (wss.length:Int)) (hU:∀ n∈ns,∀ w∈bD wss n,-9≤w∧w < 10) (u:Nat) :
  ∀ (f:Nat) (M:Se) (A:List Int) (w:Int),unA M (A++[w])=u→u+1≤f→(M.map (·.1)).Nodup→M.length≤1000→(∀ p∈M,p.1∈ns∧p.2∈bD wss p.1)→AOk A→w∉A→-9≤w∧w < 10 →
  (∃ M' A',AOk A'∧eI wss ns bs M (A++[w]) w M'∧cG f [.d (au wss),.d (.int w),.fd (bs.map cx),.r a,.r b] (Zs S a b M A)=.ok (.d (.bl true)) (Zs S a b M' A')) ∨
  (∃ A',AOk A'∧(∀ x∈A++[w],x∈A')∧(∀ p∈M,w∈bD wss p.1→p.2∈A')∧oi wss bs M (A++[w]) A'∧cG f [.d (au wss),.d (.int w),.fd (bs.map cx),.r a,.r b] (Zs S a b M A)=.ok (.d (.bl false)) (Zs S a b M A')):=by
 induction u using Nat.strongRecOn with
 | _ u ih=>
 intro f M A w hu hf hk hml hm hA hw hlim
 match f,hf with
 | f+1,hf=>
 have hA2:=hA.snoc hw hlim
 have hl1:=hA.len
 rw [cG,rP]
 unfold kA
 walk_at "mx"
 rw [dput (n:=b) (k:=w) (zd:=.bl true) (by walk_at "mx") (by walk_at "mx") (by walk_at "mx") (z_a hb) (by rw [List.length_map];omega),wt hw,wR]
 walk_at "mx"
 have q:=gG (show _=kK (cG f) [some (.d (au wss)),some (.d (.int w)),some (.fd (bs.map cx)),some (.r a),some (.r b),none,none] (Zs S a b M (A++[w])) from rfl)
  (fun v S2=>v=.d (.bl true)∧∃ M' A',AOk A'∧eI wss ns bs M (A++[w]) w M'∧S2=Zs S a b M' A')
  (S1:=Zs S a b M (A++[w])) (items:=M.map fun p=>Vl.d (.int p.1)) (gd:=none) (by
   walk_at "mx"
   rw [yF (i:=0) (b:=0) rfl (z_s ha hab) (fun T=>by
    show h8 [.fd (M.map seD)] T=_
    unfold h8
    dsimp only
    rw [List.map_map]
    rfl)]
   walk_at "mx"
   rw [List.map_map]
   rfl)
  (fun i τ S'=>∃ x5 x6 B,τ=[some (.d (au wss)),some (.d (.int w)),some (.fd (bs.map cx)),some (.r a),some (.r b),x5,x6]∧S'=Zs S a b M B∧AOk B∧(∀ x∈A++[w],x∈B)∧(∀ p∈M.take i,w∈bD wss p.1→p.2∈B)∧oi wss bs M (A++[w]) B)
  ⟨none,none,A++[w],rfl,rfl,hA2,fun _ h=>h,by simp,fun x h1 h2=>absurd h1 h2⟩ (by
   rintro i z τ S' hz ⟨x5,x6,B,rfl,rfl,hB,hsub,hpre,hcl⟩
   rw [List.getElem?_map] at hz
   cases q:M[i]? with
   | none=>rw [q] at hz;cases hz
   | some p=>
    rw [q] at hz
    cases hz
    have hp:=List.mem_of_getElem? q
    obtain ⟨hn,hpw⟩:=hm p hp
    obtain ⟨n0,n1⟩:=hd _ hn
    have est:oIx (.d (au wss)) (.d (.int p.1)) (Zs S a b M B)=.ok (.d (ak (bD wss p.1))) (Zs S a b M B):=cv (jC n0 n1)
    have hpre':∀ {C:List Int},(∀ x∈B,x∈C)→(w∈bD wss p.1→p.2∈C)→∀ r∈M.take (i+1),w∈bD wss r.1→r.2∈C:=fun {C} h1 h2 r hr hrw=>by
     rw [take_snoc q] at hr
     rcases List.mem_append.mp hr with z | z
     ·exact h1 _ (hpre r z hrw)
     ·rw [List.mem_singleton.mp z] at hrw ⊢;exact h2 hrw
    by_cases h1:¬w∈bD wss p.1
    ·refine ⟨_,_,.ct,_,_,by walk_at "mx";rfl,by
      walk_at "mx"
      rw [mQ (z_s ha hab) hk hp]
      walk_at "mx"
      rw [est]
      walk_at "mx"
      rw [c_,decide_eq_false h1]
      walk_at "mx"
      rfl,.inl ⟨.inr rfl,True.intro,_,_,B,rfl,rfl,hB,hsub,hpre' (fun _ h=>h) (fun z=>absurd z h1),hcl⟩⟩
    have h1:=Decidable.of_not_not h1
    by_cases h2:p.2∈B
    ·refine ⟨_,_,.ct,_,_,by walk_at "mx";rfl,by
      walk_at "mx"
      rw [mQ (z_s ha hab) hk hp]
      walk_at "mx"
      rw [est]
      walk_at "mx"
      rw [c_,decide_eq_true h1]
      walk_at "mx"
      rw [gy (z_a hb),decide_eq_true h2]
      walk_at "mx"
      rfl,.inl ⟨.inr rfl,True.intro,_,_,B,rfl,rfl,hB,hsub,hpre' (fun _ h=>h) (fun _=>h2),hcl⟩⟩
    have eput:∀ (M1:Se) (C:List Int),M1.length≤1000→fw (aa 3) (aa 5) (aa 1) [some (.d (au wss)),some (.d (.int w)),some (.fd (bs.map cx)),some (.r a),some (.r b),some (.d (.int p.1)),some (.d (.int p.2))] (Zs S a b M1 C)=.ok (.nx,[some (.d (au wss)),some (.d (.int w)),some (.fd (bs.map cx)),some (.r a),some (.r b),some (.d (.int p.1)),some (.d (.int p.2))]) (Zs S a b (b7 M1 p.1 w) C):=fun M1 C hl=>by
     rw [dput (n:=a) (k:=p.1) (zd:=.int w) (by walk_at "mx") (by walk_at "mx") (by walk_at "mx") (z_s ha hab) (by rw [List.length_map];omega),vE,vL hab]
    have hlim2:=hU _ hn _ hpw
    by_cases h3:loB bs p.2 < (aZ M p.2:Int)
    ·refine ⟨_,_,.rt (.d (.bl true)),_,_,by walk_at "mx";rfl,by
      walk_at "mx"
      rw [mQ (z_s ha hab) hk hp]
      walk_at "mx"
      rw [est]
      walk_at "mx"
      rw [c_,decide_eq_true h1]
      walk_at "mx"
      rw [gy (z_a hb),decide_eq_false h2]
      walk_at "mx"
      rw [ie (z_s ha hab) hk,decide_eq_true h3]
      walk_at "mx"
      rw [eput M B hml]
      walk_at "mx"
      rfl,.inr ⟨_,rfl,rfl,b7 M p.1 w,B,hB,(Ac hk hm hp h1 h2 h3).mono hsub,rfl⟩⟩
    have hlt:unA M (B++[p.2]) < u:=by
     have a1:=qK (n:=p.1) hp h2
     have a2:=jB (M:=M) hsub
     omega
    rcases ih _ hlt f M B p.2 rfl (by omega) hk hml hm hB h2 hlim2 with ⟨M2,A3,hA3,hP,e⟩ | ⟨A3,hA3,hs3,hsit,hcl3,e⟩
    ·have hl2:M2.length≤1000:=by
      have:=congrArg List.length hP.keys
      rw [List.length_map,List.length_map] at this
      omega
     refine ⟨_,_,.rt (.d (.bl true)),_,_,by walk_at "mx";rfl,by
      walk_at "mx"
      rw [mQ (z_s ha hab) hk hp]
      walk_at "mx"
      rw [est]
      walk_at "mx"
      rw [c_,decide_eq_true h1]
      walk_at "mx"
      rw [gy (z_a hb),decide_eq_false h2]
      walk_at "mx"
      rw [ie (z_s ha hab) hk,decide_eq_false h3]
      walk_at "mx"
      rw [e]
      walk_at "mx"
      rw [eput M2 A3 hl2]
      walk_at "mx"
      rfl,.inr ⟨_,rfl,rfl,b7 M2 p.1 w,A3,hA3,(Bo hk hp hn h1 h2 hP).mono hsub,rfl⟩⟩
    ·refine ⟨_,_,.nx,_,_,by walk_at "mx";rfl,by
      walk_at "mx"
      rw [mQ (z_s ha hab) hk hp]
      walk_at "mx"
      rw [est]
      walk_at "mx"
      rw [c_,decide_eq_true h1]
      walk_at "mx"
      rw [gy (z_a hb),decide_eq_false h2]
      walk_at "mx"
      rw [ie (z_s ha hab) hk,decide_eq_false h3]
      walk_at "mx"
      rw [e]
      walk_at "mx"
      rfl,.inl ⟨.inl rfl,True.intro,_,_,A3,rfl,rfl,hA3,fun x hx=>hs3 x (List.mem_append_left _ (hsub x hx)),hpre' (fun x hx=>hs3 x (List.mem_append_left _ hx)) (fun _=>hs3 _ (by simp)),fun x hx hx0=>?_⟩⟩
     by_cases hxB:x∈B
     ·obtain ⟨c1,c2⟩:=hcl x hxB hx0
      exact ⟨fun r h4 h5=>hs3 _ (List.mem_append_left _ (c1 r h4 h5)),c2⟩
     ·by_cases hxp:x=p.2
      ·subst hxp
       exact ⟨hsit,by omega,p,hp,rfl⟩
      ·exact hcl3 x hx (by rw [List.mem_append,List.mem_singleton];exact fun z=>z.elim hxB hxp))
 rcases q with ⟨τ',S',e,x5,x6,B,rfl,rfl,hB,hsub,hpre,hcl⟩ | ⟨v,τ',S',e,rfl,M',A',hA',hP,rfl⟩
 ·refine .inr ⟨B,hB,hsub,fun p hp hpw=>hpre p ?_ hpw,hcl,?_⟩
  ·rw [List.length_map,List.take_length];exact hp
  ·rw [e]
   walk_at "mx"
   rw [bE,i8]
 ·refine .inl ⟨M',A',hA',hP,?_⟩
  rw [e]
  walk_at "mx"
  rw [bE,i8]
theorem CQ {bs:List Tri} {x:Int} (h:1≤loB bs x):x∈aS bs:=Classical.byContradiction fun hx=>by
 have:bs.find? (fun b=>decide (b.1=x))=none:=List.find?_eq_none.mpr fun b hb z=>hx (List.mem_map.mpr ⟨b,hb,by simpa using z⟩)
 unfold loB bI at h
 rw [this] at h
 exact absurd h (by decide)
theorem DX {wss:List (List Int)} {ns:List Int} {bs:List Tri} {M:Se} {A:List Int} {w:Int} (gb:bo bs) (hk:(M.map (·.1)).Nodup) (hnd:ns.Nodup) (hall:∀ n∈ns,n∈M.map (·.1)) (hA:AOk A) (hw:w∈aS bs) (hlow:(aZ M w:Int) < loB bs w) (hwA:w∈A) (hsit:∀ p∈M,w∈bD wss p.1→p.2∈A) (hcl:oi wss bs M [w] A):bR wss ns bs false (sortI A)=true:=by
 have hkey:∀ x∈A,x∈aS bs:=fun x hx=>by
  by_cases e:x=w
  ·rw [e];exact hw
  ·obtain ⟨_,c2,p,hp,c3⟩:=hcl x hx (by simpa using e)
   refine CQ ?_
   have:1≤aZ M x:=List.length_pos_of_mem (c6.mpr ⟨hp,c3⟩)
   omega
 have hle:∀ x∈A,x≠w→(aZ M x:Int)≤loB bs x:=fun x hx e=>(hcl x hx (by simpa using e)).2.1
 have hsum:(A.map fun x=>(aZ M x:Int)).sum < (A.map fun x=>loB bs x).sum:=by
  have e1:=jM ((List.perm_cons_erase hwA).map fun x=>(aZ M x:Int))
  have e2:=jM ((List.perm_cons_erase hwA).map fun x=>loB bs x)
  rw [List.map_cons,List.sum_cons] at e1 e2
  have e3:((A.erase w).map fun x=>(aZ M x:Int)).sum≤((A.erase w).map fun x=>loB bs x).sum:=jA fun x hx=>hle x (List.mem_of_mem_erase hx) fun z=>by
   rw [z] at hx
   exact absurd hx hA.nd.not_mem_erase
  omega
 have hhave:((gp wss ns (sortI A)).length:Int)≤((M.filter fun p=>decide (p.2∈A)).length:Int):=by
  have:=cL (l1:=gp wss ns (sortI A)) (l2:=(M.filter fun p=>decide (p.2∈A)).map (·.1)) (hnd.sublist List.filter_sublist) fun n hn=>by
   obtain ⟨h1,h2⟩:=List.mem_filter.mp hn
   obtain ⟨v,hv,hva⟩:=List.any_eq_true.mp h2
   have hva:v∈A:=by rw [← dz A v];simpa using hva
   obtain ⟨p,hp,rfl⟩:=List.mem_map.mp (hall n h1)
   refine List.mem_map.mpr ⟨p,List.mem_filter.mpr ⟨hp,decide_eq_true ?_⟩,rfl⟩
   by_cases e:v=w
   ·exact hsit p hp (by rw [← e];exact hv)
   ·exact (hcl v hva (by simpa using e)).1 p hp hv
  rw [List.length_map] at this
  omega
 have hsort:(A.map fun x=>loB bs x).sum≤((sortI A).map fun x=>loB bs x).sum:=nW hA.nd (fun x hx=>(dz A x).mpr hx) fun x _=>(je gb).1.1
 rw [jf hA.nd] at hsum
 unfold bR mI
 rw [if_neg (by decide),decide_eq_false,decide_eq_true (gZ hA.nd),List.all_eq_true.mpr,decide_eq_true]
 ·rfl
 ·exact Int.lt_of_le_of_lt hhave (Int.lt_of_lt_of_le hsum hsort)
 ·intro x hx
  exact decide_eq_true (hkey x ((dz A x).mp hx))
 ·intro z
  have h1:=congrArg List.length z
  rw [cU,List.length_nil] at h1
  have h2:=List.length_pos_of_mem hwA
  omega
theorem w8 {t:XT} {m:XS} (Pr:Vl→Sto→Prop) (I:Nat→Nv→Sto→Prop) (hs:∀ k τ S,I (k+1) τ S→∃ S1 fl τ' S',t τ S=.ok true S1∧m τ S1=.ok (fl,τ') S'∧((fl=.nx∧I k τ' S')∨∃ v,fl=.rt v∧Pr v S')) (he:∀ τ S,I 0 τ S→t τ S=.ok false S) :
  ∀ {n k:Nat} {τ:Nv} {S:Sto},k < n→I k τ S→(∃ τ' S',c7 n t m τ S=.ok (.nx,τ') S'∧I 0 τ' S')∨∃ v τ' S',c7 n t m τ S=.ok (.rt v,τ') S'∧Pr v S'
 | 0,_,_,_,hk,_=>absurd hk (by omega)
 | n+1,0,τ,S,_,h=>.inl ⟨τ,S,by
  rw [c7]
  dsimp only
  rw [he τ S h]
  rfl,h⟩
 | n+1,k+1,τ,S,hk,h=>by
  obtain ⟨S1,fl,τ1,S2,e1,e2,h1⟩:=hs k τ S h
  rcases h1 with ⟨rfl,hI⟩ | ⟨v,rfl,hv⟩
  ·have st:c7 (n+1) t m τ S=c7 n t m τ1 S2:=by
    rw [c7]
    dsimp only
    rw [e1,aI,if_pos rfl,e2]
    rfl
   rw [st]
   exact w8 Pr I hs he (n:=n) (k:=k) (by omega) hI
  ·refine .inr ⟨v,τ1,S2,?_,hv⟩
   rw [c7]
   dsimp only
   rw [e1,aI,if_pos rfl,e2]
   rfl
theorem AQ {n k:Nat} {t:XT} {m:XS} {τ:Nv} {S:Sto} {r:R (Fl×Nv)} (hW:c7 n t m τ S=r) (Pr:Vl→Sto→Prop) (I:Nat→Nv→Sto→Prop) (hs:∀ k τ S,I (k+1) τ S→∃ S1 fl τ' S',t τ S=.ok true S1∧m τ S1=.ok (fl,τ') S'∧((fl=.nx∧I k τ' S')∨∃ v,fl=.rt v∧Pr v S')) (he:∀ τ S,I 0 τ S→t τ S=.ok false S) (hk:k < n) (hI:I k τ S):(∃ τ' S',r=.ok (.nx,τ') S'∧I 0 τ' S')∨∃ v τ' S',r=.ok (.rt v,τ') S'∧Pr v S':=by
 subst hW
 exact w8 Pr I hs he hk hI
theorem asK {A:List Int}:fg (A.map asD)=some A:=by
 induction A with
 | nil=>rfl
 | cons x A ih=>
  rw [List.map_cons]
  show (fg (A.map asD)).map (x :: ·)=_
  rw [ih]
  rfl
theorem zl {A:List Int} {S:Sto} (h:A.length < 64):jg [.fd (A.map asD)] S=.ok (.d (.lst ((sortI A).map D.int))) S:=by
 unfold jg
 dsimp only
 rw [asK]
 dsimp only
 rw [if_pos h]
theorem zu {bs:List Tri} {w:Int} (gb:bo bs):loB bs w≤hiB bs w∧0≤loB bs w∧loB bs w≤4:=by
 unfold loB hiB bI
 cases q:bs.find? (fun b=>decide (b.1=w)) with
 | none=>exact ⟨by simp,by simp,by simp⟩
 | some b=>
  have:=gb.lim b (List.mem_of_find?_eq_some q)
  simp only [Option.getD_some]
  omega
structure Jf (wss:List (List Int)) (ns:List Int) (bs:List Tri) (S0:Sto) (a:Nat) (M:Se) (S':Sto):Prop where
 ok:OkC wss ns bs M
 all:∀ n∈ns,n∈M.map (·.1)
 le:S0.length≤S'.length
 here:S'[a]?=some (.dct (M.map seD))
 rest:∀ j,j < S0.length→j≠a→S'[j]?=S0[j]?
theorem wy {S0 S':Sto} {a:Nat} {M:Se} (hal:a < S0.length) (h1:S0.length≤S'.length) (h2:S'[a]?=some (.dct (M.map seD))) (h3:∀ j,j < S0.length→j≠a→S'[j]?=S0[j]?):S'.take S0.length=S0.set a (.dct (M.map seD)):=by
 apply List.ext_getElem?
 intro j
 rw [List.getElem?_take,List.getElem?_set]
 by_cases hj:j < S0.length
 ·rw [if_pos hj]
  by_cases e:a=j
  ·subst e;rw [if_pos rfl,if_pos hj,h2]
  ·rw [if_neg e,h3 j hj (fun z=>e z.symm)]
 ·rw [if_neg hj]
  split
  ·rename_i e;omega
  ·rw [List.getElem?_eq_none (by omega)]
theorem yb {wss:List (List Int)} {ns:List Int} {bs:List Tri} {M M':Se} {w:Int} (gb:bo bs) (hM:OkC wss ns bs M) (hlow:(aZ M w:Int) < loB bs w) (hP:eI wss ns bs M [w] w M'):OkC wss ns bs M'∧aZ M' w=aZ M w+1∧∀ v,loB bs v≤(aZ M v:Int)→loB bs v≤(aZ M' v:Int):=by
 obtain ⟨z,z1,z2,z3⟩:=hP.cnt
 have hzw:¬w=z:=fun e=>z1 (by simp [e])
 refine ⟨⟨by rw [hP.keys];exact hM.kn,hP.mem,fun x hx=>?_⟩,?_,fun v hv=>?_⟩
 ·have a:=z3 x
  have b:=hM.cap x hx
  have c:=zu (w:=w) gb
  by_cases e:x=w
  ·subst e
   rw [if_pos rfl,if_neg hzw] at a
   omega
  ·rw [if_neg e] at a
   omega
 ·have a:=z3 w
  rw [if_pos rfl,if_neg hzw] at a
  omega
 ·have a:=z3 v
  by_cases e:v=z
  ·subst e
   rw [if_pos rfl,if_neg (fun e=>hzw e.symm)] at a
   omega
  ·rw [if_neg e] at a
   omega
theorem Am {wss:List (List Int)} {ns:List Int} {bs:List Tri} {S0 S':Sto} {a i:Nat} {w:Int} {M:Se} {x4:Option Vl} (hal:a < S0.length) (gn:bX wss.length ns) (gb:bo bs) (hw4:wss.length≤4) (hU:∀ n∈ns,∀ w∈bD wss n,-9≤w∧w < 10) (hw:(aS bs)[i]?=some w) (hJ:Jf wss ns bs S0 a M S') (hl:∀ v∈(aS bs).take i,loB bs v≤(aZ M v:Int)) :
  (∃ τ' S2,gE [some (.d (au wss)),some (.fd (bs.map cx)),some (.r a),some (.d (.int w)),x4] S'=.ok (.nx,τ') S2∧∃ x4' M',τ'=[some (.d (au wss)),some (.fd (bs.map cx)),some (.r a),some (.d (.int w)),x4']∧Jf wss ns bs S0 a M' S2∧∀ v∈(aS bs).take (i+1),loB bs v≤(aZ M' v:Int)) ∨
  (∃ v τ' S2,gE [some (.d (au wss)),some (.fd (bs.map cx)),some (.r a),some (.d (.int w)),x4] S'=.ok (.rt v,τ') S2∧∃ (ps:List Int) (M':Se),v=.d (ak ps)∧bR wss ns bs false ps=true∧S2.take S0.length=S0.set a (.dct (M'.map seD))):=by
 have hwk:w∈aS bs:=List.mem_of_getElem? hw
 have hlim:-9≤w∧w < 10:=by
  obtain ⟨b1,b2⟩:=nU hwk
  have:=gb.lim _ b1
  rw [b2] at this
  omega
 have etest:∀ (M:Se) (S':Sto) (x4:Option Vl),Jf wss ns bs S0 a M S'→aM (xOp oLt (xN bA (ab (az cF (ab (aa 2) (ab (aa 3) aj))) aj)) (xOp oDx (aa 1) (aa 3))) [some (.d (au wss)),some (.fd (bs.map cx)),some (.r a),some (.d (.int w)),x4] S'=.ok (decide ((aZ M w:Int) < loB bs w)) S':=fun M S' x4 hJ=>by
  walk_at "mx"
  rw [iQ hJ.here hJ.ok.kn]
  walk_at "mx"
  rw [dxB (fun _=>rfl) hwk,show (cx (bI bs w)).2=.int (loB bs w) from rfl]
  walk_at "mx"
  rw [List.length_map]
  rfl
 have q:=AQ (show _=gE [some (.d (au wss)),some (.fd (bs.map cx)),some (.r a),some (.d (.int w)),x4] S' from rfl)
  (fun v S2=>∃ (ps:List Int) (M':Se),v=.d (ak ps)∧bR wss ns bs false ps=true∧S2.take S0.length=S0.set a (.dct (M'.map seD)))
  (fun k τ S2=>∃ x4' M',τ=[some (.d (au wss)),some (.fd (bs.map cx)),some (.r a),some (.d (.int w)),x4']∧Jf wss ns bs S0 a M' S2∧(∀ v∈(aS bs).take i,loB bs v≤(aZ M' v:Int))∧(loB bs w - (aZ M' w:Int)).toNat=k)
  (k:=(loB bs w - (aZ M w:Int)).toNat) (by
   rintro k τ S2 ⟨x4',M1,rfl,hJ1,hl1,hk⟩
   have hlow:(aZ M1 w:Int) < loB bs w:=by omega
   have hml:=hJ1.ok.len gn.dom
   have hu:unA M1 ([]++[w])≤4:=by
    have:unA M1 ([]++[w])≤M1.length:=List.length_filter_le _ _
    omega
   have hle:=hJ1.le
   have hS2a:(S2++[Ob.dct []])[a]?=some (.dct (M1.map seD)):=by rw [List.getElem?_append_left (by omega)];exact hJ1.here
   have hS2b:(S2++[Ob.dct []])[S2.length]?=some (.dct (([]:List Int).map asD)):=by simp
   have hid:=C3 hS2a hS2b
   refine ⟨S2,?_⟩
   have hrest:∀ (M2:Se) (A:List Int) j,j < S0.length→j≠a→(Zs (S2++[Ob.dct []]) a S2.length M2 A)[j]?=S0[j]?:=fun M2 A j hj hja=>by
    unfold Zs
    rw [List.getElem?_set_ne (by omega),List.getElem?_set_ne (fun z=>hja z.symm),List.getElem?_append_left (by omega)]
    exact hJ1.rest j hj hja
   rcases xT (wss:=wss) (ns:=ns) (bs:=bs) (S:=S2++[Ob.dct []]) (a:=a) (b:=S2.length) (by simp;omega) (by simp) (by omega) gn.dom hU _ 20 M1 [] w rfl (by omega) hJ1.ok.kn (by omega) hJ1.ok.mem ⟨List.nodup_nil,by simp⟩ (by simp) hlim with ⟨M2,A2,hA2,hP,e⟩ | ⟨A2,hA2,hs2,hsit,hcl,e⟩
   ·rw [hid] at e
    obtain ⟨o1,o2,o3⟩:=yb gb hJ1.ok hlow hP
    refine ⟨.nx,_,Zs (S2++[Ob.dct []]) a S2.length M2 A2,by rw [etest M1 S2 x4' hJ1,decide_eq_true hlow],by
     rw [h_,ia,show gh [some (.d (au wss)),some (.fd (bs.map cx)),some (.r a),some (.d (.int w)),x4'] S2=.ok (.r S2.length) (S2++[.dct []]) from rfl]
     walk_at "mx"
     rw [e]
     walk_at "mx"
     rfl,.inl ⟨rfl,_,M2,rfl,⟨o1,fun n hn=>by rw [hP.keys];exact hJ1.all n hn,by rw [bg];simp;omega,z_s (by simp;omega) (by omega),hrest M2 A2⟩,fun v hv=>o3 v (hl1 v hv),by omega⟩⟩
   ·rw [hid] at e
    have hAl:=hA2.len
    have hZ1:(Zs (S2++[Ob.dct []]) a S2.length M1 A2)[S2.length]?=some (.dct (A2.map asD)):=z_a (by simp)
    refine ⟨.rt (.d (ak (sortI A2))),_,Zs (S2++[Ob.dct []]) a S2.length M1 A2,by rw [etest M1 S2 x4' hJ1,decide_eq_true hlow],by
     rw [h_,ia,show gh [some (.d (au wss)),some (.fd (bs.map cx)),some (.r a),some (.d (.int w)),x4'] S2=.ok (.r S2.length) (S2++[.dct []]) from rfl]
     walk_at "mx"
     rw [e]
     walk_at "mx"
     rw [kH (n:=S2.length) (kvs:=A2.map asD) (x:=.lst ((sortI A2).map D.int)) rfl hZ1 (by
      show jg [.fd (A2.map asD)] _=_
      exact zl (by omega))]
     walk_at "mx"
     rfl,.inr ⟨_,rfl,sortI A2,M1,rfl,DX gb hJ1.ok.kn gn.nd hJ1.all hA2 hwk hlow (hs2 w (by simp)) hsit hcl,wy hal (by rw [bg];simp;omega) (z_s (by simp;omega) (by omega)) (hrest M1 A2)⟩⟩)
  (by
   rintro τ S2 ⟨x4',M1,rfl,hJ1,hl1,hk⟩
   rw [etest M1 S2 x4' hJ1,decide_eq_false (by omega)])
  (by have:=zu (w:=w) gb;omega) ⟨x4,M,rfl,hJ,hl,rfl⟩
 rcases q with ⟨τ',S2,e,x4',M',rfl,h1,h2,h3⟩ | ⟨v,τ',S2,e,h1⟩
 ·refine .inl ⟨_,S2,e,x4',M',rfl,h1,fun v hv=>?_⟩
  rw [take_snoc hw] at hv
  rcases List.mem_append.mp hv with z | z
  ·exact h2 v z
  ·rw [List.mem_singleton.mp z];omega
 ·exact .inr ⟨v,τ',S2,e,h1⟩
theorem y8 {wss:List (List Int)} {ns:List Int} {bs:List Tri} {S0:Sto} {a:Nat} {M:Se} (ha:S0[a]?=some (.dct (M.map seD))) (gn:bX wss.length ns) (gb:bo bs) (hw4:wss.length≤4) (hU:∀ n∈ns,∀ w∈bD wss n,-9≤w∧w < 10) (hM:OkC wss ns bs M) (hall:∀ n∈ns,n∈M.map (·.1)) :
  (∃ M':Se,OkC wss ns bs M'∧(∀ n∈ns,n∈M'.map (·.1))∧(∀ w∈aS bs,loB bs w≤(aZ M' w:Int))∧fH [.d (au wss),.fd (bs.map cx),.r a] S0=.ok (.d (.tup [])) (S0.set a (.dct (M'.map seD)))) ∨
  (∃ (ps:List Int) (M':Se),bR wss ns bs false ps=true∧fH [.d (au wss),.fd (bs.map cx),.r a] S0=.ok (.d (ak ps)) (S0.set a (.dct (M'.map seD)))):=by
 have hal:a < S0.length:=(List.getElem?_eq_some_iff.mp ha).1
 unfold fH
 rw [dk]
 unfold ny
 walk_at "mx"
 have q:=gG (show _=mZ [some (.d (au wss)),some (.fd (bs.map cx)),some (.r a),none,none] S0 from rfl)
  (fun v S2=>∃ (ps:List Int) (M':Se),v=.d (ak ps)∧bR wss ns bs false ps=true∧S2.take S0.length=S0.set a (.dct (M'.map seD)))
  (S1:=S0) (items:=((aS bs).map D.int).map Vl.d) (gd:=none) (by
   unfold mC
   walk_at "mx"
   rw [aI]
   dsimp only
   rw [List.map_map,List.map_map]
   unfold aS
   rw [List.map_map]
   rfl)
  (fun i τ S'=>∃ (x3 x4:Option Vl) (M':Se),τ=[some (.d (au wss)),some (.fd (bs.map cx)),some (.r a),x3,x4]∧Jf wss ns bs S0 a M' S'∧∀ v∈(aS bs).take i,loB bs v≤(aZ M' v:Int))
  ⟨none,none,M,rfl,⟨hM,hall,Nat.le_refl _,ha,fun _ _ _=>rfl⟩,by simp⟩ (by
   rintro i z τ S' hz ⟨x3,x4,M',rfl,hJ,hl⟩
   obtain ⟨w,ew,rfl⟩:=ints_get hz
   rcases Am (x4:=x4) hal gn gb hw4 hU ew hJ hl with ⟨τ',S2,e,x4',M2,rfl,h1,h2⟩ | ⟨v,τ',S2,e,h1⟩
   ·exact ⟨_,_,.nx,_,S2,by walk_at "mx",e,.inl ⟨.inl rfl,True.intro,_,_,M2,rfl,h1,h2⟩⟩
   ·exact ⟨_,_,.rt v,τ',S2,by walk_at "mx",e,.inr ⟨v,rfl,h1⟩⟩)
 rcases q with ⟨τ',S',e,x3,x4,M',rfl,hJ,hl⟩ | ⟨v,τ',S',e,ps,M',rfl,hR,hT⟩
 ·refine .inl ⟨M',hJ.ok,hJ.all,fun w hw=>hl w ?_,?_⟩
  ·rw [show (((aS bs).map D.int).map Vl.d).length=(aS bs).length by simp,List.take_length];exact hw
  ·rw [e]
   walk_at "mx"
   rw [bE,wy hal hJ.le hJ.here hJ.rest]
 ·refine .inr ⟨ps,M',hR,?_⟩
  rw [e]
  walk_at "mx"
  rw [bE,hT]
def grow (found:List (List Int)) (ws:List Int):List (List Int):=found.flatMap fun f=>ws.map fun w=>f++[w]
def dy (wss:List (List Int)):List (List Int):=wss.foldl grow [[]]
theorem iP {wss:List (List Int)} {ws:List Int}:dy (wss++[ws])=grow (dy wss) ws:=by unfold dy;rw [List.foldl_append];rfl
theorem vz {found:List (List Int)} {f ws:List Int}:grow (found++[f]) ws=grow found ws++ws.map fun w=>f++[w]:=by simp [grow]
theorem mG {ws:List Int}:∀ found:List (List Int),(grow found ws).length=found.length * ws.length
 | []=>by simp [grow]
 | f :: found=>by
  have:=mG (ws:=ws) found
  rw [show grow (f :: found) ws=(ws.map fun w=>f++[w])++grow found ws from rfl,List.length_append,this,List.length_map,List.length_cons,Nat.succ_mul]
  omega
theorem mF {wss:List (List Int)}:∀ (n:Nat),n≤wss.length→∀ f∈dy (wss.take n),f.length=n∧∀ i,i < n→f.getD i 0∈wss.getD i []:=by
 intro n
 induction n with
 | zero=>
  intro _ f hf
  have:f=[]:=by simpa [dy] using hf
  subst this
  exact ⟨rfl,fun i hi=>by omega⟩
 | succ n ih=>
  intro hn f hf
  have hlt:n < wss.length:=by omega
  rw [take_snoc (List.getElem?_eq_getElem hlt),iP] at hf
  unfold grow at hf
  obtain ⟨g,hg,hm⟩:=List.mem_flatMap.mp hf
  obtain ⟨w,hw,rfl⟩:=List.mem_map.mp hm
  obtain ⟨g1,g2⟩:=ih (by omega) g hg
  refine ⟨by simp [g1],fun i hi=>?_⟩
  by_cases hin:i < n
  ·have e:(g++[w]).getD i 0=g.getD i 0:=by
    rw [List.getD_eq_getElem?_getD,List.getD_eq_getElem?_getD,List.getElem?_append_left (show i < g.length by omega)]
   rw [e]
   exact g2 i hin
  ·have:i=n:=by omega
   subst this
   have e:(g++[w]).getD i 0=w:=by
    rw [List.getD_eq_getElem?_getD,List.getElem?_append_right (show g.length≤i by omega),g1]
    simp
   rw [e,List.getD_eq_getElem?_getD,List.getElem?_eq_getElem hlt]
   exact hw
theorem yf {wss:List (List Int)} (h:∀ ws∈wss,ws.length≤4):∀ (n:Nat),n≤wss.length→(dy (wss.take n)).length≤4 ^ n:=by
 intro n
 induction n with
 | zero=>intro _;simp [dy]
 | succ n ih=>
  intro hn
  have hlt:n < wss.length:=by omega
  rw [take_snoc (List.getElem?_eq_getElem hlt),iP,mG,Nat.pow_succ]
  exact Nat.mul_le_mul (ih (by omega)) (h _ (List.getElem_mem hlt))
theorem oZ {ps:List (List Int)} {i:Nat} {z:Vl} (h:((ps.map ak).map Vl.d)[i]?=some z):∃ p,ps[i]?=some p∧z=.d (ak p):=by
 rw [List.getElem?_map,List.getElem?_map] at h
 cases q:ps[i]? with
 | none=>rw [q] at h;cases h
 | some p=>rw [q] at h;cases h;exact ⟨p,rfl,rfl⟩
def addW (f:List Int):D→D
 | .int w=>ak (f++[w])
 | z=>z
theorem FH {n:Nat} {S:Sto} {xs:List D} (e:S[n]?=some (.lst xs)):frz (.r n) S=.ok (.d (.lst xs)) (S.set n .dead):=by
 unfold frz
 dsimp only
 rw [e]
theorem pI {wss:List (List Int)} {S:Sto} (h:∀ ws∈wss,ws.length≤4) (hl:wss.length≤4):eP [.d (au wss)] S=.ok (.d (.lst ((dy wss).map ak))) S:=by
 unfold eP
 rw [bO]
 unfold kr au
 walk_at "mx"
 obtain ⟨τ',S',e,x2,x3,x4,Z,rfl,rfl⟩:=d5 (show _=j6 [some (.d (.tup (wss.map ak))),some (.d (.lst [.tup []])),none,none,none] S from rfl) (S1:=S) (items:=(wss.map ak).map Vl.d) (gd:=none) (by walk_at "mx")
  (fun i τ S'=>∃ x2 x3 x4 Z,τ=[some (.d (.tup (wss.map ak))),some (.d (.lst ((dy (wss.take i)).map ak))),x2,x3,x4]∧S'=S++Z) ⟨none,none,none,[],rfl,by simp⟩ (by
   rintro i z τ S' hz ⟨x2,x3,x4,Z,rfl,rfl⟩
   obtain ⟨ws,ew,rfl⟩:=oZ hz
   have hi:=(List.getElem?_eq_some_iff.mp ew).1
   have hw:=h ws (List.mem_of_getElem? ew)
   have hfl:=yf h i (by omega)
   have h44:4 ^ i≤4 ^ 4:=Nat.pow_le_pow_right (by decide) (by omega)
   generalize hF:dy (wss.take i)=F at hfl
   generalize hSZ:S++Z=SZ
   have inner:∃ x4',fV [some (.d (.tup (wss.map ak))),some (.d (.lst (F.map ak))),some (.d (ak ws)),some (.r SZ.length),x4] (SZ++[.lst []])=.ok (.nx,[some (.d (.tup (wss.map ak))),some (.d (.lst (F.map ak))),some (.d (ak ws)),some (.r SZ.length),x4']) (SZ++[.lst ((grow F ws).map ak)]):=by
    obtain ⟨τ',S',e,x4',rfl,rfl⟩:=d5 (show _=fV [some (.d (.tup (wss.map ak))),some (.d (.lst (F.map ak))),some (.d (ak ws)),some (.r SZ.length),x4] (SZ++[.lst []]) from rfl) (S1:=SZ++[.lst []]) (items:=(F.map ak).map Vl.d) (gd:=none) (by walk_at "mx")
     (fun j τ S'=>∃ x4',τ=[some (.d (.tup (wss.map ak))),some (.d (.lst (F.map ak))),some (.d (ak ws)),some (.r SZ.length),x4']∧S'=SZ++[.lst ((grow (F.take j) ws).map ak)]) ⟨x4,rfl,rfl⟩ (by
      rintro j z τ S' hz ⟨x4',rfl,rfl⟩
      obtain ⟨f,ef,rfl⟩:=oZ hz
      have hj:=(List.getElem?_eq_some_iff.mp ef).1
      have hgl:=mG (ws:=ws) (F.take j)
      have hgl2:(F.take j).length * ws.length≤256 * 4:=Nat.mul_le_mul (by simp;omega) hw
      have hff:f.length≤4:=((by have:=(mF (wss:=wss) i (by omega) f (by rw [hF];exact List.mem_of_getElem? ef)).1;omega):f.length≤4)
      refine ⟨_,_,.nx,_,_,by walk_at "mx";rfl,by
       walk_at "mx"
       rw [dG (show _=j_ [some (.d (.tup (wss.map ak))),some (.d (.lst (F.map ak))),some (.d (ak ws)),some (.r SZ.length),some (.d (ak f))] (SZ++[.lst ((grow (F.take j) ws).map ak)]) from rfl) (xs:=ws.map D.int) (S1:=SZ++[.lst ((grow (F.take j) ws).map ak)]) (by walk_at "mx";rfl) (addW f) (by
        intro x hx S
        obtain ⟨w,hw,rfl⟩:=List.mem_map.mp hx
        unfold addW ak
        walk_at "mx"
        rw [w6 (by simp;omega),List.map_append]
        rfl)]
       walk_at "mx"
       rw [wA (by simp only [List.length_map];omega)]
       walk_at "mx"
       rfl,.inl rfl,True.intro,some (.d (ak f)),rfl,?_⟩
      rw [take_snoc ef,vz,List.map_append,List.map_map,List.map_map]
      rfl)
    rw [show ((F.map ak).map Vl.d).length=F.length by simp,List.take_length] at e
    exact ⟨x4',e⟩
   obtain ⟨x4',e⟩:=inner
   refine ⟨_,_,.nx,_,_,by walk_at "mx";rfl,by
    walk_at "mx"
    rw [e]
    walk_at "mx"
    rw [FH rn]
    walk_at "mx"
    rfl,.inl rfl,True.intro,some (.d (ak ws)),some (.r SZ.length),x4',Z++[.dead],?_,?_⟩
   ·rw [take_snoc ew,iP,hF]
   ·rw [← hSZ];simp)
 rw [e]
 rw [show ((wss.map ak).map Vl.d).length=wss.length by simp,List.take_length]
 walk_at "mx"
 rw [fm]
theorem Ab {wss:List (List Int)} {f:List Int} (hf:f∈dy wss) {n:Int} (h0:0≤n) (h1:n < (wss.length:Int)):f.getD n.toNat 0∈wss.getD n.toNat []:=by
 have:=mF (wss:=wss) wss.length (Nat.le_refl _) f (by rw [List.take_length];exact hf)
 exact this.2 n.toNat (by omega)
theorem Bb {wss:List (List Int)} {f:List Int} (hl:f.length=wss.length) (hm:∀ i,i < wss.length→f.getD i 0∈wss.getD i []):f∈dy wss:=by
 have key:∀ n,n≤wss.length→f.take n∈dy (wss.take n):=by
  intro n
  induction n with
  | zero=>intro _;simp [dy]
  | succ n ih=>
   intro hn
   have h1:n < wss.length:=by omega
   have h2:n < f.length:=by omega
   rw [take_snoc (List.getElem?_eq_getElem h1),take_snoc (List.getElem?_eq_getElem h2),iP]
   refine List.mem_flatMap.mpr ⟨_,ih (by omega),List.mem_map.mpr ⟨f[n],?_,rfl⟩⟩
   have:=hm n h1
   rw [List.getD_eq_getElem?_getD,List.getD_eq_getElem?_getD,List.getElem?_eq_getElem h1,List.getElem?_eq_getElem h2] at this
   exact this
 have:=key wss.length (Nat.le_refl _)
 rw [List.take_length,List.take_of_length_le (by omega)] at this
 exact this
theorem xU {f:List Int} {L:List (List Int)} {S:Sto} (h:f∈L):oIn (.d (ak f)) (.d (.lst (L.map ak))) S=.ok (.d (.bl true)) S:=by
 have hd:=f_ L
 unfold oIn inX
 dsimp only
 rw [show bP (.d (.lst (L.map ak))) S=some (L.map ak) from rfl]
 dsimp only
 rw [show D.flat (ak f)=false from rfl,if_neg (by simp),show cu (.d (.lst (L.map ak))) S=some (L.map ak) from rfl]
 dsimp only
 rw [if_pos (by omega)]
 have:inD (ak f) (L.map ak)=true:=by
  unfold inD
  rw [List.any_map,List.any_eq_true]
  exact ⟨f,h,by show D.eqv (ak f) (ak f)=true;exact D.eqv_refl _⟩
 rw [this]
def lkM (M:Se) (k:Int):Option Int:=(M.find? fun x=>decide (x.1=k)).map (·.2)
def eS (wss:List (List Int)) (M:Se):List Int:=(List.range wss.length).map fun k=>(lkM M (k:Nat)).getD ((wss.getD k []).getD 0 0)
theorem wC {M:Se} {k:Int}:dq (M.map seD) (.inl k)=(lkM M k).map D.int:=by
 unfold lkM
 induction M with
 | nil=>rfl
 | cons x l ih=>
  rw [List.map_cons]
  by_cases h:x.1=k
  ·rw [gP (show (seD x).1=.inl k by rw [← h];rfl)]
   simp [List.find?_cons,h,seD]
  ·rw [fi (show ¬(seD x).1=.inl k from fun z=>h (Sum.inl.inj z)),ih]
   simp [List.find?_cons,h]
theorem DF {d k e:XE} {τ:Nv} {S S1 S2 S3:Sto} {kvs:List (Key×D)} {yd zd:D} {key:Key} (h1:d τ S=.ok (.fd kvs) S1) (h2:k τ S1=.ok (.d yd) S2) (h3:e τ S2=.ok (.d zd) S3) (hk:eX yd=some key):lO d k e τ S=.ok (.d ((dq kvs key).getD zd)) S3:=by
 unfold lO
 rw [h1,aI]
 rw [if_pos (show (eZ (.fd kvs) S1).isSome=true from rfl),h2,aI,h3,aI]
 dsimp only
 rw [hk]
 rfl
theorem A4 {wss:List (List Int)} {M:Se} {n m:Int} {S:Sto} (gs:cN n m wss):cH [.d (au wss),.fd (M.map seD)] S=.ok (.d (ak (eS wss M))) S:=by
 unfold cH
 rw [c8]
 unfold iF
 have e:eN [some (.d (au wss)),some (.fd (M.map seD))] S=.ok (.d (.lst ((eS wss M).map D.int))) S:=by
  unfold eN
  rw [lcG (items:=cM 0 (wss.map ak)) (S1:=S) (by unfold xG;rfl) (fun z=>match z with | .d (.tup [a,b])=>[some (.d a),some (.d b)] | _=>[none,none]) (fun z=>match z with | .d (.tup [.int k,_])=>.int ((lkM M k).getD ((wss.getD k.toNat []).getD 0 0)) | _=>.non) (fun _=>true) ?_ ?_ ?_ ?_]
  ·rw [List.filter_eq_self.mpr (fun _ _=>rfl)]
   congr 3
   refine List.ext_getElem? fun i=>?_
   rw [List.getElem?_map,dw,List.getElem?_map]
   unfold eS
   rw [List.getElem?_map,List.getElem?_map]
   by_cases hi:i < wss.length
   ·rw [List.getElem?_eq_getElem hi,List.getElem?_range hi]
    simp
   ·rw [List.getElem?_eq_none (by omega),List.getElem?_eq_none (by simp;omega)]
    rfl
  ·intro z hz
   obtain ⟨i,hi,rfl⟩:=List.mem_iff_getElem.mp hz
   obtain ⟨x,_,e⟩:=jS (List.getElem?_eq_getElem hi)
   rw [e]
   rfl
  ·intro z hz ρ hρ S
   obtain ⟨i,hi,rfl⟩:=List.mem_iff_getElem.mp hz
   obtain ⟨x,_,e⟩:=jS (List.getElem?_eq_getElem hi)
   rw [e]
   match ρ,hρ with
   | [_,_],_=>walk_at "mx"
  ·intro z hz S
   rfl
  ·intro z hz _ S
   obtain ⟨i,hi,rfl⟩:=List.mem_iff_getElem.mp hz
   obtain ⟨x,hx,e⟩:=jS (List.getElem?_eq_getElem hi)
   rw [e]
   rw [List.getElem?_map] at hx
   cases q:wss[i]? with
   | none=>rw [q] at hx;cases hx
   | some ws=>
    rw [q] at hx
    cases hx
    have hws:=gs.all ws (List.mem_of_getElem? q)
    have hpos:0 < ws.length:=hws.pos
    dsimp only
    rw [DF (S1:=S) (S2:=S) (S3:=S) (kvs:=M.map seD) (yd:=.int (i:Nat)) (key:=.inl (i:Nat)) (zd:=.int (ws.getD 0 0)) (by walk_at "mx") (by walk_at "mx") (by
     walk_at "mx"
     exact cv (n5 (i:=0) hpos)) rfl,wC]
    rw [Int.toNat_natCast,show wss.getD i []=ws by rw [List.getD_eq_getElem?_getD,q];rfl]
    cases lkM M (i:Nat)<;>rfl
 walk_at "mx"
 rw [e]
 walk_at "mx"
 rw [aJ]
 rfl
theorem Du {M:Se} (h:(M.map (·.1)).Nodup) {p:Int×Int} (hp:p∈M):lkM M p.1=some p.2:=by
 have:=nC h hp
 rw [wC] at this
 cases q:lkM M p.1 with
 | none=>rw [q] at this;cases this
 | some v=>rw [q] at this;cases this;rfl
theorem Aa {M:Se} {k v:Int} (h:lkM M k=some v):(k,v)∈M:=by
 unfold lkM at h
 cases q:M.find? fun x=>decide (x.1=k) with
 | none=>rw [q] at h;cases h
 | some p=>
  rw [q] at h
  cases h
  have h1:=List.mem_of_find?_eq_some q
  have h2:p.1=k:=by simpa using List.find?_some q
  rw [← h2]
  exact h1
def atN (f ns:List Int):List Int:=ns.map fun n=>f.getD n.toNat 0
theorem qS {wss:List (List Int)} {M:Se} {i:Nat} (hi:i < wss.length):(eS wss M).getD i 0=(lkM M (i:Nat)).getD ((wss.getD i []).getD 0 0):=by
 unfold eS
 rw [List.getD_eq_getElem?_getD,List.getElem?_map,List.getElem?_range hi]
 rfl
theorem zv {x y:D} {S:Sto}:oIx (.d (.tup [x,y])) (.d (.int 0)) S=.ok (.d x) S:=cv rfl
theorem l4 {x y:D} {S:Sto}:oIx (.d (.tup [x,y])) (.d (.int 1)) S=.ok (.d y) S:=cv rfl
structure pQ (wss:List (List Int)) (ns:List Int) (bs:List Tri) (M:Se):Prop where
 ok:OkC wss ns bs M
 all:∀ n∈ns,n∈M.map (·.1)
 low:∀ w∈aS bs,loB bs w≤(aZ M w:Int)
theorem j4 {wss:List (List Int)} {ns:List Int} {bs:List Tri} {nm:Bool} {ps:List Int} (h:bR wss ns bs nm ps=true):ps≠[]∧ps.Pairwise (· < ·)∧(if nm then (∀ p∈ps,p∈ns)∧(∀ w∈aV (bf wss ps),w∈aS bs)∧((aV (bf wss ps)).map fun w=>hiB bs w).sum < (ps.length:Int) else (∀ p∈ps,p∈aS bs)∧((gp wss ns ps).length:Int) < (ps.map fun w=>loB bs w).sum):=by
 unfold bR at h
 cases nm with
 | true=>
  simp only [if_true,Bool.and_eq_true,Bool.not_eq_true',decide_eq_false_iff_not,decide_eq_true_eq,List.all_eq_true,tooMany] at h ⊢
  exact ⟨h.1,h.2.1,h.2.2.1,h.2.2.2.1,h.2.2.2.2⟩
 | false=>
  simp only [Bool.false_eq_true,if_false,Bool.and_eq_true,Bool.not_eq_true',decide_eq_false_iff_not,decide_eq_true_eq,List.all_eq_true,mI] at h ⊢
  exact ⟨h.1,h.2.1,h.2.2.1,h.2.2.2⟩
theorem wm {wss:List (List Int)} {ns:List Int} {bs:List Tri} {nm:Bool} {ps:List Int} {M:Se} (h:bR wss ns bs nm ps=true) (hM:pQ wss ns bs M):False:=by
 obtain ⟨_,h2,h3⟩:=j4 h
 have hnd:ps.Nodup:=h2.imp fun z=>by omega
 cases nm with
 | true=>
  obtain ⟨h3,h4,h5⟩:=h3
  have hU:(aV (bf wss ps)).Nodup:=(b6 _).imp fun z=>by omega
  have e1:=jf (M:=M) hU
  have e2:((aV (bf wss ps)).map fun w=>(aZ M w:Int)).sum≤((aV (bf wss ps)).map fun w=>hiB bs w).sum:=jA fun x hx=>hM.ok.cap x (h4 x hx)
  have e3:=cL (l1:=ps) (l2:=(M.filter fun p=>decide (p.2∈aV (bf wss ps))).map (·.1)) hnd fun n hn=>by
   obtain ⟨p,hp,rfl⟩:=List.mem_map.mp (hM.all n (h3 n hn))
   refine List.mem_map.mpr ⟨p,List.mem_filter.mpr ⟨hp,decide_eq_true ?_⟩,rfl⟩
   rw [cE]
   exact List.mem_flatMap.mpr ⟨p.1,hn,(hM.ok.mem p hp).2⟩
  rw [List.length_map] at e3
  omega
 | false=>
  obtain ⟨h3,h4⟩:=h3
  have e1:=jf (M:=M) hnd
  have e2:(ps.map fun w=>loB bs w).sum≤(ps.map fun w=>(aZ M w:Int)).sum:=jA fun x hx=>hM.low x (h3 x hx)
  have e3:=cL (l1:=(M.filter fun p=>decide (p.2∈ps)).map (·.1)) (l2:=gp wss ns ps) (hM.ok.kn.sublist (List.filter_sublist.map _)) fun n hn=>by
   obtain ⟨p,hp,rfl⟩:=List.mem_map.mp hn
   obtain ⟨q1,q2⟩:=List.mem_filter.mp hp
   obtain ⟨q3,q4⟩:=hM.ok.mem p q1
   exact List.mem_filter.mpr ⟨q3,List.any_eq_true.mpr ⟨p.2,q4,q2⟩⟩
  rw [List.length_map] at e3
  omega
def i0 (f ns:List Int) (bs:List Tri):Bool:=bs.all fun b=>!(decide (((atN f ns).count b.1:Int) < b.2.1) || decide (b.2.2 < ((atN f ns).count b.1:Int)))
def fC (wss:List (List Int)) (ns:List Int) (bs:List Tri):List (List Int):=(dy wss).filter fun f=>i0 f ns bs
theorem CJ {f ns:List Int} {w:Int}:(atN f ns).count w=(ns.filter fun n=>decide (f.getD n.toNat 0=w)).length:=by
 unfold atN
 induction ns with
 | nil=>rfl
 | cons n ns ih=>
  rw [List.map_cons,List.count_cons,ih,List.filter_cons]
  by_cases h:f.getD n.toNat 0=w
  ·rw [if_pos (beq_iff_eq.mpr h),if_pos (decide_eq_true h),List.length_cons]
  ·rw [if_neg (fun z=>h (beq_iff_eq.mp z)),if_neg (fun z=>h (of_decide_eq_true z))]
   rfl
theorem zF {f ns:List Int} {M:Se} (w:Int) (hk:(M.map (·.1)).Nodup) (hn:ns.Nodup) (h1:∀ x,x∈M.map (·.1)↔x∈ns) (h2:∀ p∈M,f.getD p.1.toNat 0=p.2):(atN f ns).count w=aZ M w:=by
 rw [CJ]
 unfold aZ
 refine Nat.le_antisymm ?_ ?_
 ·have:=cL (l1:=ns.filter fun n=>decide (f.getD n.toNat 0=w)) (l2:=(atW M w).map (·.1)) (hn.sublist List.filter_sublist) fun n h=>by
   obtain ⟨a,b⟩:=List.mem_filter.mp h
   obtain ⟨p,hp,rfl⟩:=List.mem_map.mp ((h1 n).mpr a)
   refine List.mem_map.mpr ⟨p,c6.mpr ⟨hp,?_⟩,rfl⟩
   rw [← h2 p hp]
   simpa using b
  rwa [List.length_map] at this
 ·have:=cL (l1:=(atW M w).map (·.1)) (l2:=ns.filter fun n=>decide (f.getD n.toNat 0=w)) (hk.sublist (List.filter_sublist.map _)) fun n h=>by
   obtain ⟨p,hp,rfl⟩:=List.mem_map.mp h
   obtain ⟨a,b⟩:=c6.mp hp
   refine List.mem_filter.mpr ⟨(h1 _).mp (List.mem_map.mpr ⟨p,a,rfl⟩),decide_eq_true ?_⟩
   rw [h2 p a,b]
  rwa [List.length_map] at this
theorem vp {bs:List Tri} (gb:bo bs) {b:Tri} (hb:b∈bs):bI bs b.1=b:=by
 have hk:b.1∈aS bs:=List.mem_map.mpr ⟨b,hb,rfl⟩
 obtain ⟨h1,h2⟩:=nU hk
 exact kI (f:=fun b:Tri=>b.1) (gb.rise.imp fun z=>by omega) h1 hb h2
theorem qg {f ns:List Int} {bs:List Tri} {M:Se} (gb:bo bs) (h:∀ w,(atN f ns).count w=aZ M w):i0 f ns bs=true↔∀ w∈aS bs,loB bs w≤(aZ M w:Int)∧(aZ M w:Int)≤hiB bs w:=by
 unfold i0
 rw [List.all_eq_true]
 constructor
 ·intro q w hw
  obtain ⟨b,hb,rfl⟩:=List.mem_map.mp hw
  have:=q b hb
  simp only [Bool.not_eq_true',Bool.or_eq_false_iff,decide_eq_false_iff_not,h] at this
  unfold loB hiB
  rw [vp gb hb]
  omega
 ·intro q b hb
  have:=q b.1 (List.mem_map.mpr ⟨b,hb,rfl⟩)
  unfold loB hiB at this
  rw [vp gb hb] at this
  simp only [Bool.not_eq_true',Bool.or_eq_false_iff,decide_eq_false_iff_not,h]
  omega
theorem uQ {wss:List (List Int)} {n m:Int} {ns:List Int} {bs:List Tri} {M:Se} (gs:cN n m wss) (gn:bX wss.length ns) (gb:bo bs) (hM:pQ wss ns bs M):eS wss M∈fC wss ns bs:=by
 refine List.mem_filter.mpr ⟨Bb (by unfold eS;simp) fun i hi=>?_,(qg gb fun w=>zF w hM.ok.kn gn.nd (fun x=>⟨fun h=>?_,hM.all x⟩) fun p hp=>?_).mpr fun w hw=>⟨hM.low w hw,hM.ok.cap w hw⟩⟩
 ·rw [qS hi]
  cases q:lkM M (i:Nat) with
  | none=>
   have h1:wss.getD i []∈wss:=by rw [List.getD_eq_getElem?_getD,List.getElem?_eq_getElem hi];exact List.getElem_mem hi
   have:=(gs.all _ h1).pos
   show (wss.getD i []).getD 0 0∈wss.getD i []
   cases hw:wss.getD i [] with
   | nil=>rw [hw] at this;simp at this
   | cons a l=>simp
  | some v=>
   have:=(hM.ok.mem _ (Aa q)).2
   unfold bD at this
   simpa using this
 ·obtain ⟨p,hp,rfl⟩:=List.mem_map.mp h
  exact (hM.ok.mem p hp).1
 ·obtain ⟨x0,x1⟩:=gn.dom p.1 (hM.ok.mem p hp).1
  rw [qS (by omega),show ((p.1.toNat:Nat):Int)=p.1 by omega,Du hM.ok.kn hp]
  rfl
theorem uf {wss:List (List Int)} {ns f:List Int} {bs:List Tri} (gn:bX wss.length ns) (gb:bo bs) (h:f∈fC wss ns bs):pQ wss ns bs (ns.map fun n=>(n,f.getD n.toNat 0)):=by
 obtain ⟨h1,h2⟩:=List.mem_filter.mp h
 have e:(ns.map fun n=>(n,f.getD n.toNat 0)).map (·.1)=ns:=by
  rw [List.map_map]
  exact (List.map_congr_left (g:=id) fun _ _=>rfl).trans (List.map_id _)
 have hk:((ns.map fun n=>(n,f.getD n.toNat 0)).map (·.1)).Nodup:=by rw [e];exact gn.nd
 have hc:=(qg (M:=ns.map fun n=>(n,f.getD n.toNat 0)) gb fun w=>zF w hk gn.nd (fun x=>by rw [e]) fun p hp=>by
  obtain ⟨n,hn,rfl⟩:=List.mem_map.mp hp
  rfl).mp h2
 refine ⟨⟨hk,fun p hp=>?_,fun w hw=>(hc w hw).2⟩,fun n hn=>by rw [e];exact hn,fun w hw=>(hc w hw).1⟩
 obtain ⟨n,hn,rfl⟩:=List.mem_map.mp hp
 exact ⟨hn,Ab h1 (gn.dom n hn).1 (gn.dom n hn).2⟩
theorem sM {ns f:List Int} {bs:List Tri} {k:Nat} {S:Sto} (gn:bX k ns) (hk:k≤4) (hf:f.length=k):fF [.d (a8 ns bs),.d (ak f)] S=.ok (.d (.bl (i0 f ns bs))) S:=by
 unfold fF
 rw [c8]
 unfold k8
 walk_at "mx"
 rw [dG (show _=kO [some (.d (a8 ns bs)),some (.d (ak f)),none,none,none,none,none,none,none,none,none] S from rfl) (xs:=ns.map D.int) (S1:=S) (by walk_at "mx";rw [lR];rfl) (fun x=>match x with | .int n=>.int (f.getD n.toNat 0) | _=>.non) (by
  intro x hx S
  obtain ⟨n,hn,rfl⟩:=List.mem_map.mp hx
  obtain ⟨n0,n1⟩:=gn.dom n hn
  walk_at "mx"
  rw [show n=((n.toNat:Nat):Int) by omega]
  exact (cv (n5 (by omega))).trans (by rw [Int.toNat_natCast]))]
 walk_at "mx"
 rw [List.map_map,show ((fun x:D=>(match x with | .int n=>D.int (f.getD n.toNat 0) | _=>.non)) ∘ D.int)=D.int ∘ (fun n:Int=>f.getD n.toNat 0) from rfl,← List.map_map,show ns.map (fun n:Int=>f.getD n.toNat 0)=atN f ns from rfl,pV]
 walk_at "mx"
 rw [v3]
 walk_at "mx"
 rw [pV]
 walk_at "mx"
 have q:=gG (show _=kP [some (.d (a8 ns bs)),some (.d (ak f)),some (.d (.lst ((atN f ns).map D.int))),none,none,none,none,none,none,none,none] S from rfl)
  (fun v S2=>v=.d (.bl false)∧S2=S∧i0 f ns bs=false)
  (S1:=S) (items:=(bs.map ba).map Vl.d) (gd:=none) (by walk_at "mx";rw [m9];walk_at "mx")
  (fun i τ S'=>∃ y3 y4 y5,τ=[some (.d (a8 ns bs)),some (.d (ak f)),some (.d (.lst ((atN f ns).map D.int))),y3,y4,y5,none,none,none,none,none]∧S'=S∧i0 f ns (bs.take i)=true)
  ⟨none,none,none,rfl,rfl,rfl⟩ (by
   rintro i z τ S' hz ⟨y3,y4,y5,rfl,rfl,hm⟩
   rw [List.getElem?_map,List.getElem?_map] at hz
   cases q:bs[i]? with
   | none=>rw [q] at hz;cases hz
   | some b=>
    rw [q] at hz
    cases hz
    obtain ⟨b1,b2,b3⟩:=b
    have hb:=List.mem_of_getElem? q
    by_cases h1:((atN f ns).count b1:Int) < b2
    ·refine ⟨_,_,.rt (.d (.bl false)),_,_,by unfold ba;walk_at "mx";rfl,by
      walk_at "mx"
      rw [decide_eq_true h1]
      walk_at "mx"
      rfl,.inr ⟨_,rfl,rfl,rfl,?_⟩⟩
     unfold i0
     rw [List.all_eq_false]
     exact ⟨_,hb,by simp [h1]⟩
    ·by_cases h2:b3 < ((atN f ns).count b1:Int)
     ·refine ⟨_,_,.rt (.d (.bl false)),_,_,by unfold ba;walk_at "mx";rfl,by
       walk_at "mx"
       rw [decide_eq_false h1]
       walk_at "mx"
       rw [decide_eq_true h2]
       walk_at "mx"
       rfl,.inr ⟨_,rfl,rfl,rfl,?_⟩⟩
      unfold i0
      rw [List.all_eq_false]
      exact ⟨_,hb,by simp [h2]⟩
     ·refine ⟨_,_,.nx,_,_,by unfold ba;walk_at "mx";rfl,by
       walk_at "mx"
       rw [decide_eq_false h1]
       walk_at "mx"
       rw [decide_eq_false h2]
       walk_at "mx"
       rfl,.inl ⟨.inl rfl,True.intro,_,_,_,rfl,rfl,?_⟩⟩
      unfold i0 at hm ⊢
      rw [take_snoc q,List.all_append,hm]
      simp [h1,h2])
 rcases q with ⟨τ',S',e,y3,y4,y5,rfl,rfl,hm⟩ | ⟨v,τ',S',e,rfl,rfl,hm⟩
 ·rw [show ((bs.map ba).map Vl.d).length=bs.length by simp,List.take_length] at hm
  rw [e,hm]
  walk_at "mx"
  rw [aJ]
 ·rw [e,hm]
  walk_at "mx"
  rw [aJ]
theorem xB {wss:List (List Int)} {n m:Int} {ns:List Int} {bs:List Tri} {S:Sto} (gs:cN n m wss) (hn:n≤4) (hm:m≤4) (gn:bX wss.length ns):jP [.d (au wss),.d (.lst [a8 ns bs])] S=.ok (.d (.lst ((fC wss ns bs).map ak))) S:=by
 have h4:=gs.le
 unfold jP
 rw [c8]
 unfold oN
 walk_at "mx"
 rw [pI (fun ws h=>by have:=(gs.all ws h).le;omega) (by omega)]
 walk_at "mx"
 unfold pd
 walk_at "mx"
 rw [cw]
 walk_at "mx"
 rw [aI]
 rw [gJ (show _=oF [some (.d (au wss)),some (.d (.lst [a8 ns bs])),some (.d (.lst ((dy wss).map ak))),some (.d (a8 ns bs))] S from rfl) (d:=ak) (g:=ak) (xs:=dy wss) (S1:=S) (by
  walk_at "mx"
  rw [List.map_map]
  rfl) (fun f=>i0 f ns bs) (fun f hf S=>by
  have hl:=(mF (wss:=wss) wss.length (Nat.le_refl _) f (by rw [List.take_length];exact hf)).1
  walk_at "mx"
  rw [sM gn (by omega) hl]
  walk_at "mx") (fun f _ _ S=>by walk_at "mx")]
 walk_at "mx"
 rw [aI]
 dsimp only
 rw [if_pos (show gok none _ from True.intro),cw]
 walk_at "mx"
 rw [aJ]
 rfl
theorem AI {wss:List (List Int)} {n m:Int} {ns:List Int} {bs:List Tri} {S:Sto} (gs:cN n m wss) (hn:n≤4) (hm:m≤4) (gn:bX wss.length ns) (gb:bo bs) :
  (∃ M,pQ wss ns bs M∧dQ [.d (au wss),.d (a8 ns bs)] S=.ok (.d (.tup [.str "can",ak (eS wss M)])) S) ∨
  (∃ nm ps,bR wss ns bs nm ps=true∧dQ [.d (au wss),.d (a8 ns bs)] S=.ok (.d (.tup [.str "no",cD nm ps])) S):=by
 have h4:=gs.le
 have hU:∀ p∈ns,∀ w∈bD wss p,-9≤w∧w < 10:=fun p hp w hww=>by
  have:=(gs.all _ (iI (gn.dom p hp).1 (gn.dom p hp).2)).lim w hww
  omega
 have hout:∀ z:Ob,(S++[z]).take S.length=S:=fun z=>by rw [List.take_left]
 have ne:∀ {ps:List Int} {nm:Bool},bR wss ns bs nm ps=true→∃ p0 ps0,ps=p0 :: ps0:=fun {ps nm} h=>by
  have:=(j4 h).1
  cases ps with
  | nil=>exact absurd rfl this
  | cons a l=>exact ⟨a,l,rfl⟩
 unfold dQ
 rw [c8]
 unfold mm
 walk_at "mx"
 rw [rS gs hn hm gn gb]
 walk_at "mx"
 rw [show gh [some (.d (au wss)),some (.d (a8 ns bs)),none,none,none] S=.ok (.r S.length) (S++[.dct []]) from rfl]
 walk_at "mx"
 rw [lR]
 walk_at "mx"
 rw [m9]
 walk_at "mx"
 rw [sH gb]
 walk_at "mx"
 rcases wM (wss:=wss) (ns:=ns) (bs:=bs) (S0:=S++[Ob.dct []]) (a:=S.length) rN gn gb (by omega) hU with ⟨M,hM,hall,e⟩ | ⟨ps,M,hR,e⟩
 ·rw [e,lI]
  walk_at "mx"
  simp only [List.isEmpty_nil,Bool.not_true]
  walk_at "mx"
  rw [m9]
  walk_at "mx"
  rw [uO gb]
  walk_at "mx"
  rcases y8 (wss:=wss) (ns:=ns) (bs:=bs) (S0:=S++[Ob.dct (M.map seD)]) (a:=S.length) rN gn gb (by omega) hU hM hall with ⟨M',hM',hall',hlow,e⟩ | ⟨ps,M',hR,e⟩
  ·rw [e,lI]
   refine .inl ⟨M',⟨hM',hall',hlow⟩,?_⟩
   walk_at "mx"
   simp only [List.isEmpty_nil,Bool.not_true]
   walk_at "mx"
   rw [kH (n:=S.length) (kvs:=M'.map seD) (x:=ak (eS wss M')) rfl rN (by
    rw [show ∀ T:Sto,az cH (ab (aa 0) (ab (aa 2) aj)) ([some (Vl.d (au wss)),some (.d (a8 ns bs)),some (.r S.length),some (.d (.tup [])),some (.d (.tup []))].set 2 (some (.fd (M'.map seD)))) T=noX (cH [.d (au wss),.fd (M'.map seD)] T) from fun _=>rfl,A4 gs]
    rfl)]
   walk_at "mx"
   rw [bE,hout]
  ·rw [e,lI]
   refine .inr ⟨false,ps,hR,?_⟩
   obtain ⟨p0,ps0,rfl⟩:=ne hR
   unfold ak
   walk_at "mx"
   simp only [List.isEmpty_cons,Bool.not_false]
   walk_at "mx"
   rw [bE,hout]
   rfl
 ·rw [e,lI]
  refine .inr ⟨true,ps,hR,?_⟩
  obtain ⟨p0,ps0,rfl⟩:=ne hR
  unfold ak
  walk_at "mx"
  simp only [List.isEmpty_cons,Bool.not_false]
  walk_at "mx"
  rw [bE,hout]
  rfl
theorem eq_str {a b:Str} {S:Sto}:gY [.d (.str a),.d (.str b)] S=.ok (.d (.bl (decide (a=b)))) S:=by
 unfold gY
 rw [c8]
 unfold pf
 walk_at "mx"
 rw [show oIs (.d (.str b)) (.d .non) S=.ok (.d (.bl false)) S from rfl]
 walk_at "mx"
 rw [show isT "bool" (.str b)=false from rfl]
 walk_at "mx"
 rw [show isT "bool" (.str a)=false from rfl]
 walk_at "mx"
 rw [show isT "int" (.str b)=false from rfl]
 walk_at "mx"
 rw [show isT "str" (.str b)=true from rfl]
 walk_at "mx"
 rw [show isT "str" (.str a)=true from rfl]
 walk_at "mx"
 rw [aJ]
theorem FT {nm:Bool} {S:Sto}:oIn (.d (.str (if nm then "names" else "worths"))) (.d (.tup [.str "names",.str "worths"])) S=.ok (.d (.bl true)) S:=by
 have e:inX (.d (.str (if nm then "names" else "worths"))) (.d (.tup [.str "names",.str "worths"])) S=some true:=by
  unfold inX
  dsimp only
  rw [show bP (.d (.tup [.str "names",.str "worths"])) S=some [.str "names",.str "worths"] from rfl]
  dsimp only
  rw [if_pos (by cases nm<;>rfl)]
  cases nm<;>decide +kernel
 unfold oIn
 rw [e]
theorem vF {wss:List (List Int)} {n m:Int} {ns:List Int} {bs:List Tri} {S:Sto} (gs:cN n m wss) (hn:n≤4) (hm:m≤4) (gn:bX wss.length ns) (gb:bo bs):∃ x,dQ [.d (au wss),.d (a8 ns bs)] S=.ok (.d x) S∧fQ [.d (au wss),.d (a8 ns bs),.d (.lst ((fC wss ns bs).map ak)),.d x] S=.ok (.d (.bl true)) S:=by
 have h4:=gs.le
 have hnl:=gn.le
 have hbl:=gb.le
 rcases AI (S:=S) gs hn hm gn gb with ⟨M,hM,e⟩ | ⟨nm,ps,hR,e⟩
 ·refine ⟨_,e,?_⟩
  have hg:=uQ gs gn gb hM
  unfold fQ
  rw [nJ]
  unfold j3
  walk_at "mx"
  rw [show isT "tuple" (.tup [.str "can",ak (eS wss M)])=true from rfl]
  walk_at "mx"
  rw [show decide (((2:Nat):Int)=2)=true from rfl]
  walk_at "mx"
  rw [h9 (by rw [D.depth];have:=f_ (fC wss ns bs);omega),ft,dn,show (fC wss ns bs).isEmpty=false from by
   cases q:fC wss ns bs with
   | nil=>rw [q] at hg;cases hg
   | cons a l=>rfl]
  walk_at "mx"
  rw [zv]
  walk_at "mx"
  rw [eq_str,show decide ((Str.ofString "can":Str)=Str.ofString "can")=true from decide_eq_true rfl]
  walk_at "mx"
  rw [l4]
  walk_at "mx"
  rw [show isT "tuple" (ak (eS wss M))=true from rfl]
  walk_at "mx"
  rw [l4]
  walk_at "mx"
  rw [xU hg]
  walk_at "mx"
  rw [aJ]
 ·refine ⟨_,e,?_⟩
  have hpl:ps.length≤60:=by
   obtain ⟨_,q2,q3⟩:=j4 hR
   have hnd:ps.Nodup:=q2.imp fun z=>by omega
   cases nm with
   | true=>have:=cL hnd q3.1;omega
   | false=>
    have:=cL hnd q3.1
    unfold aS at this
    rw [List.length_map] at this
    omega
  have epr:bZ [.d (au wss),.d (a8 ns bs),.d (cD nm ps)] S=.ok (.d (.bl (bR wss ns bs nm ps))) S:=by
   cases nm with
   | true=>exact yt gs hm gn gb hpl
   | false=>exact xk gn gb hpl
  unfold fQ
  rw [nJ]
  unfold j3
  walk_at "mx"
  rw [show isT "tuple" (.tup [.str "no",cD nm ps])=true from rfl]
  walk_at "mx"
  rw [show decide (((2:Nat):Int)=2)=true from rfl]
  walk_at "mx"
  rw [h9 (by rw [D.depth];have:=f_ (fC wss ns bs);omega),ft,dn,show (fC wss ns bs).isEmpty=true from by
   cases q:fC wss ns bs with
   | nil=>rfl
   | cons a l=>exact (wm hR (uf gn gb (f:=a) (by rw [q];simp))).elim]
  walk_at "mx"
  rw [zv]
  walk_at "mx"
  rw [eq_str,show decide ((Str.ofString "no":Str)=Str.ofString "no")=true from decide_eq_true rfl]
  walk_at "mx"
  rw [l4]
  walk_at "mx"
  rw [show isT "tuple" (cD nm ps)=true from rfl]
  walk_at "mx"
  rw [l4]
  walk_at "mx"
  rw [show bA [.d (cD nm ps)] S=.ok (.d (.int 2)) S from rfl]
  walk_at "mx"
  rw [l4]
  walk_at "mx"
  rw [qM]
  walk_at "mx"
  rw [FT]
  walk_at "mx"
  rw [l4]
  walk_at "mx"
  rw [epr,hR]
  walk_at "mx"
  rw [aJ]
abbrev Ma:=List Int×List Tri
def maD (w:Ma):D:=a8 w.1 w.2
theorem DQ {S:Sto} {wss:List (List Int)} {ws:List Ma} {x0 x1 x2 x5 x6:Option Vl} (gs:cN 4 4 wss) (hw:∀ w∈ws,bX wss.length w.1∧bo w.2) (hl:ws.length≤50) :
  ∃ y5 y6,qw [x0,x1,x2,some (.d (au wss)),some (.d (.lst (ws.map maD))),x5,x6] S=.ok (.nx,[x0,x1,x2,some (.d (au wss)),some (.d (.lst (ws.map maD))),y5,y6]) S:=by
 obtain ⟨τ',S',e,y5,y6,rfl,rfl⟩:=d5 (show _=qw [x0,x1,x2,some (.d (au wss)),some (.d (.lst (ws.map maD))),x5,x6] S from rfl) (S1:=S) (items:=(ws++ws.reverse).map fun w=>Vl.d (maD w)) (gd:=none) (by
   walk_at "mx"
   rw [show p8 (.d (.lst (ws.map maD))) (.d (.int (-1))) S=.ok (.d (.lst (ws.map maD).reverse)) S from rfl]
   walk_at "mx"
   rw [rp (by simp;omega)]
   walk_at "mx"
   rw [← List.map_reverse,← List.map_append,List.map_map]
   rfl)
  (fun i τ S'=>∃ y5 y6,τ=[x0,x1,x2,some (.d (au wss)),some (.d (.lst (ws.map maD))),y5,y6]∧S'=S) ⟨x5,x6,rfl,rfl⟩ (by
   rintro i z τ S' hz ⟨y5,y6,rfl,rfl⟩
   rw [List.getElem?_map] at hz
   cases hp:(ws++ws.reverse)[i]? with
   | none=>rw [hp] at hz;cases hz
   | some wi=>
    rw [hp] at hz
    cases hz
    obtain ⟨gn,gb⟩:=hw wi (by
     rcases List.mem_append.mp (List.mem_of_getElem? hp) with q | q
     ·exact q
     ·exact List.mem_reverse.mp q)
    obtain ⟨ns,bs⟩:=wi
    obtain ⟨x,e1,e2⟩:=vF (S:=S') gs (by decide) (by decide) gn gb
    refine ⟨[x0,x1,x2,some (.d (au wss)),some (.d (.lst (ws.map maD))),some (.d (a8 ns bs)),y6],S',.nx,_,S',by unfold maD;walk_at "mx",by
     walk_at "mx"
     rw [xB gs (by decide) (by decide) gn]
     walk_at "mx"
     rw [e1]
     walk_at "mx"
     rw [e2]
     walk_at "mx"
     rfl,.inl rfl,True.intro,_,_,rfl,rfl⟩)
 exact ⟨_,_,e⟩
theorem yI {o:Ob} {R:Sto} {wss:List (List Int)} {x0 x1 x4 x5 x6:Option Vl} (hp:Pen o) (gs:cN 4 4 wss):∃ (ws:List Ma) (o':Ob),Pen o'∧(∀ w∈ws,bX wss.length w.1∧bo w.2)∧ws.length=3∧rB [x0,some (.r 0),x1,some (.d (au wss)),x4,x5,x6] (o :: R)=.ok (.d (.lst (ws.map maD))) (o' :: R):=by
 obtain ⟨acc,Q,e4,hl,o3,ws,hp3,rfl,rfl,hg,hle⟩:=qI (show _=rB [x0,some (.r 0),x1,some (.d (au wss)),x4,x5,x6] (o :: R) from rfl) (S1:=o :: R) (items:=(List.range 3).map fun i=>Vl.d (.int (i:Nat))) (by walk_at "mm";rfl)
  (fun i acc Q=>∃ (o':Ob) (ws:List Ma),Pen o'∧acc=ws.map maD∧Q=o' :: R∧(∀ w∈ws,bX wss.length w.1∧bo w.2)∧ws.length=i) ⟨o,[],hp,rfl,rfl,by simp,rfl⟩ (by
   rintro i z acc Q hz ⟨o',ws,hp',rfl,rfl,hg,hle⟩ _
   obtain ⟨ns,bs,o1,gn,gb,hp1,e1⟩:=uW (R:=R++[.lst (ws.map maD)]) hp' gs (by decide) (by decide)
   refine ⟨maD (ns,bs),o1 :: R,?_,rfl,o1,ws++[(ns,bs)],hp1,by simp,rfl,fun w hw=>?_,by simp [hle]⟩
   ·walk_at "mx"
    rw [e1]
    walk_at "mx"
    rfl
   ·rcases List.mem_append.mp hw with q | q
    ·exact hg w q
    ·rw [List.mem_singleton.mp q];exact ⟨gn,gb⟩)
 rw [jl] at hle
 exact ⟨ws,o3,hp3,hg,hle,e4⟩
theorem zm (ns:List Int):uc [.sc ns] []=.ok (.d (.bl true)) []:=by
 unfold uc
 rw [bO]
 unfold wH
 obtain ⟨o,hp,e0⟩:=Bq ns
 walk_at "mx"
 rw [e0]
 walk_at "mx"
 obtain ⟨τ',S',e,o',x2,x3,x4,x5,x6,hp',rfl,rfl⟩:=d5 (show _=vJ [some (.sc ns),some (.r 0),none,none,none,none,none] [o] from rfl) (S1:=[o]) (items:=(List.range 3).map fun i=>Vl.d (.int (i:Nat))) (gd:=none) (by walk_at "mm";rfl)
  (fun i τ S'=>∃ (o':Ob) (x2 x3 x4 x5 x6:Option Vl),Pen o'∧τ=[some (.sc ns),some (.r 0),x2,x3,x4,x5,x6]∧S'=[o']) ⟨o,none,none,none,none,none,hp,rfl,rfl⟩ (by
   rintro i z τ S' hz ⟨o',x2,x3,x4,x5,x6,hp',rfl,rfl⟩
   obtain ⟨hi,rfl⟩:=lM hz
   obtain ⟨o1,hp1,e1⟩:=Ad (R:=[]) hp'
   obtain ⟨wss,o2,gs,hp2,e2⟩:=y0 (R:=[]) (names:=4) (most:=4) hp1 (by decide) (by decide) (by decide) (by decide)
   obtain ⟨ws,o3,hp3,hw,hl,e3⟩:=yI (R:=[]) (x0:=some (.sc ns)) (x1:=some (.d (.int (i:Nat)))) (x4:=x4) (x5:=x5) (x6:=x6) hp2 gs
   obtain ⟨y5,y6,e5⟩:=DQ (S:=[o3]) (x0:=some (.sc ns)) (x1:=some (.r 0)) (x2:=some (.d (.int (i:Nat)))) (x5:=x5) (x6:=x6) gs hw (by omega)
   exact ⟨_,_,.nx,_,_,by walk_at "mx";rfl,by
    walk_at "mx"
    rw [e1]
    walk_at "mx"
    rw [e2]
    walk_at "mx"
    rw [e3]
    walk_at "mx"
    rw [e5],.inl rfl,True.intro,o3,_,_,_,y5,y6,hp3,rfl,rfl⟩)
 rw [e]
 walk_at "mx"
 rw [bE]
 rfl
def top (i:Nat):Stmt:=PySem.Challenge.pw_wishstrike_k15_many_can_or_paper.main.body.getD i (.Pass ⟨0,0,0,0⟩)
structure Txt (K:PySem.W.Frag) (mg:Str→Option Value):Prop where
 is_whole:Df K mg "is_whole" (top 1)
 is_within:Df K mg "is_within" (top 2)
 are_within:Df K mg "are_within" (top 3)
 are_rising:Df K mg "are_rising" (top 4)
 are_unlike:Df K mg "are_unlike" (top 5)
 is_span:Df K mg "is_span" (top 6)
 are_names:Df K mg "are_names" (top 7)
 is_bound:Df K mg "is_bound" (top 8)
 are_bounds:Df K mg "are_bounds" (top 9)
 is_many:Df K mg "is_many" (top 12)
 is_of_its_kind:Df K mg "is_of_its_kind" (top 16)
 seated_at:Df K mg "seated_at" (top 18)
 has_room:Df K mg "has_room" (top 19)
 make_room:Df K mg "make_room" (top 20)
 find_seat:Df K mg "find_seat" (top 21)
 seat_all:Df K mg "seat_all" (top 22)
 are_worths:Df K mg "are_worths" (top 28)
 is_stand:Df K mg "is_stand" (top 29)
 is_wish:Df K mg "is_wish" (top 30)
 filling_with:Df K mg "filling_with" (top 31)
 is_wish_of:Df K mg "is_wish_of" (top 32)
 need_stand:Df K mg "need_stand" (top 33)
 need_wish:Df K mg "need_wish" (top 34)
 need:Df K mg "need" (top 35)
 need_kind:Df K mg "need_kind" (top 36)
 lows_of:Df K mg "lows_of" (top 38)
 highs_of:Df K mg "highs_of" (top 39)
 can_spare:Df K mg "can_spare" (top 40)
 bring_one:Df K mg "bring_one" (top 41)
 fill_up:Df K mg "fill_up" (top 42)
 many_can:Df K mg "many_can" (top 43)
 l_spread:Df K mg "_law_spread" (top 45)
 l_open:Df K mg "_law_open" (top 46)
 l_anew:Df K mg "_law_anew" (top 47)
 l_take:Df K mg "_law_take" (top 48)
 l_is_whole:Df K mg "_law_is_whole" (top 49)
 l_same:Df K mg "_law_same" (top 50)
 l_worths:Df K mg "_law_worths" (top 51)
 l_stand:Df K mg "_law_stand" (top 52)
 l_some_names:Df K mg "_law_some_names" (top 53)
 l_near_worth:Df K mg "_law_near_worth" (top 54)
 l_bounds:Df K mg "_law_bounds" (top 55)
 l_wish_of:Df K mg "_law_wish_of" (top 57)
 l_fulfils:Df K mg "_law_fulfils" (top 59)
 l_fillings:Df K mg "_law_fillings" (top 60)
 l_good:Df K mg "_law_good" (top 61)
 l_numbers_of:Df K mg "_law_numbers_of" (top 62)
 l_paper_right:Df K mg "_law_paper_right" (top 63)
 l_right:Df K mg "_law_right" (top 64)
 law:Df K mg "law" (top 65)
 z_all:mg "all"=none
 z_bool:mg "bool"=none
 z_dict:mg "dict"=none
 z_enumerate:mg "enumerate"=none
 z_int:mg "int"=none
 z_isinstance:mg "isinstance"=none
 bg:mg "len"=none
 z_list:mg "list"=none
 z_max:mg "max"=none
 z_min:mg "min"=none
 z_range:mg "range"=none
 z_set:mg "set"=none
 z_sorted:mg "sorted"=none
 z_str:mg "str"=none
 z_sum:mg "sum"=none
 z_tuple:mg "tuple"=none
 z_zip:mg "zip"=none
theorem kS:bootBuiltins "all"=some (.builtin "all"):=by decide +kernel
theorem gK:bootBuiltins "bool"=some (.type "bool"):=by decide +kernel
theorem oo:bootBuiltins "dict"=some (.type "dict"):=by decide +kernel
theorem lb:bootBuiltins "int"=some (.type "int"):=by decide +kernel
theorem bp:bootBuiltins "len"=some (.builtin "len"):=by decide +kernel
theorem lQ:bootBuiltins "list"=some (.type "list"):=by decide +kernel
theorem B5:bootBuiltins "max"=some (.builtin "max"):=by decide +kernel
theorem va:bootBuiltins "min"=some (.builtin "min"):=by decide +kernel
theorem wX:bootBuiltins "set"=some (.type "set"):=by decide +kernel
theorem fR:bootBuiltins "sorted"=some (.builtin "sorted"):=by decide +kernel
theorem wF:bootBuiltins "str"=some (.type "str"):=by decide +kernel
theorem wa:bootBuiltins "sum"=some (.builtin "sum"):=by decide +kernel
theorem bL:bootBuiltins "tuple"=some (.type "tuple"):=by decide +kernel
section
variable {P:Program} {w:World} {K:PySem.W.Frag} {mg:Str→Option Value}
theorem vZ (T:Txt K mg):OkE P w K mg 1 "_law_open" ["script"] jR:=by
 refine aX ["script","cells","k","cell"] T.l_open fun _ _ _ _ _ _ _ _ hr q=>?_
 exact (ao (aG q (bM mW uH T.z_list lQ (ae (v7 (rv 0) AS (og ai)) ah)))
 (ao (ck (xF rfl T.z_enumerate (v7 (rv 0) (og ai) (og ai))) (la (cc (aA q) (cc (aA q) ji))) (aq (lD (aP bt br (aC (rv 1) (aP dZ (b9 _) (rv 2) ai)) (rv 3)) (lG (rv 1) (aP dZ (b9 _) (rv 2) ai) ng i_))))
 (aq (ax (gH (ae (mT (rv 1)) (ae ai (ae ai ah))))))))
theorem si (T:Txt K mg):OkE P w K mg 1 "_law_spread" ["cell","at"] e9:=by
 refine aX ["cell","at","one","two","three"] T.l_spread fun _ _ _ _ _ _ _ _ hr q=>?_
 exact (ao (aT (aK Er (bu _) (rv 0) (aP wI (b9 _) ai ai)) (aq (ax (rv 0))) aF)
 (ao (aG q (aP dZ (b9 _) (aP bt br (aP bt br (aP eW (b9 _) (aP dZ (b9 _) (rv 0) ai) ai) (aP eW (b9 _) (rv 1) ai)) ai) ai))
 (ao (aG q (aP dZ (b9 _) (aP bt br (aP bt br (aP eW (b9 _) (rv 2) (rv 2)) (aP eW (b9 _) (rv 1) ai)) (aP dZ (b9 _) (rv 0) ai)) ai))
 (ao (aG q (aP dZ (b9 _) (aP bt br (aP bt br (aP eW (b9 _) (rv 3) (rv 3)) (aP eW (b9 _) (rv 2) ai)) ai) ai))
 (aq (ax (aP bt br (aP eW (b9 _) (aP bt br (aP eW (b9 _) (rv 2) ai) (rv 3)) ai) (rv 4))))))))
theorem bc (T:Txt K mg):OkE P w K mg 2 "_law_take" ["pen","many"] a_:=by
 refine aX ["pen","many","at","cell","found"] T.l_take fun _ _ _ _ _ _ _ _ hr q=>?_
 exact (ao (aT (aK gf (bu _) (aC (rv 0) ai) (rv 1)) (ao (aG q (aC (rv 0) ai))
 (ao (aG q ai)
 (ao (aT (aK gf (bu _) (rv 2) (aD aU aY T.bg bp (ae (aC (rv 0) ai) ah))) (aq (aG q (aC (aC (rv 0) ai) (rv 2)))) (aq (aT (aK lX (bu _) (aD aU aY T.bg bp (ae (aC (rv 0) ai) ah)) ai) (aq (aG q (aP dZ (b9 _) (aC (aC (rv 0) ai) (aP dZ (b9 _) (aP bt br (aP eW (b9 _) (rv 2) ai) ai) (aD aU aY T.bg bp (ae (aC (rv 0) ai) ah)))) (aP bt br (aP wI (b9 _) ai ai) (rv 2))))) aF)))
 (ao (lD (aP bt br (rv 2) ai) (lG (rv 0) ai ng i_))
 (aq (lD (av (si T) hr (ae (rv 3) (ae (rv 2) ah))) (lG (rv 0) ai ng i_))))))) aF)
 (ao (aG q (aP dZ (b9 _) (aC (rv 0) ai) (rv 1)))
 (ao (lD (aP Bw (b9 _) (aC (rv 0) ai) (rv 1)) (lG (rv 0) ai ng i_))
 (aq (ax (rv 4))))))
theorem sP (T:Txt K mg):OkE P w K mg 3 "_law_worths" ["pen","most","near"] gj:=by
 refine aX ["pen","most","near","found","k","worth"] T.l_worths fun _ _ _ _ _ _ _ _ hr q=>?_
 have hu:=hr.units
 exact (ao (aG q (gH ah))
 (ao (ck (eF rfl T.z_range (ae (aP bt br ai (av (bc T) hr (ae (rv 0) (ae (rv 1) ah)))) ah)) (aA q) (ao (aG q (aP bt br (rv 2) (av (bc T) hr (ae (rv 0) (ae ai ah)))))
 (ao (aT (aK (cm hu) cj (av (bc T) hr (ae (rv 0) (ae ai ah))) ai) (aq (aG q (aP mY (nk _) (av (bc T) hr (ae (rv 0) (ae ai ah))) ai))) aF)
 (aq (aT (aK (jk hu) jj (rv 5) (rv 3)) (aq (dN (rW (rv 3) (rv 5)))) aF)))))
 (aq (ax (bM cV dc T.z_tuple bL (ae (aD jF lE T.z_sorted fR (ae (rv 3) ah)) ah))))))
theorem u1 (T:Txt K mg):OkE P w K mg 4 "_law_stand" ["pen","names","most"] iO:=by
 refine aX ["pen","names","most","near"] T.l_stand fun _ _ _ _ _ _ _ _ hr q=>?_
 refine' (ao (aG q (aP mY (nk _) (av (bc T) hr (ae (rv 0) (ae ai ah))) ai))
 (aq (ax (bM cV dc T.z_tuple bL (ae (bS bq ["name","pen","names","most","near"] q (eF rfl T.z_range (ae (aP bt br ai (av (bc T) hr (ae (rv 0) (ae (rv 1) ah)))) ah)) ?g0 rt0 ?e0) ah)))))
 (case g0=>intro _ _ _ _ q;exact (aA q))
 (case e0=>intro _ _ _ _;exact (av (sP T) hr (ae (rv 1) (ae (rv 3) (ae (rv 4) ah)))))
theorem vd (T:Txt K mg):OkE P w K mg 1 "_law_anew" ["pen"] jU:=by
 refine aX ["pen"] T.l_anew fun _ _ _ _ _ _ _ _ hr q=>?_
 exact (ao (lD ai (lG (rv 0) ai ng i_))
 (aq (ax (rv 0))))
theorem m7 (T:Txt K mg):OkE P w K mg 3 "_law_some_names" ["pen","stand"] dJ:=by
 refine aX ["pen","stand","left","many"] T.l_some_names fun _ _ _ _ _ _ _ _ hr q=>?_
 refine' (ao (aG q (pG rfl rfl T.z_list rfl T.z_range lQ (ae (aD aU aY T.bg bp (ae (rv 1) ah)) ah)))
 (ao (aG q (aP bt br ai (av (bc T) hr (ae (rv 0) (ae (aD aU aY T.bg bp (ae (rv 2) ah)) ah)))))
 (ao (aT (aK lX (bu _) (av (bc T) hr (ae (rv 0) (ae ai ah))) ai) (aq (aG q (aD aU aY T.bg bp (ae (rv 2) ah)))) aF)
 (aq (ax (bM cV dc T.z_tuple bL (ae (bS bq ["k","pen","stand","left","many"] q (eF rfl T.z_range (ae (rv 3) ah)) ?g0 rt0 ?e0) ah)))))))
 (case g0=>intro _ _ _ _ q;exact (aA q))
 (case e0=>intro _ _ _ _;exact (uN PySem.F.slot_list_pop PySem.F.type_list_pop yL yq (rv 3) (av (bc T) hr (ae (rv 1) (ae (aD aU aY T.bg bp (ae (rv 3) ah)) ah)))))
theorem nF (T:Txt K mg):OkE P w K mg 3 "_law_near_worth" ["pen","stand"] dM:=by
 refine aX ["pen","stand","worths","worth"] T.l_near_worth fun _ _ _ _ _ _ _ _ hr q=>?_
 have hu:=hr.units
 exact (ao (aT (aK (cm hu) cj (av (bc T) hr (ae (rv 0) (ae ai ah))) ai) (aq (ax (aP mY (nk _) (av (bc T) hr (ae (rv 0) (ae ai ah))) ai))) aF)
 (ao (aG q (aC (rv 1) (av (bc T) hr (ae (rv 0) (ae (aD aU aY T.bg bp (ae (rv 1) ah)) ah)))))
 (ao (aG q (aP bt br (aC (rv 2) (av (bc T) hr (ae (rv 0) (ae (aD aU aY T.bg bp (ae (rv 2) ah)) ah)))) (aC (di (ae ai (ae ai (ae ai (ae ai (ae (nH kE jb ai) ah)))))) (av (bc T) hr (ae (rv 0) (ae ai ah))))))
 (aq (ax (aD (wQ rfl) xX T.z_max B5 (ae (nH kE jb ai) (ae (aD (o8 rfl) q0 T.z_min va (ae ai (ae (rv 3) ah))) ah))))))))
theorem sk (T:Txt K mg):OkE P w K mg 4 "_law_bounds" ["pen","stand"] gx:=by
 refine aX ["pen","stand","worths","k","worth","found","low"] T.l_bounds fun _ _ _ _ _ _ _ _ hr q=>?_
 have hu:=hr.units
 exact (ao (aG q (gH ah))
 (ao (ck (eF rfl T.z_range (ae (av (bc T) hr (ae (rv 0) (ae ai ah))) ah)) (aA q) (ao (aG q (av (nF T) hr (ae (rv 0) (ae (rv 1) ah))))
 (aq (aT (aK (jk hu) jj (rv 4) (rv 2)) (aq (dN (rW (rv 2) (rv 4)))) aF))))
 (ao (aG q (gH ah))
 (ao (ck (a6 (aD jF lE T.z_sorted fR (ae (rv 2) ah))) (aA q) (ao (aG q (aC (di (ae ai (ae ai (ae ai (ae ai (ae ai (ae (av (bc T) hr (ae (rv 0) (ae ai ah))) ah))))))) (av (bc T) hr (ae (rv 0) (ae ai ah)))))
 (aq (dN (rW (rv 5) (cz (ae (rv 4) (ae (rv 6) (ae (aD (o8 rfl) q0 T.z_min va (ae ai (ae (aP bt br (rv 6) (aC (di (ae ai (ae ai (ae ai (ae ai (ae (av (bc T) hr (ae (rv 0) (ae ai ah))) ah)))))) (av (bc T) hr (ae (rv 0) (ae ai ah))))) ah))) ah)))))))))
 (aq (ax (bM cV dc T.z_tuple bL (ae (rv 5) ah))))))))
theorem qu (T:Txt K mg):OkE P w K mg 5 "_law_wish_of" ["pen","stand","kind"] fD:=by
 refine aX ["pen","stand","kind","names","weights","total","name","weight","low","high","ends"] T.l_wish_of fun _ _ _ _ _ _ _ _ hr q=>?_
 have hu:=hr.units
 exact (ao (aG q (av (m7 T) hr (ae (rv 0) (ae (rv 1) ah))))
 (ao (aT (aK (cm hu) cj (rv 2) ai) cX aF)
 (ao (aT (aK (cm hu) cj (rv 2) ai) (aq (ax (cz (ae cB (ae (rv 3) (ae (av (sk T) hr (ae (rv 0) (ae (rv 1) ah))) ah)))))) aF)
 cX)))
theorem pK (T:Txt K mg):OkE P w K mg 1 "_law_fillings" ["stand"] eP:=by
 refine aX ["stand","found","worths","longer","filling"] T.l_fillings fun _ _ _ _ _ _ _ _ hr q=>?_
 refine' (ao (aG q (di (ae (cz ah) ah)))
 (ao (ck (a6 (rv 0)) (aA q) (ao (aG q (gH ah))
 (ao (ck (a6 (rv 1)) (aA q) (aq (dN (uN PySem.F.slot_list_extend PySem.F.type_list_extend sT oz (rv 3) (bS bq ["worth","stand","found","worths","longer","filling"] q (a6 (rv 2)) ?g0 rt0 ?e0)))))
 (aq (aG q (mT (rv 3)))))))
 (aq (ax (rv 1)))))
 (case g0=>intro _ _ _ _ q;exact (aA q))
 (case e0=>intro _ _ _ _;exact (aP bt br (rv 5) (cz (ae (rv 0) ah))))
theorem rJ (T:Txt K mg):OkE P w K mg 1 "_law_fulfils" ["wish","filling"] fF:=by
 refine aX ["wish","filling","worths","worth","low","high","total","weight","k","at","space"] T.l_fulfils fun _ _ _ _ _ _ _ _ hr q=>?_
 have hu:=hr.units
 refine' (ao (aG q (bS bq ["name","wish","filling","worths","worth","low","high","total","weight","k","at","space"] q (a6 (aC (rv 0) ai)) ?g0 rt0 ?e0))
 (ao (aT (aK (cm hu) cj (aC (rv 0) ai) cB) cX aF)
 (ao (aT (aK (cm hu) cj (aC (rv 0) ai) cB) (ao (ck (a6 (aC (rv 0) ai)) (la (cc (aA q) (cc (aA q) (cc (aA q) ji)))) (aq (aT (RW.rt (dv (aK gf (bu _) (zq PySem.F.slot_list_count PySem.F.type_list_count oE rA (rv 2) (rv 3)) (rv 4)) (dj (aK lX (bu _) (zq PySem.F.slot_list_count PySem.F.type_list_count oE rA (rv 2) (rv 3)) (rv 5))))) (aq (ax bY)) aF)))
 (aq (ax bY))) aF)
 cX)))
 (case g0=>intro _ _ _ _ q;exact (aA q))
 (case e0=>intro _ _ _ _;exact (aC (rv 2) (rv 0)))
theorem xw (T:Txt K mg):OkE P w K mg 2 "_law_good" ["stand","wishes"] jP:=by
 refine aX ["stand","wishes","found","wish"] T.l_good fun _ _ _ _ _ _ _ _ hr q=>?_
 refine' (ao (aG q (av (pK T) hr (ae (rv 0) ah)))
 (ao (ck (a6 (rv 1)) (aA q) (aq (zZ bq ["filling","stand","wishes","found","wish"] q (a6 (rv 2)) ?g0 ?t0 ?e0)))
 (aq (ax (rv 2)))))
 (case g0=>intro _ _ _ _ q;exact (aA q))
 (case t0=>intro _ _ _ _;exact (dF (bh (av (rJ T) hr (ae (rv 4) (ae (rv 0) ah))))))
 (case e0=>intro _ _ _ _;exact (rv 0))
theorem oG (T:Txt K mg):OkE P w K mg 1 "_law_same" ["found","due"] gY:=by
 refine aX ["found","due"] T.l_same fun _ _ _ _ _ _ _ _ hr q=>?_
 have hu:=hr.units
 exact (ao (aT (aK wN vm (rv 1) xp) (aq (ax (b_ wN vm (rv 0) xp))) aF)
 (ao (aT (RW.rt (dv (bh (a5 T.z_isinstance T.z_bool gK (rv 1))) (dj (bh (a5 T.z_isinstance T.z_bool gK (rv 0)))))) (aq (ax (bK (a5 T.z_isinstance T.z_bool gK (rv 1)) (bK (a5 T.z_isinstance T.z_bool gK (rv 0)) (cb (b_ (cm hu) cj (rv 0) (rv 1))))))) aF)
 (ao (aT (bh (a5 T.z_isinstance T.z_int lb (rv 1))) (aq (ax (bK (a5 T.z_isinstance T.z_int lb (rv 0)) (cb (b_ (cm hu) cj (rv 0) (rv 1)))))) aF)
 (ao (aT (bh (a5 T.z_isinstance T.z_str wF (rv 1))) (aq (ax (bK (a5 T.z_isinstance T.z_str wF (rv 0)) (cb (b_ (cm hu) cj (rv 0) (rv 1)))))) aF)
 cX))))
theorem pB (T:Txt K mg):OkE P w K mg 1 "_law_is_whole" ["thing"] eJ:=by
 refine aX ["thing"] T.l_is_whole fun _ _ _ _ _ _ _ _ hr q=>?_
 exact (aq (ax (bK (a5 T.z_isinstance T.z_int lb (rv 0)) (cb (xt (a5 T.z_isinstance T.z_bool gK (rv 0)))))))
theorem nN (T:Txt K mg):OkE P w K mg 2 "_law_numbers_of" ["thing"] dP:=by
 refine aX ["thing"] T.l_numbers_of fun _ _ _ _ _ _ _ _ hr q=>?_
 have hu:=hr.units
 refine' (ao (aT (RW.rt (dv (cy (bh (a5 T.z_isinstance T.z_tuple bL (rv 0)))) (dv (aK (cm hu) cj (rv 0) (cz ah)) (dj (aK (d4 hu) d9 (bS bq ["one","thing"] q (a6 (rv 0)) ?g0 ?t0 ?e0) (di ah)))))) (aq (ax bY)) aF)
 (aq (ax (b_ (cm hu) cj (bM mW vA T.z_list lQ (ae (rv 0) ah)) (Ez rfl rfl T.z_sorted rfl T.z_set fR wX (rv 0))))))
 (case g0=>intro _ _ _ _ q;exact (aA q))
 (case t0=>intro _ _ _ _;exact (dF (cy (bh (av (pB T) hr (ae (rv 0) ah))))))
 (case e0=>intro _ _ _ _;exact ai)
theorem mN (T:Txt K mg):OkE P w K mg 3 "_law_paper_right" ["stand","wish","paper"] bZ:=by
 refine aX ["stand","wish","paper","bounds","worths","name","many"] T.l_paper_right fun _ _ _ _ _ _ _ _ hr q=>?_
 have hu:=hr.units
 refine' (ao (aT (cy (bh (av (nN T) hr (ae (aC (rv 2) ai) ah)))) (aq (ax bY)) aF)
 (ao (aG q (mT (bM (jL rfl) jX T.z_dict oo (ae (bS bq ["one","stand","wish","paper","bounds","worths","name","many"] q (a6 (aC (rv 1) ai)) ?g0 rt0 ?e0) ah))))
 (ao (aT (aK (cm hu) cj (aC (rv 2) ai) cB) (ao (aT (aK (d4 hu) d9 (bS bq ["name","stand","wish","paper","bounds","worths","~5","many"] q (a6 (aC (rv 2) ai)) ?g1 ?t1 ?e1) (di ah)) (aq (ax bY)) aF)
 (ao (aG q (gH ah))
 (ao (ck (a6 (aC (rv 2) ai)) (aA q) (aq (dN (uN PySem.F.slot_list_extend PySem.F.type_list_extend sT oz (rv 4) (bS bq ["worth","stand","wish","paper","bounds","worths","name","many"] q (a6 (aC (rv 0) (rv 5))) ?g2 ?t2 ?e2)))))
 (ao (aT (aK (d4 hu) d9 (bS bq ["worth","stand","wish","paper","bounds","worths","name","many"] q (a6 (rv 4)) ?g3 ?t3 ?e3) (di ah)) (aq (ax bY)) aF)
 (aq (ax (b_ gf (bu _) (aD (oP rfl) rT T.z_sum wa (ae (bS bq ["worth","stand","wish","paper","bounds","worths","name","many"] q (a6 (rv 4)) ?g4 rt0 ?e4) ah)) (aD aU aY T.bg bp (ae (aC (rv 2) ai) ah))))))))) aF)
 (ao (aT (aK (d4 hu) d9 (bS bq ["worth","stand","wish","paper","bounds","worths","name","many"] q (a6 (aC (rv 2) ai)) ?g5 ?t5 ?e5) (di ah)) (aq (ax bY)) aF)
 (ao (aG q ai)
 (ao (ck (a6 (aC (rv 1) ai)) (aA q) (aq (aG q (aP bt br (rv 6) (bM vc xV T.z_int lb (ae (b_ (d4 hu) d9 (bS bq ["worth","stand","wish","paper","bounds","worths","name","many"] q (a6 (aC (rv 0) (rv 5))) ?g6 ?t6 ?e6) (di ah)) ah))))))
 (aq (ax (b_ lX (bu _) (aD (oP rfl) rT T.z_sum wa (ae (bS bq ["worth","stand","wish","paper","bounds","worths","name","many"] q (a6 (aC (rv 2) ai)) ?g7 rt0 ?e7) ah)) (rv 6))))))))))
 (case g0=>intro _ _ _ _ q;exact (aA q))
 (case e0=>intro _ _ _ _;exact (cz (ae (aC (rv 0) ai) (ae (rv 0) ah))))
 (case g1=>intro _ _ _ _ q;exact (aA q))
 (case t1=>intro _ _ _ _;exact (dF (aK (jk hu) jj (rv 0) (aC (rv 2) ai))))
 (case e1=>intro _ _ _ _;exact ai)
 (case g2=>intro _ _ _ _ q;exact (aA q))
 (case t2=>intro _ _ _ _;exact (dF (aK (jk hu) jj (rv 0) (rv 5))))
 (case e2=>intro _ _ _ _;exact (rv 0))
 (case g3=>intro _ _ _ _ q;exact (aA q))
 (case t3=>intro _ _ _ _;exact (dF (aK (ox hu) mD (rv 0) (rv 4))))
 (case e3=>intro _ _ _ _;exact ai)
 (case g4=>intro _ _ _ _ q;exact (aA q))
 (case e4=>intro _ _ _ _;exact (aC (jH hu (rv 4) (rv 0)) ai))
 (case g5=>intro _ _ _ _ q;exact (aA q))
 (case t5=>intro _ _ _ _;exact (dF (aK (ox hu) mD (rv 0) (rv 4))))
 (case e5=>intro _ _ _ _;exact ai)
 (case g6=>intro _ _ _ _ q;exact (aA q))
 (case t6=>intro _ _ _ _;exact (dF (aK (qy hu) p_ (rv 0) (aC (rv 3) ai))))
 (case e6=>intro _ _ _ _;exact (rv 0))
 (case g7=>intro _ _ _ _ q;exact (aA q))
 (case e7=>intro _ _ _ _;exact (aC (jH hu (rv 4) (rv 0)) ai))
theorem u_ (T:Txt K mg):OkE P w K mg 4 "_law_right" ["stand","wish","good","found"] fQ:=by
 refine aX ["stand","wish","good","found"] T.l_right fun _ _ _ _ _ _ _ _ hr q=>?_
 have hu:=hr.units
 exact (ao (aT (RW.rt (dv (cy (bh (a5 T.z_isinstance T.z_tuple bL (rv 3)))) (dj (aK (d4 hu) d9 (aD aU aY T.bg bp (ae (rv 3) ah)) ai)))) (aq (ax bY)) aF)
 (ao (aT (aK (d4 hu) d9 (rv 2) (di ah)) (aq (ax (bK (av (oG T) hr (ae (aC (rv 3) ai) (ae cB ah))) (bK (a5 T.z_isinstance T.z_tuple bL (aC (rv 3) ai)) (cb (b_ (qy hu) p_ (aC (rv 3) ai) (rv 2))))))) aF)
 (ao (aT (RW.rt (dv (cy (bh (av (oG T) hr (ae (aC (rv 3) ai) (ae cB ah))))) (dv (cy (bh (a5 T.z_isinstance T.z_tuple bL (aC (rv 3) ai)))) (dj (aK (d4 hu) d9 (aD aU aY T.bg bp (ae (aC (rv 3) ai) ah)) ai))))) (aq (ax bY)) aF)
 (aq (ax (bK (b_ (qy hu) p_ (aC (aC (rv 3) ai) ai) (cz (ae cB (ae cB ah)))) (cb (av (mN T) hr (ae (rv 0) (ae (rv 1) (ae (aC (rv 3) ai) ah)))))))))))
theorem sG (T:Txt K mg):OkE P w K mg 1 "is_whole" ["thing"] gB:=by
 refine aX ["thing"] T.is_whole fun _ _ _ _ _ _ _ _ hr q=>?_
 exact (aq (ax (bK (a5 T.z_isinstance T.z_int lb (rv 0)) (cb (xt (a5 T.z_isinstance T.z_bool gK (rv 0)))))))
theorem eL (T:Txt K mg):OkE P w K mg 2 "is_within" ["thing","low","high"] cZ:=by
 refine aX ["thing","low","high"] T.is_within fun _ _ _ _ _ _ _ _ hr q=>?_
 exact (aq (ax (bK (av (sG T) hr (ae (rv 0) ah)) (cb (mM gi (bu _) gi (bu _) (rv 1) (rv 0) (rv 2))))))
theorem j8 (T:Txt K mg):OkE P w K mg 3 "are_within" ["thing","low","high"] dD:=by
 refine aX ["thing","low","high"] T.are_within fun _ _ _ _ _ _ _ _ hr q=>?_
 refine' (aq (ax (bK (a5 T.z_isinstance T.z_tuple bL (rv 0)) (cb (aD (fJ rfl) iu T.z_all kS (ae (bS bq ["part","thing","low","high"] q (a6 (rv 0)) ?g0 rt0 ?e0) ah))))))
 (case g0=>intro _ _ _ _ q;exact (aA q))
 (case e0=>intro _ _ _ _;exact (av (eL T) hr (ae (rv 0) (ae (rv 2) (ae (rv 3) ah)))))
theorem ke (T:Txt K mg):OkE P w K mg 1 "are_rising" ["things"] cJ:=by
 refine aX ["things"] T.are_rising fun _ _ _ _ _ _ _ _ hr q=>?_
 refine' (aq (ax (aD (fJ rfl) iu T.z_all kS (ae (bS bq ["at","things"] q (vt rfl T.z_range (ae ai (ae (aD aU aY T.bg bp (ae (rv 0) ah)) ah))) ?g0 rt0 ?e0) ah))))
 (case g0=>intro _ _ _ _ q;exact (aA q))
 (case e0=>intro _ _ _ _;exact (b_ gf (bu _) (aC (rv 1) (aP mY (nk _) (rv 0) ai)) (aC (rv 1) (rv 0))))
theorem pq (T:Txt K mg):OkE P w K mg 4 "are_worths" ["thing"] eU:=by
 refine aX ["thing"] T.are_worths fun _ _ _ _ _ _ _ _ hr q=>?_
 exact (aq (ax (bK (av (j8 T) hr (ae (rv 0) (ae (nH kE jb ai) (ae ai ah)))) (bK (mM gi (bu _) gi (bu _) ai (aD aU aY T.bg bp (ae (rv 0) ah)) ai) (cb (av (ke T) hr (ae (rv 0) ah)))))))
theorem sm (T:Txt K mg):OkE P w K mg 5 "is_stand" ["thing"] gm:=by
 refine aX ["thing"] T.is_stand fun _ _ _ _ _ _ _ _ hr q=>?_
 refine' (ao (aT (RW.rt (dv (cy (bh (a5 T.z_isinstance T.z_tuple bL (rv 0)))) (dj (cy (yg gi (bu _) gi (bu _) ai (aD aU aY T.bg bp (ae (rv 0) ah)) ai))))) (aq (ax bY)) aF)
 (aq (ax (aD (fJ rfl) iu T.z_all kS (ae (bS bq ["part","thing"] q (a6 (rv 0)) ?g0 rt0 ?e0) ah)))))
 (case g0=>intro _ _ _ _ q;exact (aA q))
 (case e0=>intro _ _ _ _;exact (av (pq T) hr (ae (rv 0) ah)))
theorem pv (T:Txt K mg):OkE P w K mg 6 "need_stand" ["stand"] e_:=by
 refine aX ["stand"] T.need_stand fun _ _ _ _ _ _ _ _ hr q=>?_
 exact (aq (aT (cy (bh (av (sm T) hr (ae (rv 0) ah)))) (aq mE) aF))
theorem pE (T:Txt K mg):OkE P w K mg 1 "are_unlike" ["things"] eK:=by
 refine aX ["things"] T.are_unlike fun _ _ _ _ _ _ _ _ hr q=>?_
 have hu:=hr.units
 exact (aq (ax (b_ (cm hu) cj (FX rfl rfl T.bg rfl T.z_set bp wX (rv 0)) (aD aU aY T.bg bp (ae (rv 0) ah)))))
theorem rG (T:Txt K mg):OkE P w K mg 4 "are_names" ["thing"] fz:=by
 refine aX ["thing"] T.are_names fun _ _ _ _ _ _ _ _ hr q=>?_
 exact (aq (ax (bK (av (j8 T) hr (ae (rv 0) (ae ai (ae ai ah)))) (bK (mM gi (bu _) gi (bu _) ai (aD aU aY T.bg bp (ae (rv 0) ah)) ai) (cb (av (pE T) hr (ae (rv 0) ah)))))))
theorem uM (T:Txt K mg):OkE P w K mg 3 "is_span" ["low","high","least","most"] iN:=by
 refine aX ["low","high","least","most"] T.is_span fun _ _ _ _ _ _ _ _ hr q=>?_
 exact (aq (ax (bK (av (eL T) hr (ae (rv 0) (ae (rv 2) (ae (rv 3) ah)))) (bK (av (eL T) hr (ae (rv 1) (ae (rv 2) (ae (rv 3) ah)))) (cb (b_ gi (bu _) (rv 0) (rv 1)))))))
theorem sg (T:Txt K mg):OkE P w K mg 4 "is_bound" ["thing"] gq:=by
 refine aX ["thing"] T.is_bound fun _ _ _ _ _ _ _ _ hr q=>?_
 have hu:=hr.units
 exact (ao (aT (RW.rt (dv (cy (bh (a5 T.z_isinstance T.z_tuple bL (rv 0)))) (dj (aK (d4 hu) d9 (aD aU aY T.bg bp (ae (rv 0) ah)) ai)))) (aq (ax bY)) aF)
 (aq (ax (bK (av (eL T) hr (ae (aC (rv 0) ai) (ae (nH kE jb ai) (ae ai ah)))) (cb (av (uM T) hr (ae (aC (rv 0) ai) (ae (aC (rv 0) ai) (ae ai (ae ai ah))))))))))
theorem pL (T:Txt K mg):OkE P w K mg 5 "are_bounds" ["thing"] eT:=by
 refine aX ["thing"] T.are_bounds fun _ _ _ _ _ _ _ _ hr q=>?_
 refine' (ao (aT (RW.rt (dv (cy (bh (a5 T.z_isinstance T.z_tuple bL (rv 0)))) (dj (aK lX (bu _) (aD aU aY T.bg bp (ae (rv 0) ah)) ai)))) (aq (ax bY)) aF)
 (aq (ax (bK (aD (fJ rfl) iu T.z_all kS (ae (bS bq ["part","thing"] q (a6 (rv 0)) ?g0 rt0 ?e0) ah)) (cb (av (ke T) hr (ae (bS bq ["part","thing"] q (a6 (rv 0)) ?g1 rt0 ?e1) ah)))))))
 (case g0=>intro _ _ _ _ q;exact (aA q))
 (case e0=>intro _ _ _ _;exact (av (sg T) hr (ae (rv 0) ah)))
 (case g1=>intro _ _ _ _ q;exact (aA q))
 (case e1=>intro _ _ _ _;exact (aC (rv 0) ai))
theorem uz (T:Txt K mg):OkE P w K mg 6 "is_many" ["wish"] iE:=by
 refine aX ["wish"] T.is_many fun _ _ _ _ _ _ _ _ hr q=>?_
 have hu:=hr.units
 exact (aq (ax (bK (b_ (cm hu) cj (aD aU aY T.bg bp (ae (rv 0) ah)) ai) (cb (av (pL T) hr (ae (aC (rv 0) ai) ah))))))
theorem l8 (T:Txt K mg):OkE P w K mg 7 "is_of_its_kind" ["wish"] de:=by
 refine aX ["wish","word"] T.is_of_its_kind fun _ _ _ _ _ _ _ _ hr q=>?_
 have hu:=hr.units
 exact (ao (aG q (aC (rv 0) ai))
 (ao (aT (aK (cm hu) cj (rv 1) cB) cX aF)
 (ao (aT (aK (cm hu) cj (rv 1) cB) (aq (ax (av (uz T) hr (ae (rv 0) ah)))) aF)
 cX)))
theorem uZ (T:Txt K mg):OkE P w K mg 8 "is_wish" ["thing"] iJ:=by
 refine aX ["thing"] T.is_wish fun _ _ _ _ _ _ _ _ hr q=>?_
 exact (ao (aT (RW.rt (dv (cy (bh (a5 T.z_isinstance T.z_tuple bL (rv 0)))) (dj (aK gf (bu _) (aD aU aY T.bg bp (ae (rv 0) ah)) ai)))) (aq (ax bY)) aF)
 (aq (ax (bK (av (rG T) hr (ae (aC (rv 0) ai) ah)) (cb (av (l8 T) hr (ae (rv 0) ah)))))))
theorem pF (T:Txt K mg):OkE P w K mg 9 "is_wish_of" ["stand","thing"] eO:=by
 refine aX ["stand","thing"] T.is_wish_of fun _ _ _ _ _ _ _ _ hr q=>?_
 refine' (aq (ax (bK (av (uZ T) hr (ae (rv 1) ah)) (cb (aD (fJ rfl) iu T.z_all kS (ae (bS bq ["name","stand","thing"] q (a6 (aC (rv 1) ai)) ?g0 rt0 ?e0) ah))))))
 (case g0=>intro _ _ _ _ q;exact (aA q))
 (case e0=>intro _ _ _ _;exact (b_ gf (bu _) (rv 0) (aD aU aY T.bg bp (ae (rv 1) ah))))
theorem rg (T:Txt K mg):OkE P w K mg 10 "need_wish" ["stand","wish","number"] fu:=by
 refine aX ["stand","wish","number"] T.need_wish fun _ _ _ _ _ _ _ _ hr q=>?_
 exact (aq (aT (cy (bh (av (pF T) hr (ae (rv 0) (ae (rv 1) ah))))) (aq mE) aF))
theorem AV (T:Txt K mg):OkE P w K mg 11 "need" ["stand","wish"] nc:=by
 refine aX ["stand","wish"] T.need fun _ _ _ _ _ _ _ _ hr q=>?_
 exact (ao (dN (av (pv T) hr (ae (rv 0) ah)))
 (aq (dN (av (rg T) hr (ae (rv 0) (ae (rv 1) (ae ai ah)))))))
theorem qa (T:Txt K mg):OkE P w K mg 12 "need_kind" ["stand","wish","word"] fA:=by
 refine aX ["stand","wish","word"] T.need_kind fun _ _ _ _ _ _ _ _ hr q=>?_
 have hu:=hr.units
 exact (ao (dN (av (AV T) hr (ae (rv 0) (ae (rv 1) ah))))
 (aq (aT (aK (d4 hu) d9 (aC (rv 1) ai) (rv 2)) (aq mE) aF)))
theorem eQ (T:Txt K mg):OkE P w K mg 1 "seated_at" ["seats","worth"] cF:=by
 refine aX ["seats","worth"] T.seated_at fun _ _ _ _ _ _ _ _ hr q=>?_
 have hu:=hr.units
 refine' (aq (ax (kF 0 (bS bq ["name","seats","worth"] q (qZ (rv 0)) ?g0 ?t0 ?e0))))
 (case g0=>intro _ _ _ _ q;exact (aA q))
 (case t0=>intro _ _ _ _;exact (dF (aK (cm hu) cj (jH hu (rv 1) (rv 0)) (rv 2))))
 (case e0=>intro _ _ _ _;exact (rv 0))
theorem sL (T:Txt K mg):OkE P w K mg 2 "has_room" ["worth","highs","seats"] gA:=by
 refine aX ["worth","highs","seats"] T.has_room fun _ _ _ _ _ _ _ _ hr q=>?_
 have hu:=hr.units
 exact (aq (ax (Fz (b_ (ox hu) mD (rv 0) (rv 1)) (cb (b_ gf (bu _) (aD aU aY T.bg bp (ae (av (eQ T) hr (ae (rv 2) (ae (rv 0) ah))) ah)) (jH hu (rv 1) (rv 0)))))))
theorem fZ (T:Txt K mg):∀ n:Nat,OkE P w K mg (2+n+1) "make_room" ["stand","worth","highs","seats","asked"] (cf n)∧OkE P w K mg (2+n+1) "find_seat" ["stand","name","highs","seats","asked"] (bF n)
 | 0=>⟨aX ["stand","worth","highs","seats","asked","seated","name"] T.make_room fun _ _ _ _ _ _ _ _ hr q=>cX,aX ["stand","name","highs","seats","asked","worth"] T.find_seat fun _ _ _ _ _ _ _ _ hr q=>cX⟩
 | n+1=>by
  have ih:=fZ T n
  have kX:=fun (_:Txt K mg)=>ih.1
  have hG:=fun (_:Txt K mg)=>ih.2
  refine ⟨?_,?_⟩
  · refine aX ["stand","worth","highs","seats","asked","seated","name"] T.make_room fun _ _ _ _ _ _ _ _ hr q=>?_
    exact (ao (aG q (av (eQ T) hr (ae (rv 3) (ae (rv 1) ah)) (by omega)))
 (ao (ck (a6 (rv 5)) (aA q) (aq (aT (bh (av (hG T) hr (ae (rv 0) (ae (rv 6) (ae (rv 2) (ae (rv 3) (ae (rv 4) ah))))) (by omega))) (aq (ax bY)) aF)))
 (aq (ax bY))))
  · refine aX ["stand","name","highs","seats","asked","worth"] T.find_seat fun _ _ _ _ _ _ _ _ hr q=>?_
    have hu:=hr.units
    exact (ao (ck (a6 (aC (rv 0) (rv 1))) (aA q) (ao (aT (aK (qO hu) nX (rv 5) (rv 4)) (aq tG) aF)
 (ao (lP hu (rv 4) (rv 5) bY)
 (aq (aT (RW.rt (dv (bh (av (sL T) hr (ae (rv 5) (ae (rv 2) (ae (rv 3) ah))) (by omega))) (dj (bh (av (kX T) hr (ae (rv 0) (ae (rv 5) (ae (rv 2) (ae (rv 3) (ae (rv 4) ah))))) (by omega)))))) (ao (lP hu (rv 3) (rv 1) (rv 5))
 (aq (ax bY))) aF)))))
 (aq (ax bY)))
theorem kX (T:Txt K mg):OkE P w K mg 23 "make_room" ["stand","worth","highs","seats","asked"] (cf 20):=(fZ T 20).1
theorem hG (T:Txt K mg):OkE P w K mg 23 "find_seat" ["stand","name","highs","seats","asked"] (bF 20):=(fZ T 20).2
theorem sI (T:Txt K mg):OkE P w K mg 24 "seat_all" ["stand","names","highs","seats"] eM:=by
 refine aX ["stand","names","highs","seats","name","asked"] T.seat_all fun _ _ _ _ _ _ _ _ hr q=>?_
 have hu:=hr.units
 refine' (ao (ck (a6 (rv 1)) (aA q) (ao (aG q oh)
 (aq (aT (cy (bh (av (hG T) hr (ae (rv 0) (ae (rv 4) (ae (rv 2) (ae (rv 3) (ae (rv 5) ah)))))))) (aq (ax (bM cV dc T.z_tuple bL (ae (aD jF lE T.z_sorted fR (ae (aP bt br (di (ae (rv 4) ah)) (kF 3 (bS bq ["other","stand","names","highs","seats","name","asked"] q (qZ (rv 3)) ?g0 ?t0 ?e0))) ah)) ah)))) aF))))
 (aq (ax (cz ah))))
 (case g0=>intro _ _ _ _ q;exact (aA q))
 (case t0=>intro _ _ _ _;exact (dF (aK (qO hu) nX (jH hu (rv 4) (rv 0)) (rv 6))))
 (case e0=>intro _ _ _ _;exact (rv 0))
theorem sF (T:Txt K mg):OkE P w K mg 1 "highs_of" ["bounds"] gC:=by
 refine aX ["bounds"] T.highs_of fun _ _ _ _ _ _ _ _ hr q=>?_
 refine' (aq (ax (mT (bM (jL rfl) jX T.z_dict oo (ae (bS bq ["worth","low","high","bounds"] q (a6 (rv 0)) ?g0 rt0 ?e0) ah)))))
 (case g0=>intro _ _ _ _ q;exact (la (cc (aA q) (cc (aA q) (cc (aA q) ji)))))
 (case e0=>intro _ _ _ _;exact (cz (ae (rv 0) (ae (rv 2) ah))))
theorem qW (T:Txt K mg):OkE P w K mg 2 "can_spare" ["worth","lows","seats"] fE:=by
 refine aX ["worth","lows","seats"] T.can_spare fun _ _ _ _ _ _ _ _ hr q=>?_
 have hu:=hr.units
 exact (aq (ax (b_ lX (bu _) (aD aU aY T.bg bp (ae (av (eQ T) hr (ae (rv 2) (ae (rv 0) ah))) ah)) (tj hu (rv 1) (rv 0) ai))))
theorem kj (T:Txt K mg):∀ n:Nat,OkE P w K mg (2+n+1) "bring_one" ["stand","worth","lows","seats","asked"] (cG n)
 | 0=>aX ["stand","worth","lows","seats","asked","name","place"] T.bring_one fun _ _ _ _ _ _ _ _ hr q=>cX
 | n+1=>by
  have ih:=kj T n
  have ic:=fun (_:Txt K mg)=>ih
  · refine aX ["stand","worth","lows","seats","asked","name","place"] T.bring_one fun _ _ _ _ _ _ _ _ hr q=>?_
    have hu:=hr.units
    exact (ao (lP hu (rv 4) (rv 1) bY)
 (ao (ck (a6 (kF 3 (bM (t8 rfl) ux T.z_list lQ (ae (rv 3) ah)))) (aA q) (ao (aG q (jH hu (rv 3) (rv 5)))
 (ao (aT (RW.rt (dv (aK (jk hu) jj (rv 1) (aC (rv 0) (rv 5))) (dj (aK (qO hu) nX (rv 6) (rv 4))))) (aq tG) aF)
 (aq (aT (RW.rt (dv (bh (av (qW T) hr (ae (rv 6) (ae (rv 2) (ae (rv 3) ah))) (by omega))) (dj (bh (av (ic T) hr (ae (rv 0) (ae (rv 6) (ae (rv 2) (ae (rv 3) (ae (rv 4) ah))))) (by omega)))))) (ao (lP hu (rv 3) (rv 5) (rv 1))
 (aq (ax bY))) aF)))))
 (aq (ax bY))))
theorem ic (T:Txt K mg):OkE P w K mg 23 "bring_one" ["stand","worth","lows","seats","asked"] (cG 20):=(kj T 20)
theorem uX (T:Txt K mg):OkE P w K mg 24 "fill_up" ["stand","lows","seats"] fH:=by
 refine aX ["stand","lows","seats","worth","asked"] T.fill_up fun _ _ _ _ _ _ _ _ hr q=>?_
 have hu:=hr.units
 exact (ao (ck (qZ (rv 1)) (aA q) (aq (yn (aK gf (bu _) (aD aU aY T.bg bp (ae (av (eQ T) hr (ae (rv 2) (ae (rv 3) ah))) ah)) (jH hu (rv 1) (rv 3))) (ao (aG q oh)
 (aq (aT (cy (bh (av (ic T) hr (ae (rv 0) (ae (rv 3) (ae (rv 1) (ae (rv 2) (ae (rv 4) ah)))))))) (aq (ax (bM cV dc T.z_tuple bL (ae (kF 4 (aD (uo rfl) uq T.z_sorted fR (ae (rv 4) ah))) ah)))) aF))))))
 (aq (ax (cz ah))))
theorem t9 (T:Txt K mg):OkE P w K mg 1 "lows_of" ["bounds"] iH:=by
 refine aX ["bounds"] T.lows_of fun _ _ _ _ _ _ _ _ hr q=>?_
 refine' (aq (ax (mT (bM (jL rfl) jX T.z_dict oo (ae (bS bq ["worth","low","high","bounds"] q (a6 (rv 0)) ?g0 rt0 ?e0) ah)))))
 (case g0=>intro _ _ _ _ q;exact (la (cc (aA q) (cc (aA q) (cc (aA q) ji)))))
 (case e0=>intro _ _ _ _;exact (cz (ae (rv 0) (ae (rv 1) ah))))
theorem nR (T:Txt K mg):OkE P w K mg 1 "filling_with" ["stand","chosen"] cH:=by
 refine aX ["stand","chosen"] T.filling_with fun _ _ _ _ _ _ _ _ hr q=>?_
 have hu:=hr.units
 refine' (aq (ax (bM cV dc T.z_tuple bL (ae (bS bq ["name","worths","stand","chosen"] q (xZ rfl T.z_enumerate (rv 0)) ?g0 rt0 ?e0) ah))))
 (case g0=>intro _ _ _ _ q;exact (la (cc (aA q) (cc (aA q) ji))))
 (case e0=>intro _ _ _ _;exact (tj hu (rv 3) (rv 0) (aC (rv 1) ai)))
theorem sf (T:Txt K mg):OkE P w K mg 25 "many_can" ["stand","wish"] dQ:=by
 refine aX ["stand","wish","seats","crowd","short"] T.many_can fun _ _ _ _ _ _ _ _ hr q=>?_
 exact (ao (dN (av (qa T) hr (ae (rv 0) (ae (rv 1) (ae cB ah)))))
 (ao (aG q oh)
 (ao (aG q (av (sI T) hr (ae (rv 0) (ae (aC (rv 1) ai) (ae (av (sF T) hr (ae (aC (rv 1) ai) ah)) (ae (rv 2) ah))))))
 (ao (aT (bh (rv 3)) (aq (ax (cz (ae cB (ae (cz (ae cB (ae (rv 3) ah))) ah))))) aF)
 (ao (aG q (av (uX T) hr (ae (rv 0) (ae (av (t9 T) hr (ae (aC (rv 1) ai) ah)) (ae (rv 2) ah)))))
 (ao (aT (bh (rv 4)) (aq (ax (cz (ae cB (ae (cz (ae cB (ae (rv 4) ah))) ah))))) aF)
 (aq (ax (cz (ae cB (ae (kF 2 (av (nR T) hr (ae (rv 0) (ae (rv 2) ah)))) ah)))))))))))
theorem Cb (T:Txt K mg):OkE P w K mg 26 "law" ["script"] uc:=by
 refine aX ["script","pen","turn","stand","wishes","wish","good"] T.law fun _ _ _ _ _ _ _ _ hr q=>?_
 refine' (ao (aG q (av (vZ T) hr (ae (rv 0) ah)))
 (ao (ck (eF rfl T.z_range (ae ai ah)) (aA q) (ao (aG q (av (u1 T) hr (ae (av (vd T) hr (ae (rv 1) ah)) (ae ai (ae ai ah)))))
 (ao (zZ bq ["k","script","pen","turn","stand","wishes","wish","good"] q (eF rfl T.z_range (ae ai ah)) ?g0 rt0 ?e0)
 (aq (ck (a6 (aP bt br (rv 4) (A8 (rv 4) (nH kE jb ai)))) (aA q) (ao (aG q (av (xw T) hr (ae (rv 3) (ae (di (ae (rv 5) ah)) ah))))
 (aq (aT (cy (bh (av (u_ T) hr (ae (rv 3) (ae (rv 5) (ae (rv 6) (ae (av (sf T) hr (ae (rv 3) (ae (rv 5) ah))) ah))))))) (aq (ax bY)) aF))))))))
 (aq (ax bY))))
 (case g0=>intro _ _ _ _ q;exact (aA q))
 (case e0=>intro _ _ _ _;exact (av (qu T) hr (ae (rv 2) (ae (rv 4) (ae ai ah)))))
end
end My
def PySem.W.Fast.tw12156109213824103517:Unit:=()
def PySem.W.Fast.tw1642424084034406824:Unit:=()
def PySem.W.Fast.tw9016832096552585261:Unit:=()
def PySem.W.Fast.tw7747428848453458468:Unit:=()
def PySem.W.Fast.tw5933590091233729732:Unit:=()
def PySem.W.Fast.tw18434046356470930352:Unit:=()
def PySem.W.Fast.tw13689863823539822299:Unit:=()
def PySem.W.Fast.tw4275472598518636848:Unit:=()
def PySem.W.Fast.tw5626188754940779975:Unit:=()
def PySem.W.Fast.tw2899000385168363811:Unit:=()
def PySem.W.Fast.tw11183223126755226222:Unit:=()
def PySem.W.Fast.tw5035017669961148888:Unit:=()
def PySem.W.Fast.tw10182152421986185236:Unit:=()
def PySem.W.Fast.tw5742081385408598817:Unit:=()
def PySem.W.Fast.tw3657326962325406433:Unit:=()
def PySem.W.Fast.tw3558203524473499793:Unit:=()
def PySem.W.Fast.tw4342548765266138717:Unit:=()
def PySem.W.Fast.tw9885579305960061721:Unit:=()
def PySem.W.Fast.tw11519417785368203197:Unit:=()
def PySem.W.Fast.tw11220261384317099380:Unit:=()
def PySem.W.Fast.tw12425689442682294431:Unit:=()
def PySem.W.Fast.tw8866076596164227753:Unit:=()
def PySem.W.Fast.tw6020101227521336597:Unit:=()
def PySem.W.Fast.tw7045548799875963408:Unit:=()
def PySem.W.Fast.tw8877098715898134783:Unit:=()
def PySem.W.Fast.tw4210264658640815426:Unit:=()
def PySem.W.Fast.tw10629886002925429770:Unit:=()
def PySem.W.Fast.tw11839794504722040306:Unit:=()
def PySem.W.Fast.tw15707540962429717570:Unit:=()
def PySem.W.Fast.tw3290116675916645703:Unit:=()
def PySem.W.Fast.tw75826806522649905:Unit:=()
def PySem.W.Fast.tw15279290554925124596:Unit:=()
def PySem.W.Fast.tw13284645463126693659:Unit:=()
def PySem.W.Fast.tw6246105709336013845:Unit:=()
def PySem.W.Fast.tw17455755777172918781:Unit:=()
def PySem.W.Fast.tw12486804188663353421:Unit:=()
def PySem.W.Fast.tw3589659060243454473:Unit:=()
def PySem.W.Fast.tw5262101708481480072:Unit:=()
def PySem.W.Fast.tw435837600762990111:Unit:=()
def PySem.W.Fast.tw7502548716903350093:Unit:=()
def PySem.W.Fast.tw17154530705181630033:Unit:=()
def PySem.W.Fast.tw16377562214682729981:Unit:=()
def PySem.W.Fast.tw7232345717810222886:Unit:=()
def PySem.W.Fast.tw34523152336224386:Unit:=()
def PySem.W.Fast.tw8973033716594324526:Unit:=()
def PySem.W.Fast.tw13337924328475810021:Unit:=()
def PySem.W.Fast.tw13726628474710256593:Unit:=()
def PySem.W.Fast.tw1883436027095994555:Unit:=()
def PySem.W.Fast.tw16041619566784094924:Unit:=()
def PySem.W.Fast.tw10119477847429924141:Unit:=()
def PySem.W.Fast.tw14496373336131575115:Unit:=()
def PySem.W.Fast.tw35349937371697476:Unit:=()
def PySem.W.Fast.tw6305740704151552077:Unit:=()
def PySem.W.Fast.tw3880655973104888267:Unit:=()
def PySem.W.Fast.tw11978472610341249632:Unit:=()
def PySem.W.Fast.tw13223277131084953116:Unit:=()
def PySem.W.Fast.tw6694756371125746506:Unit:=()
def PySem.W.Fast.tw5073981491361802885:Unit:=()
def PySem.W.Fast.tw9293841614779501504:Unit:=()
def PySem.W.Fast.tw999996778109189454:Unit:=()
def PySem.W.Fast.tw15533809093491786506:Unit:=()
def PySem.W.Fast.tw8076658301821894587:Unit:=()
def PySem.W.Fast.tw2320819527557608388:Unit:=()
def PySem.W.Fast.tw16004862050507869802:Unit:=()
def PySem.W.Fast.tw7380079801027267770:Unit:=()
def PySem.W.Fast.tw13512733658999498984:Unit:=()
def PySem.W.Fast.tw16159773187228309786:Unit:=()
def PySem.W.Fast.tw2849700843933757757:Unit:=()
def PySem.W.Fast.tw10753527951870308022:Unit:=()
def PySem.W.Fast.tw4947551146030752139:Unit:=()
namespace My
open PySem L2
def ui (K:PySem.W.Frag):Sp:=fun vs H Q _=>∃ (l:Addr) (ns:List Int),vs=[.ref l]∧SqL K H l (ns.map V.int)∧ns.length≤63∧∀ H',Q (.bl true) H'
theorem all_mk {l:PySem.W.OpenLaw} {w:World} {K:PySem.W.Frag} {mg:Str→Option Value} {fa:Addr} (hfa:mg "law"=some (.ref fa)) (T:Txt K mg) :
  ∃ fd:FuncData,(∀ (s:Shared) (v:Value),BindsTo s fd ⟨[v],[]⟩ [("script",v)])∧∀ base:Heap,K.In base→base.Ns mainGlobals mg→ff l.prog w K mg base CX0 26 fa fd ["script"] (ui K):=by
 obtain ⟨f,fd,m,kp,b,F⟩:=Cb (P:=l.prog) (w:=w) T
 have e2:f=fa:=(Value.ref.inj (Option.some.inj (hfa.symm.trans m))).symm
 subst e2
 refine ⟨fd,fun s v=>.of_eq (b [v] rfl),fun base _ _=>(F base).imp fun vs H Q E h=>?_⟩
 obtain ⟨l,ns,rfl,hS,hl,hQ⟩:=h
 refine ⟨fun _=>l,[],[.sc ns],⟨fun n o h=>(by cases h),fun n m o o' h=>(by cases h)⟩,.cons ⟨l,rfl,SqL.mono (fun b o h=>bJ h (by rintro ⟨n,o',e,_⟩;cases e)) hS⟩ .nil,?_⟩
 rw [zm ns]
 intro b μ' H' st r
 cases r
 exact hQ H'
theorem walk {l:PySem.W.OpenLaw} {q:Program} {loose:List Str} {XP:(Str→Option Value)→Heap→Prop} {YP:World→Heap→Prop} {d:DefRec} {K:Params→PySem.W.Frag} (hn:l.most=some 63) (hdf:d.params.defaults=[])
  (hY:∀ (w:World) (h:Heap),YP w h→(K w.params).In h)
  (F:∀ (w:World) (mg:Str→Option Value) (fa:Addr) (h:Heap),(K w.params).In h→h.Ns mainGlobals mg→mg d.name=some (.ref fa) →
   ∃ fd:FuncData,(∀ (s:Shared) (u:Value),BindsTo s fd ⟨[u],[]⟩ [("script",u)])∧∀ base:Heap,(K w.params).In base→base.Ns mainGlobals mg→ff l.prog w (K w.params) mg base CX0 26 fa fd ["script"] (ui (K w.params))) :
  PySem.W.WalkO q loose XP YP l.row.toRowW d [] (fun f vs=>PySem.call f vs):=
 L2.Ay (n:=63) (k:=26) (x:="script") (CX:=fun _=>CX0) (sp:=fun w=>ui (K w.params)) hn (by decide) hdf ⟨rfl,by decide,by decide⟩ hY F (fun _ _ a ns hl _ hS=>⟨a,ns,rfl,hS,hl,fun _=>rfl⟩) fun _ _ _ _ _ z=>z
end My
open PySem PySem.W PyProof.Rows
set_option maxRecDepth 100000 in
set_option maxHeartbeats 0 in
theorem PySem.Challenge.cw_wishstrike_k15_many_can_or_paper_holds : PySem.Challenge.rw_wishstrike_k15_many_can_or_paper.Holds := by
  w_on;o_law;k_head;(case hw=>w_witness2)
  k_fill
  refine My.walk (l:=PySem.Challenge.rw_wishstrike_k15_many_can_or_paper) rfl rfl (fun w h Y=>PySem.W.kIn_of Y) ?F
  case F=>
    intro w mg fa h KX G hmg
    refine' My.all_mk hmg ?T
    (case T=>constructor<;>first | (refine' PySem.W.mg_none_of KX G ?z;(case z=>k_is)) | (refine' L2.FQ KX G ?a ?l ?c ?k;(case a=>k_is);(case l=>k_is);(case c=>k_is);(case k=>k_is)))
#print axioms PySem.Challenge.cw_wishstrike_k15_many_can_or_paper_holds
