import PyProof.Rows.All
import Wide.All
import OpenK.AllK
import Wide.FinOn
import Lean
import PyProof.EqAt
import PyProof.EqKinds
import PyProof.TupleCall
import PySem.Challenge.RW_wishstrike_k01_what_is_a_stand
set_option Elab.async false
set_option linter.all false
set_option maxRecDepth 100000
/-! THE HAND LAYER, for ints, bools, texts, own classes, LISTS and tuples (index, slices, in, append, pop ..), calls, loops. Paste it whole ahead of your own text; what your proof does not reach may be deleted. -/
namespace L2
open PySem PySem.Spec PyProof.Rows

/-- a key: an int or a str -/
abbrev Key := Sum Int Str
def keyIs : Key → Value → Bool
  | .inl k, v => Value.isInt k v
  | .inr x, v => Value.isStrOf x v
def keyH (w : World) : Key → Int
  | .inl k => hashInt k
  | .inr x => hashStr w x
theorem keyIs_shape : ∀ {k : Key} {v : Value}, keyIs k v = true → (∃ i t, k = Sum.inl i ∧ v = Value.int i t) ∨ (∃ x t, k = Sum.inr x ∧ v = Value.str x t)
  | .inl i, v, h => by
    obtain ⟨t, e⟩ := Value.isInt_shape (k := i) (v := v) h
    exact .inl ⟨i, t, rfl, e⟩
  | .inr x, v, h => by
    obtain ⟨t, e⟩ := Value.isStrOf_shape (x := x) (v := v) h
    exact .inr ⟨x, t, rfl, e⟩
theorem keyIs_int (i : Int) (t : Tok) : keyIs (.inl i) (.int i t) = true := by simp [keyIs, Value.isInt]
theorem keyIs_str (x : Str) (t : Tok) : keyIs (.inr x) (.str x t) = true := by simp [keyIs, Value.isStrOf]
theorem key_ll (a b : Int) : decide ((Sum.inl a : Key) = Sum.inl b) = (a == b) := by
  by_cases e : a = b
  · subst e; simp
  · have h : ¬ (Sum.inl a : Key) = Sum.inl b := fun q => e (Sum.inl.inj q)
    rw [decide_eq_false h]
    exact (beq_eq_false_iff_ne.mpr e).symm
theorem key_rr (a b : Str) : decide ((Sum.inr a : Key) = Sum.inr b) = decide (a = b) := by
  by_cases e : a = b
  · subst e; simp
  · have h : ¬ (Sum.inr a : Key) = Sum.inr b := fun q => e (Sum.inr.inj q)
    rw [decide_eq_false h, decide_eq_false e]
theorem key_lr (a : Int) (b : Str) : decide ((Sum.inl a : Key) = Sum.inr b) = false := decide_eq_false (fun q => nomatch q)
theorem key_rl (a : Str) (b : Int) : decide ((Sum.inr a : Key) = Sum.inl b) = false := decide_eq_false (fun q => nomatch q)

def mixKind (prog : Program) (w : World) : PySem.KeyKind prog w Key where
  is := keyIs
  hash := keyH w
  inj := fun v a b ha hb => by
    rcases keyIs_shape ha with ⟨i, t, rfl, rfl⟩ | ⟨x, t, rfl, rfl⟩
    · rcases keyIs_shape hb with ⟨j, u, rfl, e⟩ | ⟨y, u, rfl, e⟩
      · injection e with e1 _; rw [e1]
      · exact nomatch e
    · rcases keyIs_shape hb with ⟨j, u, rfl, e⟩ | ⟨y, u, rfl, e⟩
      · exact nomatch e
      · injection e with e1 _; rw [e1]
  byValue := fun k v h => by
    rcases keyIs_shape h with ⟨i, t, rfl, rfl⟩ | ⟨x, t, rfl, rfl⟩ <;> rfl
  pyHash := fun hv h => by
    rcases keyIs_shape hv with ⟨i, t, rfl, rfl⟩ | ⟨x, t, rfl, rfl⟩
    · exact wpAny_pyHash_int h
    · exact wpAny_pyHash_str h
  eqBool := fun hu hv h => by
    rcases keyIs_shape hu with ⟨i, t, rfl, rfl⟩ | ⟨x, t, rfl, rfl⟩
    · rcases keyIs_shape hv with ⟨j, u, rfl, rfl⟩ | ⟨y, u, rfl, rfl⟩
      · rw [key_ll] at h; exact wpAny_eqBool_int h
      · rw [key_lr] at h; exact SeqAt.EqAt.int_str i t y u _ _ _ _ h
    · rcases keyIs_shape hv with ⟨j, u, rfl, rfl⟩ | ⟨y, u, rfl, rfl⟩
      · rw [key_rl] at h; exact SeqAt.EqAt.str_int x t j u _ _ _ _ h
      · rw [key_rr] at h; exact wpAny_eqBool_str h
  «strs» := fun k x t v h => by
    rcases keyIs_shape h with ⟨i, u, rfl, e⟩ | ⟨y, u, rfl, e⟩
    · exact nomatch e
    · injection e with e1 _
      subst e1
      cases v <;> rfl

theorem mixKind_is (prog : Program) (w : World) (k : Key) (v : Value) : (mixKind prog w).is k v = keyIs k v := rfl
theorem mixKind_int (prog : Program) (w : World) (i : Int) (t : Tok) : (mixKind prog w).is (.inl i) (.int i t) = true := keyIs_int i t
theorem mixKind_str (prog : Program) (w : World) (x : Str) (t : Tok) : (mixKind prog w).is (.inr x) (.str x t) = true := keyIs_str x t
end L2

namespace L2
open PySem PySem.Spec PyProof.Rows

/-- a value, without the heap -/
inductive V where
  | non | bl (b : Bool) | int (i : Int) | str (x : Str) | byt (b : Array UInt8) | flt (b : UInt64) | ref (a : Addr) | ty (n : String)
  deriving DecidableEq

def RelV : V → Value → Prop
  | .non, u => u = Value.none
  | .bl b, u => u = Value.bool b
  | .int i, u => ∃ t, u = Value.int i t
  | .str x, u => ∃ t, u = Value.str x t
  | .byt b, u => ∃ t, u = Value.bytes b t
  | .flt b, u => ∃ t, u = Value.float b t
  | .ref a, u => u = Value.ref a
  | .ty n, u => u = Value.type n

abbrev Vals : List V → List Value → Prop := Paired RelV
theorem Vals.length {xs : List V} {us : List Value} (r : Vals xs us) : xs.length = us.length := Paired.length r
theorem Vals.get : ∀ {xs : List V} {us : List Value} {i : Nat} {x : V}, Vals xs us → xs[i]? = some x → ∃ u, us[i]? = some u ∧ RelV x u
  | _, _, _, _, .nil, e => by simp at e
  | _, _, 0, _, .cons r _, e => by simp at e; subst e; exact ⟨_, rfl, r⟩
  | _, _, i + 1, x, .cons _ t, e => by
    obtain ⟨u, h1, h2⟩ := Vals.get (i := i) (x := x) t (by simpa using e)
    exact ⟨u, by simpa using h1, h2⟩
theorem Vals.set {x : V} {u : Value} (r : RelV x u) : ∀ {xs : List V} {us : List Value} (i : Nat), Vals xs us → Vals (xs.set i x) (us.set i u)
  | _, _, _, .nil => .nil
  | _, _, 0, .cons _ t => .cons r t
  | _, _, i + 1, .cons q t => .cons q (Vals.set r i t)
theorem Vals.append : ∀ {xs ys : List V} {us ws : List Value}, Vals xs us → Vals ys ws → Vals (xs ++ ys) (us ++ ws)
  | _, _, _, _, .nil, s => s
  | _, _, _, _, .cons r t, s => .cons r (Vals.append t s)
theorem Vals.take : ∀ {xs : List V} {us : List Value} (n : Nat), Vals xs us → Vals (xs.take n) (us.take n)
  | _, _, 0, _ => .nil
  | _, _, _ + 1, .nil => .nil
  | _, _, n + 1, .cons r t => .cons r (Vals.take n t)
theorem Vals.drop : ∀ {xs : List V} {us : List Value} (n : Nat), Vals xs us → Vals (xs.drop n) (us.drop n)
  | _, _, 0, r => r
  | _, _, _ + 1, .nil => .nil
  | _, _, n + 1, .cons _ t => Vals.drop n t
theorem Vals.none_of : ∀ {xs : List V} {us : List Value} {i : Nat}, Vals xs us → xs[i]? = none → us[i]? = none := fun {xs us i} r e => by
  have h1 := r.length
  have h2 : xs.length ≤ i := List.getElem?_eq_none_iff.mp e
  exact List.getElem?_eq_none_iff.mpr (by omega)

def RelO : Option V → Option Value → Prop
  | some v, some u => RelV v u
  | none, none => True
  | _, _ => False
def KV {κ : Type} : List (κ × V) → List (κ × Value) → Prop := Paired fun (p : κ × V) (q : κ × Value) => p.1 = q.1 ∧ RelV p.2 q.2

/-- a key of a dict (00_mix): an int or a text -/
def kV : Key → V
  | .inl i => .int i
  | .inr x => .str x

/-- what stands at a tracked address -/
inductive HO where
  /-- a list -/
  | lst (xs : List V)
  /-- a tuple (never changes) -/
  | tup (xs : List V)
  /-- a dict whose keys are ints and texts; one whose keys are tuples of ints and texts (the empty one is both) -/
  | dK (kvs : List (Key × V)) | dT (kvs : List (List Key × V))
  /-- a set of ints: its members, its size -/
  | set (S : Int → Bool) (n : Nat)
  /-- an instance of the class at C, its dict at dx, its attributes -/
  | ins (C dx : Addr) (fs : List (Str × V))
  /-- the dict of the instance at x -/
  | own (x : Addr)
  /-- the dict of an exception -/
  | xd (fs : List (Str × V))
  /-- a bound method, f of x -/
  | met (f x : Addr)
  /-- a range object lo, lo + 1, .. below hi -/
  | rng (lo hi : Int)
  /-- a thing that is known to the object (the script; a dict while a loop walks it): read, never written while it is so -/
  | frz (o : Obj) (u : HO)
  /-- a code object's table -/
  | tbl (ps : Array Value)
  /-- any other thing, by what is true of its one object (a def of one's own: SetO a S n := HO.ext fun h => ..) -/
  | ext (φ : Heap → Prop)

abbrev Hp := Addr → Option HO
def upd (H : Hp) (a : Addr) (o : HO) : Hp := fun b => if b = a then some o else H b
theorem upd_same {H : Hp} {a : Addr} {o : HO} : upd H a o a = some o := by unfold upd; rw [if_pos rfl]
theorem upd_ne {H : Hp} {a b : Addr} {o : HO} (h : b ≠ a) : upd H a o b = H b := by unfold upd; rw [if_neg h]
theorem upd_upd {H : Hp} {a : Addr} {o u : HO} : upd (upd H a o) a u = upd H a u := by
  funext b; unfold upd; split <;> rfl
/-- two objects of different content stand apart -/
theorem ne_of {H : Hp} {a b : Addr} {o u : HO} (h : H a = some o) (h' : H b = some u) (d : o ≠ u) : a ≠ b := by
  intro e; subst e; rw [h] at h'; exact d (Option.some.inj h')
theorem ne_of_none {H : Hp} {a b : Addr} {o : HO} (h : H a = some o) (h' : H b = none) : a ≠ b := by
  intro e; subst e; rw [h] at h'; cases h'

section
variable (P : Program) (w : World)
def ObjOk (H : Hp) (h : Heap) (a : Addr) : HO → Prop
  | .lst xs => xs.length ≤ sizeLine ∧ ∃ (its : List Value) (n : Nat), Vals xs its ∧ h.get? a = some { cls := .type "list", data := .seq its.toArray n }
  | .tup xs => xs.length ≤ sizeLine ∧ ∃ its : List Value, Vals xs its ∧ IsTup h a its.toArray
  | .dK kvs => kvs.length ≤ sizeLine ∧ (a == sysModules) = false ∧ ∃ vs, KV kvs vs ∧ h.DictOf (mixKind P w) a vs
  | .dT kvs => kvs.length ≤ sizeLine ∧ (a == sysModules) = false ∧ ∃ xs : List (List Key × Addr × Value),
      Paired (fun (p : List Key × V) (q : List Key × Addr × Value) => p.1 = q.1 ∧ H q.2.1 = some (.tup (p.1.map kV)) ∧ RelV p.2 q.2.2) kvs xs ∧
      ∃ o es ep, h.get? a = some o ∧ o.ExactDict ∧ o.data = .dict es ep ∧ es.toList = xs.map (entryOfKey (tupleKind (mixKind P w))) ∧ (xs.map (·.1)).Nodup
  | .set S n => h.SetOf (intKind P w) a S n
  | .ins C dx fs => H dx = some (.own a) ∧ fs.length ≤ 1000 ∧ dx ≠ a ∧ h.get? a = some (PySem.W.instObj C dx) ∧
      ∃ mA, h.Ns1 dx mA ∧ (∀ f, RelO (fs.lookup f) (mA f)) ∧ PySem.Within mA (fs.map (·.1))
  | .own _ => ∃ o, h.get? a = some o
  | .xd fs => ∃ mA, h.Ns1 a mA ∧ ∀ f, RelO (fs.lookup f) (mA f)
  | .rng lo hi => ∃ t u v, h.get? a = some { cls := .type "range", data := .fields #[.int lo t, .int hi u, .int 1 v] }
  | .frz o u => h.get? a = some o ∧ ObjOk H h a u
  | .tbl ps => h.get? a = some { cls := .none, data := .fields ps }
  | .met f x => h.get? a = some (PySem.W.methodObj (.ref f) (.ref x))
  | .ext φ => φ h ∧ (∃ o, h.get? a = some o) ∧ ∀ h1 h2 : Heap, φ h1 → (∀ o, h1.get? a = some o → h2.get? a = some o) → φ h2
/-- the abstract heap is held -/
def HOk (H : Hp) (h : Heap) : Prop := ∀ a o, H a = some o → ObjOk P w H h a o
end

section
variable {P : Program} {w : World} {H H' : Hp} {h h' : Heap} {a : Addr} {o : HO}
theorem ObjOk.lt (x : ObjOk P w H h a o) : a < h.objs.size := by
  cases o with
  | lst xs => obtain ⟨_, _, _, _, e⟩ := x; exact Heap.lt_size e
  | tup xs => obtain ⟨_, _, _, p⟩ := x; exact p.lt
  | dK kvs => obtain ⟨_, _, _, _, o, _, _, e, _⟩ := x; exact Heap.lt_size e
  | dT kvs => obtain ⟨_, _, _, _, o, _, _, e, _⟩ := x; exact Heap.lt_size e
  | set S n => obtain ⟨o, _, _, _, e, _⟩ := x; exact Heap.lt_size e
  | ins C dx fs => obtain ⟨_, _, _, e, _⟩ := x; exact Heap.lt_size e
  | own y => obtain ⟨_, e⟩ := x; exact Heap.lt_size e
  | xd fs => obtain ⟨_, ⟨_, _, _, e, _⟩, _⟩ := x; exact Heap.lt_size e
  | rng lo hi => obtain ⟨_, _, _, e⟩ := x; exact Heap.lt_size e
  | frz ob u => obtain ⟨e, _⟩ := x; exact Heap.lt_size e
  | tbl ps => exact Heap.lt_size (show h.get? a = some _ from x)
  | met f y => exact Heap.lt_size (show h.get? a = some _ from x)
  | ext φ => obtain ⟨_, ⟨_, e⟩, _⟩ := x; exact Heap.lt_size e
theorem Paired.mapP {α β : Type} {F G : α → β → Prop} : ∀ {l₁ : List α} {l₂ : List β}, Paired F l₁ l₂ → (∀ a b, F a b → G a b) → Paired G l₁ l₂
  | _, _, .nil, _ => .nil
  | _, _, .cons r t, f => .cons (f _ _ r) (Paired.mapP t f)
theorem Paired.imp' {α β : Type} {F G : α → β → Prop} (f : ∀ a b, F a b → G a b) {l₁ : List α} {l₂ : List β} (r : Paired F l₁ l₂) : Paired G l₁ l₂ := Paired.mapP r f
/-- what an object's description leans on: its own object, its own dict, the tuples -/
theorem ObjOk.stay (x : ObjOk P w H h a o) (k : ∀ b u, (b = a ∨ H b = some (.own a)) → h.get? b = some u → h'.get? b = some u)
    (ho : ∀ b, H b = some (.own a) → H' b = some (.own a)) (ht : ∀ b xs, H b = some (.tup xs) → H' b = some (.tup xs)) : ObjOk P w H' h' a o := by
  induction o with
  | lst xs => obtain ⟨z, its, n, r, e⟩ := x; exact ⟨z, its, n, r, k _ _ (.inl rfl) e⟩
  | tup xs => obtain ⟨z, its, r, ob, e, c⟩ := x; exact ⟨z, its, r, ob, k _ _ (.inl rfl) e, c⟩
  | dK kvs => obtain ⟨z, y, vs, r, ob, es, ep, e, c⟩ := x; exact ⟨z, y, vs, r, ob, es, ep, k _ _ (.inl rfl) e, c⟩
  | dT kvs =>
    obtain ⟨z, y, xs, r, ob, es, ep, e, c⟩ := x
    exact ⟨z, y, xs, Paired.mapP r fun p q z => ⟨z.1, ht _ _ z.2.1, z.2.2⟩, ob, es, ep, k _ _ (.inl rfl) e, c⟩
  | set S n => obtain ⟨ob, es, ep, t, e, c⟩ := x; exact ⟨ob, es, ep, t, k _ _ (.inl rfl) e, c⟩
  | ins C dx fs =>
    obtain ⟨d, z, ne, e, mA, ⟨od, es, ep, e2, c⟩, r⟩ := x
    exact ⟨ho _ d, z, ne, k _ _ (.inl rfl) e, mA, ⟨od, es, ep, k _ _ (.inr d) e2, c⟩, r⟩
  | own y => obtain ⟨ob, e⟩ := x; exact ⟨ob, k _ _ (.inl rfl) e⟩
  | xd fs => obtain ⟨mA, ⟨od, es, ep, e, c⟩, r⟩ := x; exact ⟨mA, ⟨od, es, ep, k _ _ (.inl rfl) e, c⟩, r⟩
  | rng lo hi => obtain ⟨t, u, v, e⟩ := x; exact ⟨t, u, v, k _ _ (.inl rfl) e⟩
  | frz ob u ih => obtain ⟨e, q⟩ := x; exact ⟨k _ _ (.inl rfl) e, ih q⟩
  | tbl ps =>
    have e : h.get? a = some { cls := .none, data := .fields ps } := x
    show h'.get? a = some { cls := .none, data := .fields ps }
    exact k a _ (.inl rfl) e
  | met f y =>
    have e : h.get? a = some (PySem.W.methodObj (.ref f) (.ref y)) := x
    show h'.get? a = some (PySem.W.methodObj (.ref f) (.ref y))
    exact k a _ (.inl rfl) e
  | ext φ => obtain ⟨p, ⟨o, e⟩, st⟩ := x; exact ⟨st _ _ p fun o q => k _ _ (.inl rfl) q, ⟨o, k _ _ (.inl rfl) e⟩, st⟩
theorem HOk.lt (x : HOk P w H h) (e : H a = some o) : a < h.objs.size := (x a o e).lt
theorem HOk.fresh (x : HOk P w H h) (e : h.objs.size ≤ a) : H a = none := by
  cases q : H a with
  | none => rfl
  | some u => exact absurd (Nat.lt_of_lt_of_le (x.lt q) e) (Nat.lt_irrefl _)
/-- every object of the heap is kept -/
theorem HOk.kept (x : HOk P w H h) (k : ∀ b u, h.get? b = some u → h'.get? b = some u) : HOk P w H h' := fun a o e =>
  (x a o e).stay (fun b u _ q => k b u q) (fun _ q => q) fun _ _ q => q
/-- a new object is laid and tracked -/
theorem HOk.laid (x : HOk P w H h) (k : ∀ b u, h.get? b = some u → h'.get? b = some u) (hp : h.objs.size ≤ a) (new : ObjOk P w (upd H a o) h' a o) : HOk P w (upd H a o) h' := fun b u e => by
  have hn := x.fresh hp
  by_cases hb : b = a
  · subst hb; rw [upd_same] at e; cases e; exact new
  · rw [upd_ne hb] at e
    exact (x b u e).stay (fun c v _ q => k c v q) (fun c q => by rw [upd_ne (ne_of_none q hn)]; exact q) fun c xs q => by rw [upd_ne (ne_of_none q hn)]; exact q
end

/-- what may be read as u: it is u, or a known u -/
def Rd (H : Hp) (a : Addr) (u : HO) : Prop := H a = some u ∨ ∃ o, H a = some (.frz o u)
theorem Rd.of {H : Hp} {a : Addr} {u : HO} (h : H a = some u) : Rd H a u := .inl h
theorem Rd.ok {P : Program} {w : World} {H : Hp} {h : Heap} {a : Addr} {u : HO} (r : Rd H a u) (x : HOk P w H h) : ObjOk P w H h a u := by
  rcases r with r | ⟨o, r⟩
  · exact x a u r
  · obtain ⟨_, q⟩ := x a _ r
    exact q
/-- what may be written -/
def Mut : Option HO → Prop
  | some (.lst _) => True
  | some (.dK _) => True
  | some (.dT _) => True
  | some (.set _ _) => True
  | some (.ins _ _ _) => True
  | some (.ext _) => True
  | _ => False
section
variable {P : Program} {w : World} {H : Hp} {h h' : Heap} {x e : Addr} {o' : HO}
/-- the object at e is changed: x itself, or the dict of the instance x -/
theorem HOk.write (ok : HOk P w H h) (mu : Mut (H x)) (he : e = x ∨ H e = some (.own x)) (k : ∀ b u, b ≠ e → h.get? b = some u → h'.get? b = some u) (heo : ∃ u, h'.get? e = some u)
    (new : ObjOk P w (upd H x o') h' x o') : HOk P w (upd H x o') h' := fun b u q => by
  have nown : ∀ c y, H c = some (.own y) → c ≠ x := fun c y r z => by subst z; rw [r] at mu; exact mu
  have ntup : ∀ c xs, H c = some (.tup xs) → c ≠ x := fun c xs r z => by subst z; rw [r] at mu; exact mu
  by_cases hb : b = x
  · subst hb; rw [upd_same] at q; cases q; exact new
  · rw [upd_ne hb] at q
    by_cases hbe : b = e
    · have q' : H b = some (.own x) := by
        rcases he with z | z
        · exact absurd (hbe.trans z) hb
        · rw [hbe]; exact z
      rw [q] at q'; cases q'
      obtain ⟨v, hv⟩ := heo
      exact ⟨v, by rw [hbe]; exact hv⟩
    · refine (ok b u q).stay (fun c v hc r => k c v ?_ r) (fun c r => by rw [upd_ne (nown c b r)]; exact r) fun c xs r => by rw [upd_ne (ntup c xs r)]; exact r
      rcases hc with rfl | hc
      · exact hbe
      · rintro rfl
        rcases he with z | z
        · exact nown c b hc z
        · rw [hc] at z; cases z; exact hb rfl
end

/-! ### kept unless tracked; of the frames at fs (the callers') the slots may change (an exception that passes writes there); of the records at ex (iterators) nothing is said -/
structure Un (fs ex : List Addr) (H H' : Hp) (h h' : Heap) : Prop where
  keep : ∀ b o, h.get? b = some o → H b = none → b ∉ fs → b ∉ ex → h'.get? b = some o
  slot : ∀ b o, h.get? b = some o → H b = none → b ∈ fs → b ∉ ex → ∃ sl, h'.get? b = some { o with slots := sl }
  free : ∀ b o, h.get? b = some o → H b = none → b ∉ ex → H' b = none
  there : ∀ b o, h.get? b = some o → b ∉ ex → ∃ o', h'.get? b = some o'
  tups : ∀ b xs, H b = some (.tup xs) → H' b = some (.tup xs)
  frzs : ∀ b o u, H b = some (.frz o u) → H' b = some (.frz o u)
  tbls : ∀ b ps, H b = some (.tbl ps) → ∃ more, H' b = some (.tbl (ps ++ more))
section
variable {fs fs' ex ex' : List Addr} {H H1 H2 : Hp} {h h1 h2 h' : Heap} {a x e : Addr} {o : HO}
theorem Un.any (u : Un fs ex H H1 h h1) {b : Addr} {ob : Obj} (q : h.get? b = some ob) (n : H b = none) (hx : b ∉ ex) : ∃ sl, h1.get? b = some { ob with slots := sl } := by
  by_cases hb : b ∈ fs
  · exact u.slot b ob q n hb hx
  · exact ⟨ob.slots, u.keep b ob q n hb hx⟩
theorem Un.trans (a : Un fs ex H H1 h h1) (b : Un fs ex H1 H2 h1 h2) : Un fs ex H H2 h h2 where
  keep := fun c ob q n hc hx => b.keep c ob (a.keep c ob q n hc hx) (a.free c ob q n hx) hc hx
  slot := fun c ob q n hc hx => by
    obtain ⟨sl, e1⟩ := a.slot c ob q n hc hx
    obtain ⟨sl', e2⟩ := b.slot c _ e1 (a.free c ob q n hx) hc hx
    exact ⟨sl', e2⟩
  free := fun c ob q n hx => by
    obtain ⟨o', e1⟩ := a.there c ob q hx
    exact b.free c o' e1 (a.free c ob q n hx) hx
  there := fun c ob q hx => by
    obtain ⟨o', e1⟩ := a.there c ob q hx
    exact b.there c o' e1 hx
  tups := fun c xs q => b.tups c xs (a.tups c xs q)
  frzs := fun c ob xs q => b.frzs c ob xs (a.frzs c ob xs q)
  tbls := fun c ps q => by
    obtain ⟨m1, e1⟩ := a.tbls c ps q
    obtain ⟨m2, e2⟩ := b.tbls c _ e1
    exact ⟨m1 ++ m2, by rw [e2, Array.append_assoc]⟩
theorem Un.kept (k : ∀ b u, h.get? b = some u → h'.get? b = some u) : Un fs ex H H h h' :=
  ⟨fun b ob q _ _ _ => k b ob q, fun b ob q _ _ _ => ⟨ob.slots, k b ob q⟩, fun _ _ _ n _ => n, fun b ob q _ => ⟨ob, k b ob q⟩, fun _ _ q => q, fun _ _ _ q => q, fun _ ps q => ⟨#[], by rw [q]; simp⟩⟩
theorem Un.refl : Un fs ex H H h h := Un.kept fun _ _ q => q
theorem Un.laid (k : ∀ b u, h.get? b = some u → h'.get? b = some u) (hp : h.objs.size ≤ a) (hn : H a = none) : Un fs ex H (upd H a o) h h' where
  keep := fun b u q _ _ _ => k b u q
  slot := fun b u q _ _ _ => ⟨u.slots, k b u q⟩
  free := fun b u q n _ => by rw [upd_ne (Nat.ne_of_lt (Nat.lt_of_lt_of_le (Heap.lt_size q) hp))]; exact n
  there := fun b u q _ => ⟨u, k b u q⟩
  tups := fun b xs q => by rw [upd_ne (ne_of_none q hn)]; exact q
  frzs := fun b u xs q => by rw [upd_ne (ne_of_none q hn)]; exact q
  tbls := fun b ps q => ⟨#[], by rw [upd_ne (ne_of_none q hn), q]; simp⟩
theorem Un.write (mu : Mut (H x)) (he : e = x ∨ H e = some (.own x)) (k : ∀ b u, b ≠ e → h.get? b = some u → h'.get? b = some u) (heo : ∃ u, h'.get? e = some u) : Un fs ex H (upd H x o) h h' := by
  have hx : ∀ b, H b = none → b ≠ x := fun b n z => by subst z; rw [n] at mu; exact mu
  have hb : ∀ b, H b = none → b ≠ e := fun b n z => by
    subst z
    rcases he with r | r
    · exact hx b n r
    · rw [n] at r; cases r
  have hm : ∀ b u, H b = some u → ¬ Mut (some u) → b ≠ x := fun b u q nm z => by subst z; rw [q] at mu; exact nm mu
  refine ⟨fun b u q n _ _ => k b u (hb b n) q, fun b u q n _ _ => ⟨u.slots, k b u (hb b n) q⟩, fun b u q n _ => by rw [upd_ne (hx b n)]; exact n, fun b u q _ => ?_,
    fun b xs q => by rw [upd_ne (hm b _ q fun z => z)]; exact q, fun b u xs q => by rw [upd_ne (hm b _ q fun z => z)]; exact q, fun b ps q => ⟨#[], by rw [upd_ne (hm b _ q fun z => z), q]; simp⟩⟩
  by_cases hbe : b = e
  · subst hbe; exact heo
  · exact ⟨u, k b u hbe q⟩
theorem Un.mono (u : Un fs ex H H1 h h1) (hs : ∀ b ∈ fs, b ∈ fs') (hx : ∀ b ∈ ex, b ∈ ex') : Un fs' ex' H H1 h h1 :=
  ⟨fun b ob q n hb he => u.keep b ob q n (fun z => hb (hs b z)) fun z => he (hx b z), fun _ _ q n _ he => u.any q n fun z => he (hx _ z), fun b ob q n he => u.free b ob q n fun z => he (hx b z), fun b ob q he => u.there b ob q fun z => he (hx b z), u.tups, u.frzs, u.tbls⟩
end

/-! ### the heap without what is tracked -/
def trk (h : Heap) (H : Hp) : List Addr := (List.range h.objs.size).filter fun a => (H a).isSome
def hidT (h : Heap) (H : Hp) : Heap := PySem.W.hideAll h (trk h H)
theorem hidT_size (h : Heap) (H : Hp) : (hidT h H).objs.size = h.objs.size := PySem.W.hideAll_size _ _
theorem hidT_get {h : Heap} {H : Hp} {b : Addr} {o : Obj} (e : h.get? b = some o) (n : H b = none) : (hidT h H).get? b = some o :=
  PySem.W.hideAll_get _ e fun hm => by
    have q : (H b).isSome = true := (List.mem_filter.mp hm).2
    rw [n] at q; simp at q
theorem of_hidT {h : Heap} {H : Hp} {b : Addr} {o : Obj} (e : (hidT h H).get? b = some o) : h.get? b = some o ∧ H b = none := by
  have e' : h.get? b = some o := PySem.W.of_hideAll (trk h H) e
  refine ⟨e', ?_⟩
  cases q : H b with
  | none => rfl
  | some x =>
    have hm : b ∈ trk h H := List.mem_filter.mpr ⟨List.mem_range.mpr (Heap.lt_size e'), by simp [q]⟩
    have z : (hidT h H).get? b = none := PySem.W.hideAll_none (trk h H) hm
    rw [z] at e; cases e

/-! ### OpenK's ledger, filled with every new object but one -/
def allNews (g h : Heap) (L : Addr) : List (Addr × Obj) := (List.range h.objs.size).filterMap fun a => if a = L ∨ (g.get? a).isSome = true then none else (h.get? a).map fun o => (a, o)
theorem mem_allNews {g h : Heap} {L a : Addr} {o : Obj} (h1 : a ≠ L) (h2 : g.get? a = none) (h3 : h.get? a = some o) : (a, o) ∈ allNews g h L :=
  List.mem_filterMap.mpr ⟨a, List.mem_range.mpr (Heap.lt_size h3), by simp [h1, h2, h3]⟩
theorem of_mem_allNews {g h : Heap} {L : Addr} {p : Addr × Obj} (hp : p ∈ allNews g h L) : p.1 ≠ L ∧ g.get? p.1 = none ∧ h.get? p.1 = some p.2 := by
  obtain ⟨b, _, e⟩ := List.mem_filterMap.mp hp
  split at e
  · cases e
  · rename_i hn
    cases q : h.get? b with
    | none => rw [q] at e; simp at e
    | some u =>
      rw [q] at e
      simp only [Option.map_some, Option.some.injEq] at e
      subst e
      refine ⟨fun z => hn (.inl z), ?_, q⟩
      show g.get? b = none
      cases r : g.get? b with
      | none => rfl
      | some v => exact (hn (.inr (by simp [r]))).elim
def rest (g h : Heap) (L d : Addr) : List (Addr × Obj) := (allNews g h L).filter fun p => decide (p.1 ≠ d)
theorem rest_ne {g h : Heap} {L d : Addr} : ∀ p ∈ rest g h L d, p.1 ≠ d := fun p hp => of_decide_eq_true (List.mem_filter.mp hp).2
theorem mem_rest {g h : Heap} {L d a : Addr} {o : Obj} (h1 : a ≠ L) (h2 : g.get? a = none) (h3 : h.get? a = some o) (h4 : a ≠ d) : (a, o) ∈ rest g h L d :=
  List.mem_filter.mpr ⟨mem_allNews h1 h2 h3, decide_eq_true h4⟩
theorem news_all {g h : Heap} {L : Addr} : News g L h (allNews g h L) := fun p hp => let ⟨a, b, c⟩ := of_mem_allNews hp; ⟨c, a, b⟩
theorem news_at {g h : Heap} {L d : Addr} {o : Obj} (h1 : d ≠ L) (h2 : g.get? d = none) (h3 : h.get? d = some o) : News g L h ((d, o) :: rest g h L d) := fun p hp => by
  rcases List.mem_cons.mp hp with rfl | hp
  · exact ⟨h3, h1, h2⟩
  · exact news_all p (List.mem_filter.mp hp).1
/-- behind a rule that changed d alone: all else but the frame is kept -/
theorem kept_of_news {g h h' : Heap} {L d : Addr} {m : Str → Option Value} (k : ∀ b o, g.get? b = some o → h.get? b = some o) (F : Fr g L h' m) (N : News g L h' (rest g h L d)) :
    ∀ b o, b ≠ L → b ≠ d → h.get? b = some o → h'.get? b = some o := fun b o h1 h2 e => by
  cases q : g.get? b with
  | some u =>
    have := k b u q
    rw [e] at this; cases this
    exact F.keep b _ q
  | none => exact (N (b, o) (mem_rest h1 q e h2)).1
end L2

namespace L2
open PySem PySem.Spec PyProof.Rows

/-- the module's facts, over the base: the heap at the law's entry without what is tracked there -/
structure Mod (K : PySem.W.Frag) (mg : Str → Option Value) (base : Heap) : Prop where
  kin : K.In base
  glob : base.Ns mainGlobals mg
  blt : ∃ mb, base.Ns builtinsNs mb ∧ ∀ x : Str, x ≠ "__name__" → mb x = bootBuiltins x
  nolimit : base.NoLimit

/-- the context: a def's body (or a comprehension's block) running. base: fixed through the whole law; s₀, H₀: the entry; outer: the frames whose slots others may change (a def's callers); stack: all frames that run;
   ex: iterators that were made ahead of the entry and are walked here (a comprehension's); fn: the names whose cells were made at the entry (a def: all; a comprehension's block: its own); calm: not within an except suite; pn: pins that every state bears; xe: what is wanted of an exception that leaves the code -/
structure Cx where
  prog : Program
  w : World
  K : PySem.W.Frag
  mg : Str → Option Value
  base : Heap
  A : Around
  N : List Str
  s₀ : Shared
  H₀ : Hp
  env : Env
  outer : List Env
  stack : List Env
  ex : List Addr
  fn : Str → Bool
  calm : Bool
  pn : List (Addr × Obj)
  xe : Value → Shared → Prop
/-- the callers' frames -/
def frs (l : List Env) : List Addr := l.filterMap (·.frame)
abbrev Cx.fs (X : Cx) : List Addr := frs X.outer

def Vis (sc : Scope) (x : Str) : Prop := sc.names.lookup x = some .local ∨ sc.names.lookup x = some .cell ∨ sc.names.lookup x = some .free
def Loc (sc : Scope) (x : Str) : Prop := sc.names.lookup x = some .local ∨ sc.names.lookup x = some .cell
def Look (env : Env) (h : Heap) (m : Str → Option Value) (x : Str) (u : Value) : Prop :=
  (env.kindOf x = some .local ∧ m x = some u) ∨ ((env.kindOf x = some .cell ∨ env.kindOf x = some .free) ∧ ∃ c, env.cells.lookup x = some c ∧ h.IsCell c (some u))

structure Cx.Ok (X : Cx) : Prop where
  mod : Mod X.K X.mg X.base
  kind : X.env.scope.kind = .function
  glob : X.env.globals = mainGlobals
  blt : X.env.builtins = builtinsNs
  above : X.s₀.heap.objs.size ≤ X.env.locals
  inj : ∀ x y c, X.env.cells.lookup x = some c → X.env.cells.lookup y = some c → x = y
  has : ∀ x, (X.env.kindOf x = some .cell ∨ X.env.kindOf x = some .free) → ∃ c, X.env.cells.lookup x = some c
  cab : ∀ x c, X.fn x = true → X.env.cells.lookup x = some c → X.s₀.heap.objs.size ≤ c
  hd : X.calm = true → X.A.handled = none
  frames : X.A.frames = some X.stack
  stk : X.stack = X.outer ∨ (X.stack = X.env :: X.outer ∧ X.env.frame = some X.env.locals)
  exf : ∀ b ∈ X.ex, b ≠ X.env.locals ∧ ∀ x c, X.env.cells.lookup x = some c → c ≠ b
  bs : ∀ b o, X.base.get? b = some o → X.s₀.heap.get? b = some o ∧ X.H₀ b = none
  bsz : X.base.objs.size ≤ X.s₀.heap.objs.size
  noex : ∀ b o, X.base.get? b = some o → b ∉ X.ex
  exfs : ∀ b ∈ X.ex, b ∉ X.fs
  funs : X.s₀.heap.FunFrames X.base X.outer
  frf : ∀ b ∈ X.fs, X.H₀ b = none

structure Inv (X : Cx) (pins : List (Addr × Obj)) (σ : List (Option V)) (H : Hp) (s : Shared) : Prop where
  ok : X.Ok
  os : s.os = X.s₀.os
  bare : AllBare s.gens
  base : Un X.fs X.ex X.H₀ H X.s₀.heap s.heap
  loc : ∃ m, s.heap.Ns X.env.locals m ∧ ∀ (i : Nat) (x : Str) (v : V), X.N[i]? = some x → σ[i]? = some (some v) → Vis X.env.scope x → ∃ u, RelV v u ∧ Look X.env s.heap m x u
  cell : ∀ x c, X.env.cells.lookup x = some c → ∃ v, s.heap.IsCell c v
  free : H X.env.locals = none
  freeC : ∀ x c, X.env.cells.lookup x = some c → H c = none
  pin : ∀ p ∈ X.pn ++ pins, s.heap.get? p.1 = some p.2 ∧ H p.1 = none ∧ p.1 ≠ X.env.locals ∧ p.1 ∉ X.fs ∧ ∀ v, p.2.data ≠ .cell v
  hok : HOk X.prog X.w H s.heap
  len : σ.length = X.N.length

section
variable {X : Cx} {pins : List (Addr × Obj)} {σ : List (Option V)} {H H' : Hp} {s : Shared} {h' : Heap}

theorem Cx.Ok.nofr (ok : X.Ok) {b : Addr} {o : Obj} (e : X.base.get? b = some o) : b ∉ X.fs := fun hb => by
  have := (ok.funs.mem hb).1
  rw [e] at this; cases this
theorem Inv.bs (I : Inv X pins σ H s) : ∀ b o, X.base.get? b = some o → s.heap.get? b = some o ∧ H b = none := fun b o e =>
  ⟨I.base.keep b o (I.ok.bs b o e).1 (I.ok.bs b o e).2 (I.ok.nofr e) (I.ok.noex b o e), I.base.free b o (I.ok.bs b o e).1 (I.ok.bs b o e).2 (I.ok.noex b o e)⟩
theorem Inv.bk (I : Inv X pins σ H s) : ∀ b o, X.base.get? b = some o → s.heap.get? b = some o := fun b o e => (I.bs b o e).1
theorem Inv.mod (I : Inv X pins σ H s) : Mod X.K X.mg X.base := I.ok.mod
theorem Inv.kIn (I : Inv X pins σ H s) : X.K.In s.heap := I.ok.mod.kin.keeps I.bk
theorem Inv.nolimit (I : Inv X pins σ H s) : s.heap.NoLimit := I.ok.mod.nolimit.keeps I.bk
/-- the frame over the base: for OpenK's rules (K.In X.base is I.mod.kin) -/
theorem Inv.fr (I : Inv X pins σ H s) : ∃ m, Fr X.base X.env.locals s.heap m :=
  let ⟨m, hn, _⟩ := I.loc
  ⟨m, hn, I.bk, Nat.le_trans I.ok.bsz I.ok.above⟩
theorem Inv.lt (I : Inv X pins σ H s) : X.env.locals < s.heap.objs.size := let ⟨_, hn, _⟩ := I.loc; hn.lt
theorem Inv.sz (I : Inv X pins σ H s) : X.s₀.heap.objs.size ≤ s.heap.objs.size := Nat.le_trans I.ok.above (Nat.le_of_lt I.lt)
theorem Inv.nofs (I : Inv X pins σ H s) {a : Addr} (h : s.heap.objs.size ≤ a) : a ∉ X.fs := fun hb => by
  obtain ⟨_, o, ho, _⟩ := I.ok.funs.mem hb
  exact absurd (Nat.lt_of_lt_of_le (Heap.lt_size ho) (Nat.le_trans I.sz h)) (Nat.lt_irrefl _)
theorem Inv.cne (I : Inv X pins σ H s) : ∀ x c, X.env.cells.lookup x = some c → c ≠ X.env.locals := fun x c e z => by
  obtain ⟨v, o, ho, hd⟩ := I.cell x c e
  obtain ⟨m, ⟨o', es, ep, ho', hd', _⟩, _⟩ := I.loc
  rw [z, ho'] at ho; cases ho; rw [hd'] at hd; cases hd
theorem Inv.funs (I : Inv X pins σ H s) : s.heap.FunFrames X.base X.outer := by
  have all : ∀ (l : List Env), (∀ b ∈ frs l, b ∈ X.fs) → X.s₀.heap.FunFrames X.base l → s.heap.FunFrames X.base l := by
    intro l
    induction l with
    | nil => intro _ _; trivial
    | cons env r ih =>
      intro hs hl
      obtain ⟨hk, ⟨L, o, hf, hn, ho, hd⟩, hr⟩ := hl
      have hL : L ∈ X.fs := hs L (by unfold frs; rw [List.filterMap_cons, hf]; exact List.mem_cons_self)
      obtain ⟨sl, e⟩ := I.base.slot L o ho (I.ok.frf L hL) hL fun z => I.ok.exfs L z hL
      exact ⟨hk, ⟨L, _, hf, hn, e, hd⟩, ih (fun b hb => hs b (by unfold frs; rw [List.filterMap_cons, hf]; exact List.mem_cons_of_mem _ hb)) hr⟩
  exact all X.outer (fun _ hb => hb) I.ok.funs

/-- the frames that run, for a call -/
theorem Inv.stack (I : Inv X pins σ H s) : s.heap.FunFrames X.base X.stack := by
  rcases I.ok.stk with e | ⟨e, hf⟩
  · rw [e]; exact I.funs
  · rw [e]
    obtain ⟨m, hn, _⟩ := I.loc
    refine .cons (by rw [I.ok.kind]; decide) hf hn ?_ I.funs
    exact Heap.get?_none_of_le (Nat.le_trans I.ok.bsz I.ok.above)
theorem Inv.stkSub (I : Inv X pins σ H s) : ∀ b ∈ frs X.stack, b ∈ X.env.locals :: X.fs := fun b hb => by
  rcases I.ok.stk with e | ⟨e, hf⟩
  · rw [e] at hb; exact List.mem_cons_of_mem _ hb
  · rw [e] at hb
    unfold frs at hb
    rw [List.filterMap_cons, hf] at hb
    exact hb
theorem Inv.stkFree (I : Inv X pins σ H s) : ∀ b ∈ frs X.stack, H b = none := fun b hb => by
  rcases List.mem_cons.mp (I.stkSub b hb) with e | hb
  · rw [e]; exact I.free
  · obtain ⟨_, o, ho, _⟩ := I.ok.funs.mem hb
    exact I.base.free b o ho (I.ok.frf b hb) fun z => I.ok.exfs b z hb

/-- THE STEP: the untracked objects but the frame and the records at ch are kept (the callers' frames up to slots), the frame's map is kept, the new abstract heap is held -/
theorem Inv.step {g' : Array GenState} {t' : Nat} {d' : Drawn} {ch : List Addr} (I : Inv X pins σ H s)
    (hch : ∀ b ∈ ch, (b ∈ X.ex ∨ X.s₀.heap.objs.size ≤ b) ∧ b ≠ X.env.locals ∧ (∀ x c, X.env.cells.lookup x = some c → c ≠ b) ∧ ∀ p ∈ X.pn ++ pins, p.1 ≠ b)
    (keep : ∀ b o, b ≠ X.env.locals → b ∉ X.fs → b ∉ ch → s.heap.get? b = some o → H b = none → h'.get? b = some o)
    (slot : ∀ b o, b ≠ X.env.locals → b ∈ X.fs → b ∉ ch → s.heap.get? b = some o → H b = none → ∃ sl, h'.get? b = some { o with slots := sl }) (free : ∀ b o, b ∉ ch → s.heap.get? b = some o → H b = none → H' b = none)
    (there : ∀ b o, b ∉ ch → s.heap.get? b = some o → ∃ o', h'.get? b = some o')
    (tups : ∀ b xs, H b = some (.tup xs) → H' b = some (.tup xs)) (frzs : ∀ b o u, H b = some (.frz o u) → H' b = some (.frz o u)) (tbls : ∀ b ps, H b = some (.tbl ps) → ∃ more, H' b = some (.tbl (ps ++ more)))
    (ns : ∀ m, s.heap.Ns X.env.locals m → h'.Ns X.env.locals m) (hok : HOk X.prog X.w H' h') (hg : AllBare g') :
    Inv X pins σ H' { s with heap := h', gens := g', drawn := d', toks := t' } := by
  have neL : ∀ b o, X.s₀.heap.get? b = some o → b ≠ X.env.locals := fun b o e => Nat.ne_of_lt (Nat.lt_of_lt_of_le (Heap.lt_size e) I.ok.above)
  have neC : ∀ b o, X.s₀.heap.get? b = some o → b ∉ X.ex → b ∉ ch := fun b o e hx hb => by
    rcases (hch b hb).1 with z | z
    · exact hx z
    · exact absurd (Nat.lt_of_lt_of_le (Heap.lt_size e) z) (Nat.lt_irrefl _)
  have cellK : ∀ x c, X.env.cells.lookup x = some c → ∀ v, s.heap.IsCell c v → h'.IsCell c v := fun x c e v ⟨o, ho, hd⟩ => by
    have nch : c ∉ ch := fun z => (hch c z).2.2.1 x c e rfl
    by_cases hc : c ∈ X.fs
    · obtain ⟨sl, q⟩ := slot c o (I.cne x c e) hc nch ho (I.freeC x c e)
      exact ⟨_, q, hd⟩
    · exact ⟨o, keep c o (I.cne x c e) hc nch ho (I.freeC x c e), hd⟩
  refine ⟨I.ok, I.os, hg, ⟨fun b o e n hb hx => ?_, fun b o e n hb hx => ?_, fun b o e n hx => ?_, fun b o e hx => ?_, fun b xs e => tups b xs (I.base.tups b xs e), fun b o xs e => frzs b o xs (I.base.frzs b o xs e), fun b ps e => ?_⟩, ?_, fun x c e => ?_, ?_, fun x c e => ?_, fun p hp => ?_, hok, I.len⟩
  · exact keep b o (neL b o e) hb (neC b o e hx) (I.base.keep b o e n hb hx) (I.base.free b o e n hx)
  · obtain ⟨sl, e1⟩ := I.base.slot b o e n hb hx
    obtain ⟨sl', e2⟩ := slot b _ (neL b o e) hb (neC b o e hx) e1 (I.base.free b o e n hx)
    exact ⟨sl', e2⟩
  · obtain ⟨o', e1⟩ := I.base.there b o e hx
    exact free b o' (neC b o e hx) e1 (I.base.free b o e n hx)
  · obtain ⟨o', e1⟩ := I.base.there b o e hx
    exact there b o' (neC b o e hx) e1
  · obtain ⟨m1, e1⟩ := I.base.tbls b ps e
    obtain ⟨m2, e2⟩ := tbls b _ e1
    exact ⟨m1 ++ m2, by rw [e2, Array.append_assoc]⟩
  · obtain ⟨m, hn, hl⟩ := I.loc
    refine ⟨m, ns m hn, fun i x v e1 e2 e3 => ?_⟩
    obtain ⟨u, r, l⟩ := hl i x v e1 e2 e3
    refine ⟨u, r, ?_⟩
    rcases l with l | ⟨k, c, e, z⟩
    · exact .inl l
    · exact .inr ⟨k, c, e, cellK x c e _ z⟩
  · obtain ⟨v, z⟩ := I.cell x c e
    exact ⟨v, cellK x c e v z⟩
  · obtain ⟨m, ⟨o, _, _, ho, _⟩, _⟩ := I.loc
    exact free _ o (fun z => (hch _ z).2.1 rfl) ho I.free
  · obtain ⟨v, o, ho, hd⟩ := I.cell x c e
    exact free c o (fun z => (hch c z).2.2.1 x c e rfl) ho (I.freeC x c e)
  · obtain ⟨e, n, ne, nf, d⟩ := I.pin p hp
    have nch : p.1 ∉ ch := fun z => (hch p.1 z).2.2.2 p hp rfl
    exact ⟨keep p.1 p.2 ne nf nch e n, free p.1 p.2 nch e n, ne, nf, d⟩
/-- .. where the frame's own object is kept too -/
theorem Inv.un {t' : Nat} (I : Inv X pins σ H s) (u : Un X.fs [] H H' s.heap h') (hok : HOk X.prog X.w H' h') : Inv X pins σ H' { s with heap := h', toks := t' } := by
  obtain ⟨m, ⟨o, es, ep, ho, r⟩, _⟩ := id I.loc
  obtain ⟨sl, hL⟩ := u.any ho I.free (by simp)
  exact I.step (g' := s.gens) (d' := s.drawn) (ch := []) (fun _ z => nomatch z) (fun b o _ hb _ e n => u.keep b o e n hb (by simp)) (fun b o _ hb _ e n => u.slot b o e n hb (by simp)) (fun b o _ e n => u.free b o e n (by simp)) (fun b o _ e => u.there b o e (by simp)) u.tups u.frzs u.tbls (fun m' hm => by
    obtain ⟨o', es', ep', ho', r'⟩ := hm
    rw [ho] at ho'; cases ho'
    exact ⟨_, es', ep', hL, r'⟩) hok I.bare
/-- behind a call (or a comprehension's block): the slots of this frame may have changed too, the records at ch may have turned -/
theorem Inv.call {g' : Array GenState} {t' : Nat} {d' : Drawn} {ch : List Addr} (I : Inv X pins σ H s) (u : Un (frs X.stack) ch H H' s.heap h') (hok : HOk X.prog X.w H' h') (hg : AllBare g')
    (hch : ∀ b ∈ ch, (b ∈ X.ex ∨ X.s₀.heap.objs.size ≤ b) ∧ b ≠ X.env.locals ∧ (∀ x c, X.env.cells.lookup x = some c → c ≠ b) ∧ ∀ p ∈ X.pn ++ pins, p.1 ≠ b) :
    Inv X pins σ H' { s with heap := h', gens := g', drawn := d', toks := t' } := by
  obtain ⟨m, ⟨o, es, ep, ho, r⟩, _⟩ := id I.loc
  obtain ⟨sl, hL⟩ := u.any ho I.free fun z => (hch _ z).2.1 rfl
  exact I.step (ch := ch) hch (fun b o hL hb hc e n => u.keep b o e n (fun z => (List.mem_cons.mp (I.stkSub b z)).elim hL hb) hc) (fun b o _ _ hc e n => u.any e n hc) (fun b o hc e n => u.free b o e n hc) (fun b o hc e => u.there b o e hc) u.tups u.frzs u.tbls (fun m' hm => by
    obtain ⟨o', es', ep', ho', r'⟩ := hm
    rw [ho] at ho'; cases ho'
    exact ⟨_, es', ep', hL, r'⟩) hok hg
/-- an untracked record of ours (an iterator) has turned -/
theorem Inv.turned {t' : Nat} {it : Addr} (I : Inv X pins σ H s) (k : ∀ b o, b ≠ it → s.heap.get? b = some o → h'.get? b = some o) (hn : H it = none) (hL : it ≠ X.env.locals)
    (h1 : it ∈ X.ex ∨ X.s₀.heap.objs.size ≤ it) (h2 : ∀ x c, X.env.cells.lookup x = some c → c ≠ it) (h3 : ∀ p ∈ X.pn ++ pins, p.1 ≠ it) : Inv X pins σ H { s with heap := h', toks := t' } := by
  have nit : ∀ b u, H b = some u → b ≠ it := fun b u e z => by rw [z, hn] at e; cases e
  refine I.step (g' := s.gens) (d' := s.drawn) (ch := [it]) (fun b hb => ?_) (fun b o _ _ hc e _ => k b o (fun z => hc (by simp [z])) e) (fun b o _ _ hc e _ => ⟨o.slots, k b o (fun z => hc (by simp [z])) e⟩) (fun _ _ _ _ n => n)
    (fun b o hc e => ⟨o, k b o (fun z => hc (by simp [z])) e⟩) (fun _ _ e => e) (fun _ _ _ e => e) (fun b ps e => ⟨#[], by rw [e]; simp⟩) (fun m hm => ?_) (fun b u e => ?_) I.bare
  · have e : b = it := by simpa using hb
    subst e
    exact ⟨h1, hL, h2, h3⟩
  · obtain ⟨o, es, ep, ho, r⟩ := hm
    exact ⟨o, es, ep, k _ o (Ne.symm hL) ho, r⟩
  · refine (I.hok b u e).stay (fun c v hc q => k c v ?_ q) (fun _ q => q) fun _ _ q => q
    rcases hc with z | z
    · rw [z]; exact nit b u e
    · exact nit c _ z
theorem Inv.tok (I : Inv X pins σ H s) (t : Nat) : Inv X pins σ H { s with toks := t } := I.un (h' := s.heap) (t' := t) Un.refl I.hok
/-- all objects kept -/
theorem Inv.kept {t' : Nat} (I : Inv X pins σ H s) (k : ∀ b u, s.heap.get? b = some u → h'.get? b = some u) : Inv X pins σ H { s with heap := h', toks := t' } := I.un (Un.kept k) (I.hok.kept k)
/-- a new object laid and tracked -/
theorem Inv.laid {a : Addr} {o : HO} {t' : Nat} (I : Inv X pins σ H s) (k : ∀ b u, s.heap.get? b = some u → h'.get? b = some u) (hp : s.heap.objs.size ≤ a) (new : ObjOk X.prog X.w (upd H a o) h' a o) :
    Inv X pins σ (upd H a o) { s with heap := h', toks := t' } := I.un (Un.laid k hp (I.hok.fresh hp)) (I.hok.laid k hp new)
/-- an object written -/
theorem Inv.write {x e : Addr} {o : HO} {t' : Nat} (I : Inv X pins σ H s) (mu : Mut (H x)) (he : e = x ∨ H e = some (.own x)) (k : ∀ b u, b ≠ e → s.heap.get? b = some u → h'.get? b = some u) (heo : ∃ u, h'.get? e = some u)
    (new : ObjOk X.prog X.w (upd H x o) h' x o) : Inv X pins σ (upd H x o) { s with heap := h', toks := t' } := I.un (Un.write mu he k heo) (I.hok.write mu he k heo new)
/-- forgetting slots, pins -/
theorem Inv.weak {σ' : List (Option V)} (I : Inv X pins σ H s) (hl : σ'.length = σ.length) (w : ∀ (i : Nat) v, σ'[i]? = some (some v) → σ[i]? = some (some v)) : Inv X pins σ' H s :=
  ⟨I.ok, I.os, I.bare, I.base, let ⟨m, hn, hl'⟩ := I.loc; ⟨m, hn, fun i x v e1 e2 e3 => hl' i x v e1 (w i v e2) e3⟩, I.cell, I.free, I.freeC, I.pin, I.hok, hl.trans I.len⟩
theorem Inv.pins_of {pins' : List (Addr × Obj)} (I : Inv X pins σ H s) (h : ∀ p ∈ pins', s.heap.get? p.1 = some p.2 ∧ H p.1 = none ∧ p.1 ≠ X.env.locals ∧ p.1 ∉ X.fs ∧ ∀ v, p.2.data ≠ .cell v) : Inv X pins' σ H s :=
  ⟨I.ok, I.os, I.bare, I.base, I.loc, I.cell, I.free, I.freeC, fun p hp => (List.mem_append.mp hp).elim (fun z => I.pin p (List.mem_append_left _ z)) (h p), I.hok, I.len⟩

theorem nodup_ix {N : List Str} (hN : N.Nodup) {i j : Nat} {x : Str} (a : N[i]? = some x) (b : N[j]? = some x) : i = j := by
  obtain ⟨h1, e1⟩ := List.getElem?_eq_some_iff.mp a
  obtain ⟨h2, e2⟩ := List.getElem?_eq_some_iff.mp b
  exact (List.getElem_inj hN).mp (e1.trans e2.symm)

/-- a name is stored; what changed -/
theorem store_ok2 {M : Model} {A : Around} {E : Value → Shared → Prop} {i : Nat} {x : Str} {v : V} {u : Value} {Q : Unit → Shared → Prop} (I : Inv X pins σ H s) (hN : X.N.Nodup) (hi : X.N[i]? = some x) (hx : Loc X.env.scope x) (r : RelV v u)
    (h : ∀ s', Inv X pins (σ.set i (some v)) H s' → (∃ a, Heap.SameBut a s.heap s'.heap ∧ (a = X.env.locals ∨ X.env.cells.lookup x = some a)) → Q () s') (hf : X.fn x = true ∨ X.env.scope.names.lookup x = some .local := by first | exact .inl rfl | exact .inr rfl | assumption) : wpAny M A (storeName X.env x u) Q E s := by
  obtain ⟨m, hn, hl⟩ := id I.loc
  have hcls : (X.env.scope.kind == .class || (X.env.scope.kind == .module && X.env.locals != X.env.globals)) = false := by rw [I.ok.kind]; rfl
  have hiσ : i < σ.length := by rw [I.len]; exact (List.getElem?_eq_some_iff.mp hi).1
  have cne := I.cne
  have tracked : ∀ {a : Addr} {h' : Heap}, (∃ o, s.heap.get? a = some o ∧ H a = none) → Heap.SameBut a s.heap h' → HOk X.prog X.w H h' := fun {a h'} ha hs b ob e => by
    obtain ⟨_, _, hfree⟩ := ha
    refine (I.hok b ob e).stay (fun c w' hc q => (hs.2 c ?_).trans q) (fun _ q => q) fun _ _ q => q
    rintro rfl
    rcases hc with rfl | hc
    · rw [hfree] at e; cases e
    · rw [hfree] at hc; cases hc
  rcases hx with hk | hk
  · refine wpAny_storeName_local hk hn (fun h' hn' hs => ?_) hcls
    obtain ⟨oL, _, _, hoL, _⟩ := id hn
    refine h _ ⟨I.ok, I.os, I.bare, ⟨fun b o e n hb hx => ?_, fun b o e n hb hx => ?_, I.base.free, fun b o e hx => ?_, I.base.tups, I.base.frzs, I.base.tbls⟩, ⟨_, hn', fun j y v' e1 e2 e3 => ?_⟩, fun y c e => ?_, I.free, I.freeC, fun p hp => ?_, tracked ⟨oL, hoL, I.free⟩ hs, by simpa using I.len⟩ ⟨_, hs, .inl rfl⟩
    · exact (hs.2 b (Nat.ne_of_lt (Nat.lt_of_lt_of_le (Heap.lt_size e) I.ok.above))).trans (I.base.keep b o e n hb hx)
    · obtain ⟨sl, e1⟩ := I.base.slot b o e n hb hx
      exact ⟨sl, (hs.2 b (Nat.ne_of_lt (Nat.lt_of_lt_of_le (Heap.lt_size e) I.ok.above))).trans e1⟩
    · obtain ⟨o', e1⟩ := I.base.there b o e hx
      exact ⟨o', (hs.2 b (Nat.ne_of_lt (Nat.lt_of_lt_of_le (Heap.lt_size e) I.ok.above))).trans e1⟩
    · by_cases hj : j = i
      · subst hj
        rw [hi] at e1; cases e1
        rw [List.getElem?_set_self hiσ] at e2
        cases e2
        exact ⟨u, r, .inl ⟨hk, by simp⟩⟩
      · rw [List.getElem?_set_ne (Ne.symm hj)] at e2
        obtain ⟨u', r', q⟩ := hl j y v' e1 e2 e3
        refine ⟨u', r', ?_⟩
        rcases q with ⟨k, e⟩ | ⟨k, c, e, z⟩
        · refine .inl ⟨k, ?_⟩
          have : y ≠ x := fun e => hj (nodup_ix hN e1 (e ▸ hi))
          simp [this, e]
        · exact .inr ⟨k, c, e, z.sameBut hs (cne y c e)⟩
    · obtain ⟨w', z⟩ := I.cell y c e
      exact ⟨w', z.sameBut hs (cne y c e)⟩
    · obtain ⟨e, n, ne, nf, d⟩ := I.pin p hp
      exact ⟨(hs.2 p.1 ne).trans e, n, ne, nf, d⟩
  · have hfn : X.fn x = true := by
      rcases hf with z | z
      · exact z
      · rw [z] at hk; cases hk
    obtain ⟨c, hc⟩ := I.ok.has x (.inl hk)
    obtain ⟨w', z⟩ := I.cell x c hc
    refine wpAny_storeName_cell I.ok.kind hk hc z (fun h' hc' hs => ?_)
    obtain ⟨oc, hoc, hocd⟩ := id z
    refine h { s with heap := h' } ⟨I.ok, I.os, I.bare, ⟨fun b o e n hb hx => ?_, fun b o e n hb hx => ?_, I.base.free, fun b o e hx => ?_, I.base.tups, I.base.frzs, I.base.tbls⟩, ⟨m, hn.sameBut hs (Ne.symm (cne x c hc)), fun j y v' e1 e2 e3 => ?_⟩, fun y c' e => ?_, I.free, I.freeC, fun p hp => ?_, tracked ⟨oc, hoc, I.freeC x c hc⟩ hs, by simpa using I.len⟩ ⟨c, hs, .inr hc⟩
    · exact (hs.2 b (Nat.ne_of_lt (Nat.lt_of_lt_of_le (Heap.lt_size e) (I.ok.cab x c hfn hc)))).trans (I.base.keep b o e n hb hx)
    · obtain ⟨sl, e1⟩ := I.base.slot b o e n hb hx
      exact ⟨sl, (hs.2 b (Nat.ne_of_lt (Nat.lt_of_lt_of_le (Heap.lt_size e) (I.ok.cab x c hfn hc)))).trans e1⟩
    · obtain ⟨o', e1⟩ := I.base.there b o e hx
      exact ⟨o', (hs.2 b (Nat.ne_of_lt (Nat.lt_of_lt_of_le (Heap.lt_size e) (I.ok.cab x c hfn hc)))).trans e1⟩
    · by_cases hj : j = i
      · subst hj
        rw [hi] at e1; cases e1
        rw [List.getElem?_set_self hiσ] at e2
        cases e2
        exact ⟨u, r, .inr ⟨.inl hk, c, hc, hc'⟩⟩
      · rw [List.getElem?_set_ne (Ne.symm hj)] at e2
        obtain ⟨u', r', q⟩ := hl j y v' e1 e2 e3
        refine ⟨u', r', ?_⟩
        rcases q with q | ⟨k, c', e, z'⟩
        · exact .inl q
        · refine .inr ⟨k, c', e, z'.sameBut hs ?_⟩
          rintro rfl
          exact hj (nodup_ix hN e1 (I.ok.inj _ _ _ e hc ▸ hi))
    · by_cases hcc : c' = c
      · subst hcc; exact ⟨_, hc'⟩
      · obtain ⟨w2, z2⟩ := I.cell y c' e
        exact ⟨w2, z2.sameBut hs hcc⟩
    · obtain ⟨e, n, ne, nf, d⟩ := I.pin p hp
      refine ⟨(hs.2 p.1 ?_).trans e, n, ne, nf, d⟩
      intro q
      rw [q, hoc] at e
      have q' : oc = p.2 := Option.some.inj e
      exact d w' (by rw [← q']; exact hocd)
theorem store_ok {M : Model} {A : Around} {E : Value → Shared → Prop} {i : Nat} {x : Str} {v : V} {u : Value} {Q : Unit → Shared → Prop} (I : Inv X pins σ H s) (hN : X.N.Nodup) (hi : X.N[i]? = some x) (hx : Loc X.env.scope x) (r : RelV v u)
    (h : ∀ s', Inv X pins (σ.set i (some v)) H s' → Q () s') (hf : X.fn x = true ∨ X.env.scope.names.lookup x = some .local := by first | exact .inl rfl | exact .inr rfl | assumption) : wpAny M A (storeName X.env x u) Q E s :=
  store_ok2 I hN hi hx r (fun s' I' _ => h s' I') hf
/-- behind a call or a block, the state as it is -/
theorem Inv.call' {s' : Shared} {ch : List Addr} (I : Inv X pins σ H s) (ho : s'.os = s.os) (u : Un (frs X.stack) ch H H' s.heap s'.heap) (hok : HOk X.prog X.w H' s'.heap) (hg : AllBare s'.gens)
    (hch : ∀ b ∈ ch, (b ∈ X.ex ∨ X.s₀.heap.objs.size ≤ b) ∧ b ≠ X.env.locals ∧ (∀ x c, X.env.cells.lookup x = some c → c ≠ b) ∧ ∀ p ∈ X.pn ++ pins, p.1 ≠ b) : Inv X pins σ H' s' := by
  obtain ⟨h', g', d', t', o'⟩ := s'
  have e : o' = s.os := ho
  subst e
  exact I.call (g' := g') (t' := t') (d' := d') u hok hg hch
end

/-! ### the judgements -/
/-- an exception: its class, its own dict's address (where it has one), the abstract heap behind it -/
abbrev XK := Value → Option Addr → Hp → Prop
abbrev St := List (Option V)
abbrev VK := V → Hp → Prop
/-- an expression's reading; a test's; an argument list's -/
abbrev TE := St → Hp → VK → Prop
abbrev TT := St → Hp → (Bool → Hp → Prop) → Prop
abbrev TA := St → Hp → (List V → Hp → Prop) → Prop
/-- what is wanted behind a statement -/
structure Ends where
  nx : St → Hp → Prop
  rt : VK
  bk : St → Hp → Prop := fun _ _ => False
  ct : St → Hp → Prop := fun _ _ => False
abbrev TS := Ends → St → Hp → Prop

def EP (X : Cx) (pins : List (Addr × Obj)) (σ : St) (Q : VK) (u : Value) (s' : Shared) : Prop := ∃ v H', Inv X pins σ H' s' ∧ RelV v u ∧ Q v H'
def TP (X : Cx) (pins : List (Addr × Obj)) (σ : St) (Q : Bool → Hp → Prop) (b : Bool) (s' : Shared) : Prop := ∃ H', Inv X pins σ H' s' ∧ Q b H'
def AP (X : Cx) (pins : List (Addr × Obj)) (σ : St) (Q : List V → Hp → Prop) (us : List Value) (s' : Shared) : Prop := ∃ vs H', Inv X pins σ H' s' ∧ Vals vs us ∧ Q vs H'
def SP (X : Cx) (pins : List (Addr × Obj)) (D : Ends) (f : Flow) (s' : Shared) : Prop :=
  match f with
  | .next => ∃ σ' H', Inv X pins σ' H' s' ∧ D.nx σ' H'
  | .brk => ∃ σ' H', Inv X pins σ' H' s' ∧ D.bk σ' H'
  | .cont => ∃ σ' H', Inv X pins σ' H' s' ∧ D.ct σ' H'
  | .ret u => ∃ v σ' H', Inv X pins σ' H' s' ∧ RelV v u ∧ D.rt v H'

def PE (X : Cx) (e : Expr) (t : TE) : Prop :=
  ∀ (pins : List (Addr × Obj)) (s : Shared) (σ : St) (H : Hp) (Q : VK), Inv X pins σ H s → t σ H Q → wpAny (model X.prog X.w) X.A (eval e X.env) (EP X pins σ Q) X.xe s
def PT (X : Cx) (e : Expr) (t : TT) : Prop :=
  ∀ (pins : List (Addr × Obj)) (s : Shared) (σ : St) (H : Hp) (Q : Bool → Hp → Prop), Inv X pins σ H s → t σ H Q → wpAny (model X.prog X.w) X.A (isTrue e X.env (eval e X.env)) (TP X pins σ Q) X.xe s
/-- a test whatever its 'whole' is (and, or) -/
def PW (X : Cx) (e : Expr) (t : TT) : Prop :=
  ∀ (whole : Sem Value) (pins : List (Addr × Obj)) (s : Shared) (σ : St) (H : Hp) (Q : Bool → Hp → Prop), Inv X pins σ H s → t σ H Q → wpAny (model X.prog X.w) X.A (isTrue e X.env whole) (TP X pins σ Q) X.xe s
theorem PW.pt {X : Cx} {e : Expr} {t : TT} (h : PW X e t) : PT X e t := h _
/-- an argument list (no star), from the left -/
def PA (X : Cx) (es : List Expr) (t : TA) : Prop :=
  ∀ (pos : Pos) (pins : List (Addr × Obj)) (s : Shared) (σ : St) (H : Hp) (Q : List V → Hp → Prop), Inv X pins σ H s → t σ H Q → wpAny (model X.prog X.w) X.A (spliced (backTo pos (starEach es X.env))) (AP X pins σ Q) X.xe s
def PS (X : Cx) (st : Stmt) (t : TS) : Prop :=
  ∀ (pins : List (Addr × Obj)) (s : Shared) (σ : St) (H : Hp) (D : Ends), Inv X pins σ H s → t D σ H → wpAny (model X.prog X.w) X.A (exec st X.env) (SP X pins D) X.xe s
def PSs (X : Cx) (st : List Stmt) (t : TS) : Prop :=
  ∀ (pins : List (Addr × Obj)) (s : Shared) (σ : St) (H : Hp) (D : Ends), Inv X pins σ H s → t D σ H → wpAny (model X.prog X.w) X.A (execs st X.env) (SP X pins D) X.xe s
/-- weaken the end -/
theorem thn {α : Type} {t : Sem α} {Q Q' : α → Shared → Prop} {M : Model} {A : Around} {E : Value → Shared → Prop} {s : Shared} (h : wpAny M A t Q E s) (hQ : ∀ a s, Q a s → Q' a s) : wpAny M A t Q' E s := wpAny_mono h hQ fun _ _ x => x
end L2

namespace L2
open PySem PySem.Spec PyProof.Rows
section
variable {X : Cx}

/-- two expressions in a row -/
theorem bin {a b : Expr} {ta tb : TE} (ha : PE X a ta) (hb : PE X b tb) {pins : List (Addr × Obj)} {s : Shared} {σ : St} {H : Hp} {R : V → V → Hp → Prop} (I : Inv X pins σ H s) (h : ta σ H fun x H1 => tb σ H1 fun y H2 => R x y H2)
    {α : Type} {Q : α → Shared → Prop} {f : Value → Value → Sem α}
    (hf : ∀ v u s2 x y H2, Inv X pins σ H2 s2 → RelV x v → RelV y u → R x y H2 → wpAny (model X.prog X.w) X.A (f v u) Q X.xe s2) :
    wpAny (model X.prog X.w) X.A (eval a X.env) (fun v s₁ => wpAny (model X.prog X.w) X.A (eval b X.env) (fun u s₂ => wpAny (model X.prog X.w) X.A (f v u) Q X.xe s₂) X.xe s₁) X.xe s := by
  refine thn (ha pins s σ H _ I h) fun v s1 ⟨x, H1, I1, r1, q1⟩ => ?_
  refine thn (hb pins s1 σ H1 _ I1 q1) fun u s2 ⟨y, H2, I2, r2, q2⟩ => ?_
  exact hf v u s2 x y H2 I2 r1 r2 q2

/-! ### names and constants -/
def tVar (i : Nat) : TE := fun σ H Q => ∃ v, σ[i]? = some (some v) ∧ Q v H
def tC (v : V) : TE := fun _ H Q => Q v H
theorem pe_var {i : Nat} {x : Str} {pos : Pos} (hN : X.N[i]? = some x) (hv : Vis X.env.scope x) (hd : (x == ("__debug__" : Str)) = false := by decide) (hcd : (x == ("__classdict__" : Str)) = false := by decide) : PE X (.Name x pos) (tVar i) := by
  intro pins s σ H Q I h
  obtain ⟨v, e, h⟩ := h
  obtain ⟨m, hn, hl⟩ := I.loc
  obtain ⟨u, r, l⟩ := hl i x v hN e hv
  have fin : EP X pins σ Q u s := ⟨v, H, I, r, h⟩
  rcases l with ⟨hk, hm⟩ | ⟨hk, c, hc, hcell⟩
  · exact wpAny_Name (wpAny_loadName_local I.ok.kind hk hn hm fin) hd
  · rcases hk with hk | hk
    · exact wpAny_Name (wpAny_loadName_cell I.ok.kind hk hc hcell fin) hd
    · exact wpAny_Name (wpAny_loadName_free I.ok.kind hk hc hcell fin hcd) hd
theorem pe_int {i j pos} : PE X (.Constant (.int i) j pos) (tC (.int i)) := fun _ _ _ H _ I h => wpAny_Constant_int ⟨.int i, H, I.tok _, ⟨_, rfl⟩, h⟩
theorem pe_bl {b j pos} : PE X (.Constant (.bool b) j pos) (tC (.bl b)) := fun _ _ _ H _ I h => Constant_bool ⟨.bl b, H, I, rfl, h⟩
theorem pe_non {j pos} : PE X (.Constant .none j pos) (tC .non) := fun _ _ _ H _ I h => Constant_none ⟨.non, H, I, rfl, h⟩
theorem pe_str {x j pos} : PE X (.Constant (.str x) j pos) (tC (.str x)) := fun _ _ _ H _ I h => Calls.Constant_str ⟨.str x, H, I.tok _, ⟨_, rfl⟩, h⟩

/-- a global name of the def -/
def Gl (X : Cx) (x : Str) : Prop := X.env.kindOf x = some .globalImplicit
theorem ld_glob {E : Value → Shared → Prop} {pins : List (Addr × Obj)} {s : Shared} {σ : St} {H : Hp} {x : Str} {u : Value} {pos : Pos} {Q : Value → Shared → Prop} (I : Inv X pins σ H s) (hg : Gl X x) (hm : X.mg x = some u) (h : Q u s)
    (hd : (x == ("__debug__" : Str)) = false := by decide) : wpAny (model X.prog X.w) X.A (eval (.Name x pos) X.env) Q E s :=
  Calls.Name_function_global I.ok.kind hg (Calls.loadGlobal_global (by rw [I.ok.glob]; exact I.mod.glob.keeps I.bk) hm h) hd
theorem ld_blt {E : Value → Shared → Prop} {pins : List (Addr × Obj)} {s : Shared} {σ : St} {H : Hp} {x : Str} {u : Value} {pos : Pos} {Q : Value → Shared → Prop} (I : Inv X pins σ H s) (hg : Gl X x) (hm : X.mg x = none) (hv : bootBuiltins x = some u) (h : Q u s)
    (hn : x ≠ "__name__" := by decide) (hd : (x == ("__debug__" : Str)) = false := by decide) : wpAny (model X.prog X.w) X.A (eval (.Name x pos) X.env) Q E s := by
  obtain ⟨mb, h1, h2⟩ := I.mod.blt
  exact Calls.Name_function_global I.ok.kind hg (Calls.loadGlobal_builtin (by rw [I.ok.glob]; exact I.mod.glob.keeps I.bk) hm (by rw [I.ok.blt]; exact h1.keeps I.bk) ((h2 x hn).trans hv) h) hd
/-- a module's constant, a class, a function, as a value -/
theorem pe_glob {x : Str} {v : V} {u : Value} {pos : Pos} (hg : Gl X x) (hm : X.mg x = some u) (r : RelV v u) (hd : (x == ("__debug__" : Str)) = false := by decide) : PE X (.Name x pos) (tC v) :=
  fun _ _ _ H _ I h => ld_glob I hg hm ⟨v, H, I, r, h⟩ hd
theorem pe_bltn {x : Str} {v : V} {u : Value} {pos : Pos} (hg : Gl X x) (hm : X.mg x = none) (hv : bootBuiltins x = some u) (r : RelV v u) (hn : x ≠ "__name__" := by decide) (hd : (x == ("__debug__" : Str)) = false := by decide) : PE X (.Name x pos) (tC v) :=
  fun _ _ _ H _ I h => ld_blt I hg hm hv ⟨v, H, I, r, h⟩ hn hd

/-! ### arithmetic -/
/-- two ints -/
def t2I (ta tb : TE) (k : Int → Int → Hp → Prop) : St → Hp → Prop := fun σ H => ta σ H fun x H1 => tb σ H1 fun y H2 => ∃ i j, x = .int i ∧ y = .int j ∧ k i j H2
def tAdd (ta tb : TE) : TE := fun σ H Q => t2I ta tb (fun i j H2 => Q (.int (i + j)) H2) σ H
def tSub (ta tb : TE) : TE := fun σ H Q => t2I ta tb (fun i j H2 => Q (.int (i - j)) H2) σ H
/-- the left factor below 2^64 -/
def tMul (ta tb : TE) : TE := fun σ H Q => t2I ta tb (fun i j H2 => (-(2 ^ 64) < i ∧ i < 2 ^ 64) ∧ Q (.int (i * j)) H2) σ H
variable {a b : Expr} {ta tb : TE} {pos : Pos}
theorem pe_add (ha : PE X a ta) (hb : PE X b tb) : PE X (.BinOp a .Add b pos) (tAdd ta tb) := by
  intro pins s σ H Q I h
  refine wpAny_BinOp (bin ha hb I h fun v u s2 x y H2 I2 rx ry q => ?_)
  obtain ⟨i, j, rfl, rfl, q⟩ := q
  obtain ⟨t, rfl⟩ := rx
  obtain ⟨t', rfl⟩ := ry
  exact add_int ⟨.int _, H2, I2.tok _, ⟨_, rfl⟩, q⟩
theorem pe_sub (ha : PE X a ta) (hb : PE X b tb) : PE X (.BinOp a .Sub b pos) (tSub ta tb) := by
  intro pins s σ H Q I h
  refine wpAny_BinOp (bin ha hb I h fun v u s2 x y H2 I2 rx ry q => ?_)
  obtain ⟨i, j, rfl, rfl, q⟩ := q
  obtain ⟨t, rfl⟩ := rx
  obtain ⟨t', rfl⟩ := ry
  exact sub_int ⟨.int _, H2, I2.tok _, ⟨_, rfl⟩, q⟩
theorem pe_mul (ha : PE X a ta) (hb : PE X b tb) : PE X (.BinOp a .Mult b pos) (tMul ta tb) := by
  intro pins s σ H Q I h
  refine wpAny_BinOp (bin ha hb I h fun v u s2 x y H2 I2 rx ry q => ?_)
  obtain ⟨i, j, rfl, rfl, ⟨q1, q2⟩, q⟩ := q
  obtain ⟨t, rfl⟩ := rx
  obtain ⟨t', rfl⟩ := ry
  exact mul_int ⟨.int _, H2, I2.tok _, ⟨_, rfl⟩, q⟩ (.of_left (intBits_le_64 q1 q2))

/-! ### comparisons -/
def PC (X : Cx) (op : CmpOp) (a b : Expr) (t : TE) : Prop :=
  ∀ (pins : List (Addr × Obj)) (s : Shared) (σ : St) (H : Hp) (Q : VK), Inv X pins σ H s → t σ H Q →
    wpAny (model X.prog X.w) X.A (eval a X.env) (fun v s₁ => wpAny (model X.prog X.w) X.A (eval b X.env) (fun u s₂ => wpAny (model X.prog X.w) X.A (compareOp op v u) (EP X pins σ Q) X.xe s₂) X.xe s₁) X.xe s
theorem nobehind (b : Expr) {op : CmpOp} (h : op ≠ .In) (h2 : op ≠ .NotIn) : behindInMarks op b = false := by
  have e1 : (op == CmpOp.In) = false := by cases op <;> first | rfl | exact absurd rfl h
  have e2 : (op == CmpOp.NotIn) = false := by cases op <;> first | rfl | exact absurd rfl h2
  cases b <;> simp [behindInMarks, e1, e2]
def tCmp (p : Int → Int → Bool) (ta tb : TE) : TE := fun σ H Q => t2I ta tb (fun i j H2 => Q (.bl (p i j)) H2) σ H
abbrev tLt : TE → TE → TE := tCmp fun i j => decide (i < j)
abbrev tLe : TE → TE → TE := tCmp fun i j => decide (i ≤ j)
abbrev tGt : TE → TE → TE := tCmp fun i j => decide (j < i)
abbrev tGe : TE → TE → TE := tCmp fun i j => decide (j ≤ i)
abbrev tEqI : TE → TE → TE := tCmp fun i j => decide (i = j)
abbrev tNeI : TE → TE → TE := tCmp fun i j => !decide (i = j)
/-- a comparison of two ints, by its rule -/
theorem pc_int {op : CmpOp} {p : Int → Int → Bool} (ha : PE X a ta) (hb : PE X b tb)
    (rule : ∀ (i j : Int) (t u : Tok) (Q : Value → Shared → Prop) (s : Shared), Q (.bool (p i j)) s → wpAny (model X.prog X.w) X.A (compareOp op (.int i t) (.int j u)) Q X.xe s) : PC X op a b (tCmp p ta tb) := by
  intro pins s σ H Q I h
  refine bin ha hb I h fun v u s2 x y H2 I2 rx ry q => ?_
  obtain ⟨i, j, rfl, rfl, q⟩ := q
  obtain ⟨t, rfl⟩ := rx
  obtain ⟨t', rfl⟩ := ry
  exact rule i j t t' _ s2 ⟨.bl _, H2, I2, rfl, q⟩
theorem pc_lt (ha : PE X a ta) (hb : PE X b tb) : PC X .Lt a b (tLt ta tb) := pc_int ha hb fun _ _ _ _ _ _ h => lt_int h
theorem pc_le (ha : PE X a ta) (hb : PE X b tb) : PC X .LtE a b (tLe ta tb) := pc_int ha hb fun _ _ _ _ _ _ h => le_int h
theorem pc_gt (ha : PE X a ta) (hb : PE X b tb) : PC X .Gt a b (tGt ta tb) := pc_int ha hb fun _ _ _ _ _ _ h => gt_int h
theorem pc_ge (ha : PE X a ta) (hb : PE X b tb) : PC X .GtE a b (tGe ta tb) := pc_int ha hb fun _ _ _ _ _ _ h => ge_int h
theorem pc_eqI (ha : PE X a ta) (hb : PE X b tb) : PC X .Eq a b (tEqI ta tb) := pc_int ha hb fun _ _ _ _ _ _ h => eq_int (by rw [Bool.beq_eq_decide_eq]; exact h)
theorem pc_neI (ha : PE X a ta) (hb : PE X b tb) : PC X .NotEq a b (tNeI ta tb) := pc_int ha hb fun _ _ _ _ _ _ h => ne_int (by rw [bne, Bool.beq_eq_decide_eq]; exact h)
/-- is None -/
def tIsN (ta : TE) : TE := fun σ H Q => ta σ H fun x H1 => Q (.bl (decide (x = .non))) H1
def tNotN (ta : TE) : TE := fun σ H Q => ta σ H fun x H1 => Q (.bl (!decide (x = .non))) H1
theorem RelV.none_iff {x : V} {v : Value} (r : RelV x v) : (v == Value.none) = decide (x = .non) := by
  cases x with
  | non => cases r; rfl
  | bl _ => cases r; rfl
  | int _ => obtain ⟨t, rfl⟩ := r; rfl
  | str _ => obtain ⟨t, rfl⟩ := r; rfl
  | byt _ => obtain ⟨t, rfl⟩ := r; rfl
  | flt _ => obtain ⟨t, rfl⟩ := r; rfl
  | ref _ => cases r; rfl
  | ty _ => cases r; rfl
theorem pc_isN {j pos'} (ha : PE X a ta) : PC X .Is a (.Constant .none j pos') (tIsN ta) := by
  intro pins s σ H Q I h
  refine thn (ha pins s σ H _ I h) fun v s1 ⟨x, H1, I1, r1, q1⟩ => ?_
  exact Constant_none (is_none_gen ⟨.bl _, H1, I1, by rw [r1.none_iff]; rfl, q1⟩)
theorem pc_notN {j pos'} (ha : PE X a ta) : PC X .IsNot a (.Constant .none j pos') (tNotN ta) := by
  intro pins s σ H Q I h
  refine thn (ha pins s σ H _ I h) fun v s1 ⟨x, H1, I1, r1, q1⟩ => ?_
  exact Constant_none (isnot_none_gen ⟨.bl _, H1, I1, by rw [r1.none_iff]; rfl, q1⟩)
/-- a comparison as a value, as a test -/
def tB (t : TE) : TT := fun σ H Q => t σ H fun x H1 => ∃ c, x = .bl c ∧ Q c H1
theorem pe_cmp {op : CmpOp} {t : TE} (h : PC X op a b t) (h1 : behindInMarks op b = false := by first | exact nobehind _ (by decide) (by decide) | rfl) : PE X (.Compare a [op] [b] pos) t := fun pins s σ H Q I hw => wpAny_Compare1 (h pins s σ H Q I hw) h1
theorem pt_cmp {op : CmpOp} {t : TE} (h : PC X op a b t) (h1 : behindInMarks op b = false := by first | exact nobehind _ (by decide) (by decide) | rfl) : PT X (.Compare a [op] [b] pos) (tB t) := by
  intro pins s σ H Q I hw
  refine wpAny_isTrue_Compare1 (thn (h pins s σ H _ I hw) fun v s1 h1 => thn h1 fun u s2 h2 => thn h2 fun c s3 ⟨x, H1, I1, r1, q1⟩ => ?_) h1
  obtain ⟨d, rfl, q⟩ := q1
  cases r1
  exact wpAny_truthy_bool ⟨H1, I1, q⟩
/-- an expression whose value is a bool, as a test -/
theorem pt_val {e : Expr} {t : TE} (h : PE X e t) (he : ∀ whole, isTrue e X.env whole = (do let v ← whole; standAt e.pos; holding [v] (truthy v)) := by intro _; rfl) : PT X e (tB t) := by
  intro pins s σ H Q I hw
  refine isTrue_plain (thn (h pins s σ H _ I hw) fun v s1 ⟨x, H1, I1, r1, q1⟩ => ?_) (he _)
  obtain ⟨d, rfl, q⟩ := q1
  cases r1
  exact wpAny_truthy_bool ⟨H1, I1, q⟩

/-! ### and, or, not -/
variable {tA tB' : TT} {rest : List Expr}
def tAnd (t u : TT) : TT := fun σ H Q => t σ H fun c H1 => if c = true then u σ H1 Q else Q false H1
def tOr (t u : TT) : TT := fun σ H Q => t σ H fun c H1 => if c = true then Q true H1 else u σ H1 Q
def tNot (t : TT) : TT := fun σ H Q => t σ H fun c H1 => Q (!c) H1
theorem pw_and1 (ha : PT X a tA) : PW X (.BoolOp .And [a] pos) tA := by
  intro wh pins s σ H Q I h
  refine isTrue_and (thn (ha pins s σ H Q I h) fun c s1 e => ?_)
  cases c with
  | true => exact isTrue_and_nil e
  | false => exact e
theorem pw_or1 (ha : PT X a tA) : PW X (.BoolOp .Or [a] pos) tA := by
  intro wh pins s σ H Q I h
  refine isTrue_or (thn (ha pins s σ H Q I h) fun c s1 e => ?_)
  cases c with
  | false => exact isTrue_or_nil e
  | true => exact e
theorem pw_and (ha : PT X a tA) (hb : PW X (.BoolOp .And (b :: rest) pos) tB') : PW X (.BoolOp .And (a :: b :: rest) pos) (tAnd tA tB') := by
  intro wh pins s σ H Q I h
  refine isTrue_and (thn (ha pins s σ H _ I h) fun c s1 ⟨H1, I1, q1⟩ => ?_)
  cases c with
  | true => exact hb wh pins s1 σ H1 Q I1 q1
  | false => exact ⟨H1, I1, q1⟩
theorem pw_or (ha : PT X a tA) (hb : PW X (.BoolOp .Or (b :: rest) pos) tB') : PW X (.BoolOp .Or (a :: b :: rest) pos) (tOr tA tB') := by
  intro wh pins s σ H Q I h
  refine isTrue_or (thn (ha pins s σ H _ I h) fun c s1 ⟨H1, I1, q1⟩ => ?_)
  cases c with
  | true => exact ⟨H1, I1, q1⟩
  | false => exact hb wh pins s1 σ H1 Q I1 q1
theorem pt_not (ha : PT X a tA) : PT X (.UnaryOp .Not a pos) (tNot tA) := by
  intro pins s σ H Q I h
  exact isTrue_not (ha pins s σ H (fun c H1 => Q (!c) H1) I h)
/-- .. as values (bools) -/
def tAndV (ta tb : TE) : TE := fun σ H Q => ta σ H fun x H1 => ∃ c, x = .bl c ∧ if c = true then tb σ H1 Q else Q (.bl false) H1
def tOrV (ta tb : TE) : TE := fun σ H Q => ta σ H fun x H1 => ∃ c, x = .bl c ∧ if c = true then Q (.bl true) H1 else tb σ H1 Q
def tNotV (ta : TE) : TE := fun σ H Q => ta σ H fun x H1 => ∃ c, x = .bl c ∧ Q (.bl (!c)) H1
theorem pe_one {op} {t : TE} (h : PE X a t) : PE X (.BoolOp op [a] pos) t := fun pins s σ H Q I hw => BoolOp_one (h pins s σ H Q I hw)
theorem pe_and (ha : PE X a ta) (hb : PE X (.BoolOp .And (b :: rest) pos) tb) : PE X (.BoolOp .And (a :: b :: rest) pos) (tAndV ta tb) := by
  intro pins s σ H Q I h
  refine BoolOp_and (thn (ha pins s σ H _ I h) fun v s1 ⟨x, H1, I1, r1, q1⟩ => ?_)
  obtain ⟨c, rfl, q1⟩ := q1
  cases r1
  refine wpAny_truthy_bool ?_
  cases c with
  | true => exact hb pins s1 σ H1 Q I1 q1
  | false => exact ⟨.bl false, H1, I1, rfl, q1⟩
theorem pe_or (ha : PE X a ta) (hb : PE X (.BoolOp .Or (b :: rest) pos) tb) : PE X (.BoolOp .Or (a :: b :: rest) pos) (tOrV ta tb) := by
  intro pins s σ H Q I h
  refine BoolOp_or (thn (ha pins s σ H _ I h) fun v s1 ⟨x, H1, I1, r1, q1⟩ => ?_)
  obtain ⟨c, rfl, q1⟩ := q1
  cases r1
  refine wpAny_truthy_bool ?_
  cases c with
  | false => exact hb pins s1 σ H1 Q I1 q1
  | true => exact ⟨.bl true, H1, I1, rfl, q1⟩
theorem pe_not (ha : PE X a ta) : PE X (.UnaryOp .Not a pos) (tNotV ta) := by
  intro pins s σ H Q I h
  refine UnaryOp_ (thn (ha pins s σ H _ I h) fun v s1 ⟨x, H1, I1, r1, q1⟩ => ?_)
  obtain ⟨c, rfl, q1⟩ := q1
  cases r1
  exact not_of (wpAny_truthy_bool ⟨.bl (!c), H1, I1, rfl, q1⟩)
/-- a if t else b -/
def tIf (t : TT) (ta tb : TE) : TE := fun σ H Q => t σ H fun c H1 => if c = true then ta σ H1 Q else tb σ H1 Q
theorem pe_ifExp {c : Expr} (hc : PT X c tA) (ha : PE X a ta) (hb : PE X b tb) : PE X (.IfExp c a b pos) (tIf tA ta tb) := by
  intro pins s σ H Q I h
  refine wpAny_IfExp (thn (hc pins s σ H _ I h) fun d s1 ⟨H1, I1, q1⟩ => ?_)
  cases d with
  | true => exact ha pins s1 σ H1 Q I1 q1
  | false => exact hb pins s1 σ H1 Q I1 q1
end
end L2

namespace L2
open PySem PySem.Spec PyProof.Rows

/-! ### a list, a tuple that is read: tracked, frozen, or an object of the module -/
def SqL (K : PySem.W.Frag) (H : Hp) (a : Addr) (xs : List V) : Prop :=
  Rd H a (.lst xs) ∨
    ∃ (o : Obj) (its : Array Value) (n : Nat), K.lookup a = some o ∧ o.cls = .type "list" ∧ o.dict = none ∧ o.data = .seq its n ∧ its.size ≤ sizeLine ∧ Vals xs its.toList
def SqT (K : PySem.W.Frag) (H : Hp) (a : Addr) (xs : List V) : Prop :=
  Rd H a (.tup xs) ∨
    ∃ (o : Obj) (its : Array Value) (n : Nat), K.lookup a = some o ∧ o.cls = .type "tuple" ∧ o.data = .seq its n ∧ its.size ≤ sizeLine ∧ Vals xs its.toList
def absV : Value → Option V
  | .none => some .non
  | .bool b => some (.bl b)
  | .int i _ => some (.int i)
  | .str x _ => some (.str x)
  | .bytes b _ => some (.byt b)
  | .float b _ => some (.flt b)
  | .ref a => some (.ref a)
  | .type n => some (.ty n)
  | _ => none
theorem RelV.abs {x : V} {u : Value} (r : RelV x u) : absV u = some x := by
  cases x with
  | non => cases r; rfl
  | bl _ => cases r; rfl
  | int _ => obtain ⟨t, rfl⟩ := r; rfl
  | str _ => obtain ⟨t, rfl⟩ := r; rfl
  | byt _ => obtain ⟨t, rfl⟩ := r; rfl
  | flt _ => obtain ⟨t, rfl⟩ := r; rfl
  | ref _ => cases r; rfl
  | ty _ => cases r; rfl
theorem RelV.inj {x y : V} {u : Value} (r : RelV x u) (q : RelV y u) : x = y := Option.some.inj (r.abs.symm.trans q.abs)
theorem Vals.inj : ∀ {xs ys : List V} {us : List Value}, Vals xs us → Vals ys us → xs = ys
  | _, _, _, .nil, .nil => rfl
  | _, _, _, .cons r t, .cons r' t' => by rw [r.inj r', Vals.inj t t']
section
variable {X : Cx} {pins : List (Addr × Obj)} {σ : St} {H : Hp} {s : Shared} {a : Addr} {xs ys : List V}
theorem SqL.of {K : PySem.W.Frag} (h : H a = some (.lst xs)) : SqL K H a xs := .inl (.inl h)
theorem SqT.of {K : PySem.W.Frag} (h : H a = some (.tup xs)) : SqT K H a xs := .inl (.inl h)
theorem Inv.list (I : Inv X pins σ H s) (h : SqL X.K H a xs) : ∃ its : List Value, Vals xs its ∧ PlainL s.heap a its.toArray ∧ xs.length ≤ sizeLine := by
  rcases h with h | ⟨o, its, n, hk, hc, hd, hs, hz, r⟩
  · obtain ⟨z, its, n, r, e⟩ := h.ok I.hok
    exact ⟨its, r, ⟨_, n, e, rfl, rfl, rfl⟩, z⟩
  · refine ⟨its.toList, r, ⟨o, n, I.kIn a o hk, hc, hd, by simpa using hs⟩, ?_⟩
    have e := r.length
    simp only [Array.length_toList] at e
    omega
theorem Inv.tuple (I : Inv X pins σ H s) (h : SqT X.K H a xs) : ∃ its : List Value, Vals xs its ∧ IsTup s.heap a its.toArray ∧ xs.length ≤ sizeLine := by
  rcases h with h | ⟨o, its, n, hk, hc, hs, hz, r⟩
  · obtain ⟨z, its, r, p⟩ := h.ok I.hok
    exact ⟨its, r, p, z⟩
  · refine ⟨its.toList, r, ⟨o, I.kIn a o hk, hc, n, by simpa using hs⟩, ?_⟩
    have e := r.length
    simp only [Array.length_toList] at e
    omega
theorem Inv.list_inj (I : Inv X pins σ H s) (h : SqL X.K H a xs) (h' : SqL X.K H a ys) : xs = ys := by
  obtain ⟨its, r, ⟨o, n, e, _, _, d⟩, _⟩ := I.list h
  obtain ⟨its', r', ⟨o', n', e', _, _, d'⟩, _⟩ := I.list h'
  rw [e] at e'; cases e'
  rw [d] at d'
  injection d' with d1 _
  have : its = its' := by simpa using congrArg Array.toList d1
  subst this
  exact r.inj r'
theorem Inv.tuple_inj (I : Inv X pins σ H s) (h : SqT X.K H a xs) (h' : SqT X.K H a ys) : xs = ys := by
  obtain ⟨its, r, ⟨o, e, _, n, d⟩, _⟩ := I.tuple h
  obtain ⟨its', r', ⟨o', e', _, n', d'⟩, _⟩ := I.tuple h'
  rw [e] at e'; cases e'
  rw [d] at d'
  injection d' with d1 _
  have : its = its' := by simpa using congrArg Array.toList d1
  subst this
  exact r.inj r'
end

/-! ### another wish about exceptions -/
abbrev Cx.wish (X : Cx) (E : Value → Shared → Prop) : Cx := { X with xe := E }
/-- no exception leaves -/
abbrev Cx.nox (X : Cx) : Cx := X.wish fun _ _ => False
theorem Cx.Ok.wish {X : Cx} (ok : X.Ok) (E : Value → Shared → Prop) : (X.wish E).Ok :=
  ⟨ok.mod, ok.kind, ok.glob, ok.blt, ok.above, ok.inj, ok.has, ok.cab, ok.hd, ok.frames, ok.stk, ok.exf, ok.bs, ok.bsz, ok.noex, ok.exfs, ok.funs, ok.frf⟩
theorem Cx.Ok.unwish {X : Cx} {E : Value → Shared → Prop} (ok : (X.wish E).Ok) : X.Ok :=
  ⟨ok.mod, ok.kind, ok.glob, ok.blt, ok.above, ok.inj, ok.has, ok.cab, ok.hd, ok.frames, ok.stk, ok.exf, ok.bs, ok.bsz, ok.noex, ok.exfs, ok.funs, ok.frf⟩
section
variable {X : Cx} {pins : List (Addr × Obj)} {σ : St} {H : Hp} {s : Shared} {E : Value → Shared → Prop}
theorem Inv.wish (I : Inv X pins σ H s) (E : Value → Shared → Prop) : Inv (X.wish E) pins σ H s := ⟨I.ok.wish E, I.os, I.bare, I.base, I.loc, I.cell, I.free, I.freeC, I.pin, I.hok, I.len⟩
theorem Inv.unwish (I : Inv (X.wish E) pins σ H s) : Inv X pins σ H s := ⟨I.ok.unwish, I.os, I.bare, I.base, I.loc, I.cell, I.free, I.freeC, I.pin, I.hok, I.len⟩
theorem SP.unwish {D : Ends} {f : Flow} {s' : Shared} (h : SP (X.wish E) pins D f s') : SP X pins D f s' := by
  cases f with
  | next => obtain ⟨σ', H', I, q⟩ := h; exact ⟨σ', H', I.unwish, q⟩
  | brk => obtain ⟨σ', H', I, q⟩ := h; exact ⟨σ', H', I.unwish, q⟩
  | cont => obtain ⟨σ', H', I, q⟩ := h; exact ⟨σ', H', I.unwish, q⟩
  | ret u => obtain ⟨v, σ', H', I, r, q⟩ := h; exact ⟨v, σ', H', I.unwish, r, q⟩
theorem PE.nox {e : Expr} {t : TE} (h : PE X.nox e t) : PE X e t := fun pins s σ H Q I hw =>
  wpAny_mono (h pins s σ H Q (I.wish _) hw) (fun _ _ ⟨v, H', I', r, q⟩ => ⟨v, H', I'.unwish, r, q⟩) fun _ _ z => False.elim z
theorem PT.nox {e : Expr} {t : TT} (h : PT X.nox e t) : PT X e t := fun pins s σ H Q I hw =>
  wpAny_mono (h pins s σ H Q (I.wish _) hw) (fun _ _ ⟨H', I', q⟩ => ⟨H', I'.unwish, q⟩) fun _ _ z => False.elim z
theorem PSs.nox {st : List Stmt} {t : TS} (h : PSs X.nox st t) : PSs X st t := fun pins s σ H D I hw =>
  wpAny_mono (h pins s σ H D (I.wish _) hw) (fun _ _ q => q.unwish) fun _ _ z => False.elim z
end

/-! ### blocks and small statements -/
section
variable {X : Cx} {st : Stmt} {rest : List Stmt} {t u : TS} {e : Expr} {te : TE} {pos : Pos}
def tNext : TS := fun D σ H => D.nx σ H
def tSeq (t u : TS) : TS := fun D σ H => t { D with nx := u D } σ H
theorem pss_nil : PSs X [] tNext := fun _ _ σ H _ I h => wpAny_execs_nil ⟨σ, H, I, h⟩
theorem pss_cons (h1 : PS X st t) (h2 : PSs X rest u) : PSs X (st :: rest) (tSeq t u) := by
  intro pins s σ H D I h
  refine wpAny_execs_cons (thn (h1 pins s σ H { D with nx := u D } I h) fun f s1 q => ?_)
  cases f with
  | next =>
    obtain ⟨σ', H', I', q⟩ := q
    exact h2 pins s1 σ' H' D I' q
  | ret v => exact q
  | brk => exact q
  | cont => exact q
theorem pss_one (h1 : PS X st t) : PSs X [st] t := by
  intro pins s σ H D I h
  refine wpAny_execs_cons (thn (h1 pins s σ H D I h) fun f s1 q => ?_)
  cases f with
  | next => exact wpAny_execs_nil q
  | ret v => exact q
  | brk => exact q
  | cont => exact q
def tBreak : TS := fun D σ H => D.bk σ H
def tCont : TS := fun D σ H => D.ct σ H
theorem ps_pass : PS X (.Pass pos) tNext := fun _ _ σ H _ I h => wpAny_Pass ⟨σ, H, I, h⟩
theorem ps_break : PS X (.Break pos) tBreak := fun _ _ σ H _ I h => wpAny_Break ⟨σ, H, I, h⟩
theorem ps_continue : PS X (.Continue pos) tCont := fun _ _ σ H _ I h => wpAny_Continue ⟨σ, H, I, h⟩
/-- in a def's body nothing is shown -/
theorem Inv.quiet {pins : List (Addr × Obj)} {σ : St} {H : Hp} {s : Shared} (I : Inv X pins σ H s) : interactive X.env = false := by simp [interactive, I.ok.kind]
/-- a docstring -/
theorem ps_doc {x j pos pos'} : PS X (.Expr (.Constant (.str x) j pos) pos') tNext := fun _ s σ H _ I h => wpAny_Expr (Calls.Constant_str (show SP X _ _ .next { s with toks := s.toks + 1 } from ⟨σ, H, I.tok _, h⟩)) I.quiet
/-- an expression whose value is dropped -/
def tDrop (te : TE) : TS := fun D σ H => te σ H fun _ H1 => D.nx σ H1
theorem ps_expr (he : PE X e te) (hs : swapsWith e none pos.line X.env = pure false := by rfl) : PS X (.Expr e pos) (tDrop te) := by
  intro pins s σ H D I h
  exact wpAny_Expr_any (thn (he pins s σ H _ I h) fun v s1 ⟨x, H1, I1, r1, q1⟩ => ⟨σ, H1, I1, q1⟩) I.quiet hs
def tRet (te : TE) : TS := fun D σ H => te σ H D.rt
theorem ps_ret (he : PE X e te) : PS X (.Return (some e) pos) (tRet te) := by
  intro pins s σ H D I h
  exact wpAny_Return_some (thn (he pins s σ H _ I h) fun v s1 ⟨x, H1, I1, r1, q1⟩ => ⟨x, σ, H1, I1, r1, q1⟩)
def tRetN : TS := fun D _ H => D.rt .non H
theorem ps_retN : PS X (.Return none pos) tRetN := fun _ _ σ H _ I h => wpAny_Return_none ⟨.non, σ, H, I, rfl, h⟩
def tIfS (c : TT) (t u : TS) : TS := fun D σ H => c σ H fun b H1 => if b = true then t D σ H1 else u D σ H1
theorem ps_if {c : Expr} {a b : List Stmt} {tc : TT} (hc : PT X c tc) (ha : PSs X a t) (hb : PSs X b u) : PS X (.If c a b pos) (tIfS tc t u) := by
  intro pins s σ H D I h
  refine wpAny_If (thn (hc pins s σ H _ I h) fun d s1 ⟨H1, I1, q1⟩ => ?_)
  cases d with
  | true => exact ha pins s1 σ H1 D I1 q1
  | false => exact hb pins s1 σ H1 D I1 q1
/-- code that the proof never comes to -/
def tNever : TS := fun _ _ _ => False
theorem ps_never : PS X st tNever := fun _ _ _ _ _ _ h => h.elim
theorem pss_never {sts : List Stmt} : PSs X sts tNever := fun _ _ _ _ _ _ h => h.elim
end

/-! ### targets -/
abbrev TG := V → St → Hp → (St → Hp → Prop) → Prop
abbrev TGs := List V → St → Hp → (St → Hp → Prop) → Prop
def PG (X : Cx) (target : Expr) (t : TG) : Prop :=
  ∀ (pins : List (Addr × Obj)) (s : Shared) (σ : St) (H : Hp) (v : V) (u : Value) (Q : St → Hp → Prop), Inv X pins σ H s → RelV v u → t v σ H Q →
    wpAny (model X.prog X.w) X.A (assign target X.env u) (fun _ s' => ∃ σ' H', Inv X pins σ' H' s' ∧ Q σ' H') X.xe s
/-- several targets, one after another -/
def PGs (X : Cx) (ts : List Expr) (t : TGs) : Prop :=
  ∀ (pins : List (Addr × Obj)) (s : Shared) (σ : St) (H : Hp) (vs : List V) (us : List Value) (Q : St → Hp → Prop), Inv X pins σ H s → Vals vs us → t vs σ H Q →
    wpAny (model X.prog X.w) X.A (assignInOrder ((assignEach ts X.env).map (·.2)) us) (fun _ s' => ∃ σ' H', Inv X pins σ' H' s' ∧ Q σ' H') X.xe s
/-- o[i] = v, by values -/
abbrev TSet := V → V → V → Hp → (Hp → Prop) → Prop
def PSet (X : Cx) (t : TSet) : Prop :=
  ∀ (pins : List (Addr × Obj)) (s : Shared) (σ : St) (H : Hp) (o i v : V) (ov iv u : Value) (Q : Hp → Prop), Inv X pins σ H s → RelV o ov → RelV i iv → RelV v u → t o i v H Q →
    wpAny (model X.prog X.w) X.A (setItem ov iv u) (fun _ s' => ∃ H', Inv X pins σ H' s' ∧ Q H') X.xe s
/-- a op= b, by values -/
abbrev TIp := V → V → Hp → VK → Prop
def PIp (X : Cx) (op : Operator) (t : TIp) : Prop :=
  ∀ (pins : List (Addr × Obj)) (s : Shared) (σ : St) (H : Hp) (x y : V) (v u : Value) (Q : VK), Inv X pins σ H s → RelV x v → RelV y u → t x y H Q →
    wpAny (model X.prog X.w) X.A (inplaceOp op v u) (EP X pins σ Q) X.xe s
section
variable {X : Cx} {pos : Pos}
def gName (i : Nat) : TG := fun v σ H Q => Q (σ.set i (some v)) H
theorem pg_name {i : Nat} {x : Str} (hN : X.N.Nodup) (hi : X.N[i]? = some x) (hx : Loc X.env.scope x) (hf : X.fn x = true ∨ X.env.scope.names.lookup x = some .local := by first | exact .inl rfl | exact .inr rfl | assumption) : PG X (.Name x pos) (gName i) := by
  intro pins s σ H v u Q I r h
  exact wpAny_assign_Name (store_ok I hN hi hx r (fun s' I' => ⟨_, H, I', h⟩) hf)
def gNil : TGs := fun vs σ H Q => vs = [] ∧ Q σ H
def gCons (t : TG) (u : TGs) : TGs := fun vs σ H Q => ∃ v r, vs = v :: r ∧ t v σ H fun σ' H' => u r σ' H' Q
theorem pgs_nil : PGs X [] gNil := by
  intro pins s σ H vs us Q I r h
  obtain ⟨e, h⟩ := h
  subst e
  cases r
  exact assignInOrder_nil ⟨σ, H, I, h⟩
theorem pgs_cons {e : Expr} {es : List Expr} {t : TG} {u : TGs} (h1 : PG X e t) (h2 : PGs X es u)
    (hs : (assignEach (e :: es) X.env).map (·.2) = assign e X.env :: (assignEach es X.env).map (·.2) := by rfl) : PGs X (e :: es) (gCons t u) := by
  intro pins s σ H vs us Q I r h
  obtain ⟨v, vr, e1, h⟩ := h
  subst e1
  cases r with
  | cons r rr =>
    rw [hs]
    refine assignInOrder_cons (thn (h1 pins s σ H _ _ _ I r h) fun _ s1 ⟨σ1, H1, I1, q1⟩ => ?_)
    exact h2 pins s1 σ1 H1 _ _ Q I1 rr q1
/-- (a, b, ..) = a tuple of that length -/
def gTup (K : PySem.W.Frag) (n : Nat) (t : TGs) : TG := fun v σ H Q => ∃ a xs, v = .ref a ∧ SqT K H a xs ∧ xs.length = n ∧ t xs σ H Q
theorem pg_tup {es : List Expr} {k : Nat} {t : TGs} {n : Nat} (hc : X.calm = true) (h : PGs X es t)
    (hn : (assignEach es X.env).length = n := by rfl) (hst : (assignEach es X.env).findIdx? (·.1) = none := by rfl) : PG X (.Tuple es k pos) (gTup X.K n t) := by
  intro pins s σ H v u Q I r hw
  obtain ⟨a, xs, e1, hq, hl, hw⟩ := hw
  subst e1
  cases r
  obtain ⟨its, rv, ht, hz⟩ := I.tuple hq
  refine assign_Tuple_tuple (I.ok.hd hc) ht (by simp [hn, ← hl, rv.length]) hst fun h' hx => ?_
  have I1 : Inv X pins σ H { s with heap := h' } := I.kept (t' := s.toks) fun b o e => hx b o (Nat.ne_of_lt (Heap.lt_size e)) e
  exact h pins _ σ H xs _ Q I1 (by simpa using rv) hw
/-- o[i] = .. -/
def gSub (to ti : TE) (t : TSet) : TG := fun v σ H Q => to σ H fun o H1 => ti σ H1 fun i H2 => t o i v H2 fun H3 => Q σ H3
theorem pg_sub {o i : Expr} {to ti : TE} {t : TSet} (ho : PE X o to) (hi : PE X i ti) (hs : PSet X t)
    (ha : ∀ v, assign (.Subscript o i pos) X.env v = (do
      let ov ← holding [v] (eval o X.env)
      let iv ← holding [v, ov] (eval i X.env)
      standAt pos
      holding [v, ov, iv] (setItem ov iv v)
      release [v, ov, iv] []) := by intro _; rfl) : PG X (.Subscript o i pos) (gSub to ti t) := by
  intro pins s σ H v u Q I r h
  rw [ha]
  refine wpAny_bind (wpAny_holding (thn (ho pins s σ H _ I h) fun ov s1 ⟨x, H1, I1, r1, q1⟩ => ?_))
  refine wpAny_bind (wpAny_holding (thn (hi pins s1 σ H1 _ I1 q1) fun iv s2 ⟨y, H2, I2, r2, q2⟩ => ?_))
  refine wpAny_bind (wpAny_standAt (wpAny_bind (wpAny_holding (thn (hs pins s2 σ H2 x y v ov iv u _ I2 r1 r2 r q2) fun _ s3 ⟨H3, I3, q3⟩ => ?_))))
  exact wpAny_release ⟨σ, H3, I3, q3⟩
/-- target = value -/
def tAsg (te : TE) (g : TG) : TS := fun D σ H => te σ H fun x H1 => g x σ H1 D.nx
theorem ps_asg {tg e : Expr} {te : TE} {g : TG} (he : PE X e te) (hg : PG X tg g) (hs : swapsWithSole [tg] e pos.line X.env = pure false := by rfl) (hw : swappedStores [tg] e X.env = pure none := by rfl)
    (h1 : (assignEach [tg] X.env).map (·.2) = [assign tg X.env] := by rfl) : PS X (.Assign [tg] e pos) (tAsg te g) := by
  intro pins s σ H D I h
  refine wpAny_Assign_stores (thn (he pins s σ H _ I h) fun v s1 ⟨x, H1, I1, r1, q1⟩ => ?_) hs hw
  rw [h1]
  exact thn (hg pins s1 σ H1 x v _ I1 r1 q1) fun _ s2 q => q
/-- name = value -/
theorem ps_set {i : Nat} {x : Str} {e : Expr} {te : TE} {pos' : Pos} (hN : X.N.Nodup) (hi : X.N[i]? = some x) (hx : Loc X.env.scope x) (he : PE X e te) (hs : swapsWith e (some (.Name x pos')) pos.line X.env = pure false := by rfl) (hf : X.fn x = true ∨ X.env.scope.names.lookup x = some .local := by first | exact .inl rfl | exact .inr rfl | assumption) :
    PS X (.Assign [.Name x pos'] e pos) (tAsg te (gName i)) := by
  intro pins s σ H D I h
  refine wpAny_Assign_Name (thn (he pins s σ H _ I h) fun v s1 ⟨y, H1, I1, r1, q1⟩ => ?_) hs
  exact store_ok I1 hN hi hx r1 (fun s2 I2 => ⟨_, H1, I2, q1⟩) hf
/-- a, b = x, y with plain local names: stored from the right; the pair itself is not tracked (the opening rows as in PyProof/Rows/TupAssign.lean:23) -/
def tPar (i j : Nat) (ta : TA) : TS := fun D σ H => ta σ H fun vs H1 => ∃ v w, vs = [v, w] ∧ D.nx ((σ.set i (some v)).set j (some w)) H1
theorem ps_par {i j : Nat} {x y : Str} {a b : Expr} {ta : TA} {px py pt : Pos} {kt k2 pt2} (hc : X.calm = true) (hN : X.N.Nodup) (hi : X.N[i]? = some x) (hj : X.N[j]? = some y) (hij : i ≠ j)
    (hx : X.env.scope.names.lookup x = some .local) (hy : X.env.scope.names.lookup y = some .local) (ha : PA X [a, b] ta)
    (hw : swappedStores [.Tuple [.Name x px, .Name y py] kt pt] (.Tuple [a, b] k2 pt2) X.env = pure (some [x, y]))
    (hs : swapsWithSole [.Tuple [.Name x px, .Name y py] kt pt] (.Tuple [a, b] k2 pt2) pos.line X.env = pure false := by rfl) :
    PS X (.Assign [.Tuple [.Name x px, .Name y py] kt pt] (.Tuple [a, b] k2 pt2) pos) (tPar i j ta) := by
  intro pins s σ H D I h
  rw [exec_Assign_arm]
  refine wpAny_bind (wpAny_standAt ?_)
  rw [hs]
  refine wpAny_bind (wpAny_pure ?_)
  rw [if_neg (by decide)]
  refine wpAny_bind (Tuple_ (thn (ha _ pins s σ H _ I h) fun us s1 ⟨vs, H1, I1, r1, q1⟩ => ?_))
  obtain ⟨v, w, e1, q1⟩ := q1
  subst e1
  obtain ⟨u1, u2, rfl, rv, rw'⟩ : ∃ u1 u2, us = [u1, u2] ∧ RelV v u1 ∧ RelV w u2 := by
    cases r1 with
    | cons p q =>
      cases q with
      | cons p' q' =>
        cases q'
        exact ⟨_, _, rfl, p, p'⟩
  refine wpAny_newObj_type ?_ (by show 2 ≤ sizeLine; decide)
  have I2 : Inv X pins σ H1 { s1 with heap := s1.heap.push { cls := .type "tuple", data := .seq [u1, u2].toArray } } := I1.kept (t' := s1.toks) fun b o e => Heap.get?_push_of_some _ e
  rw [hw]
  refine wpAny_bind (wpAny_pure ?_)
  show wpAny (model X.prog X.w) X.A (do rule "assign.swapped-stores"; let items ← unpackItems (.ref s1.heap.objs.size) 2 none; assignInOrder [fun v => bindName X.env y v, fun v => bindName X.env x v] items.reverse; pure Flow.next) _ _ _
  refine wpAny_bind (wpAny_rule (wpAny_bind (unpackItems_tuple (items := #[u1, u2]) (I.ok.hd hc) (IsTup.new s1.heap _) fun h' hx' => ?_)))
  have I3 := I2.kept (h' := h') (t' := s1.toks) fun b o e => hx' b o (Nat.ne_of_lt (Heap.lt_size e)) e
  show wpAny _ _ (assignInOrder [fun v => bindName X.env y v, fun v => bindName X.env x v] [u2, u1] >>= fun _ => pure Flow.next) _ _ _
  refine wpAny_bind (assignInOrder_cons (wpAny_bindName (store_ok I3 hN hj (.inl hy) rw' (fun s2 I4 => ?_) (.inr hy))))
  refine assignInOrder_cons (wpAny_bindName (store_ok I4 hN hi (.inl hx) rv (fun s3 I5 => assignInOrder_nil (wpAny_pure ?_)) (.inr hx)))
  rw [List.set_comm _ _ (Ne.symm hij)] at I5
  exact ⟨_, H1, I5, q1⟩
/-- name op= e -/
def tAug (i : Nat) (te : TE) (ti : TIp) : TS := fun D σ H => ∃ x, σ[i]? = some (some x) ∧ te σ H fun y H1 => ti x y H1 fun z H2 => D.nx (σ.set i (some z)) H2
theorem ps_aug {i : Nat} {x : Str} {e : Expr} {te : TE} {op : Operator} {ti : TIp} {pos' : Pos} (hN : X.N.Nodup) (hi : X.N[i]? = some x) (hx : Loc X.env.scope x) (he : PE X e te) (ho : PIp X op ti) (hf : X.fn x = true ∨ X.env.scope.names.lookup x = some .local := by first | exact .inl rfl | exact .inr rfl | assumption) :
    PS X (.AugAssign (.Name x pos') op e pos) (tAug i te ti) := by
  intro pins s σ H D I h
  obtain ⟨v, e1, h⟩ := h
  obtain ⟨m, hn, hl⟩ := I.loc
  have vis : Vis X.env.scope x := by rcases hx with k | k; exact .inl k; exact .inr (.inl k)
  obtain ⟨u, r, l⟩ := hl i x v hi e1 vis
  refine wpAny_AugAssign_Name ?_
  have go : wpAny (model X.prog X.w) X.A (eval e X.env) (fun w s₂ => wpAny (model X.prog X.w) X.A (inplaceOp op u w) (fun r s₃ => wpAny (model X.prog X.w) X.A (storeName X.env x r) (fun _ => SP X pins D .next) X.xe s₃) X.xe s₂) X.xe s := by
    refine thn (he pins s σ H _ I h) fun w s1 ⟨y, H1, I1, r1, q1⟩ => ?_
    refine thn (ho pins s1 σ H1 v y u w _ I1 r r1 q1) fun z s2 ⟨zv, H2, I2, r2, q2⟩ => ?_
    exact store_ok I2 hN hi hx r2 (fun s3 I3 => ⟨_, H2, I3, q2⟩) hf
  rcases l with ⟨hk, hm⟩ | ⟨hk, c, hc, hcell⟩
  · exact wpAny_loadName_local I.ok.kind hk hn hm go
  · rcases hk with hk | hk
    · exact wpAny_loadName_cell I.ok.kind hk hc hcell go
    · rcases hx with k | k
      · have : X.env.scope.names.lookup x = some .free := hk
        rw [k] at this; cases this
      · have : X.env.scope.names.lookup x = some .free := hk
        rw [k] at this; cases this
/-- o[i] op= e -/
def tAugS (to ti te : TE) (tget : V → V → Hp → VK → Prop) (tip : TIp) (tset : TSet) : TS := fun D σ H => to σ H fun o H1 => ti σ H1 fun i H2 => tget o i H2 fun x H3 => te σ H3 fun y H4 => tip x y H4 fun z H5 => tset o i z H5 fun H6 => D.nx σ H6
/-- o[i], by values -/
def PGet (X : Cx) (t : V → V → Hp → VK → Prop) : Prop :=
  ∀ (pins : List (Addr × Obj)) (s : Shared) (σ : St) (H : Hp) (o i : V) (ov iv : Value) (Q : VK), Inv X pins σ H s → RelV o ov → RelV i iv → t o i H Q →
    wpAny (model X.prog X.w) X.A (getItem ov iv) (EP X pins σ Q) X.xe s
theorem ps_augS {o i e : Expr} {to ti te : TE} {tget : V → V → Hp → VK → Prop} {tip : TIp} {tset : TSet} {op : Operator} {tpos : Pos} (ho : PE X o to) (hi : PE X i ti) (hg : PGet X tget) (he : PE X e te) (hp : PIp X op tip) (hs : PSet X tset)
    (ha : ∀ ov iv new, augStore i ov iv new = (do holding [new, ov, iv] (setItem ov iv new); release [new, ov, iv] []; pure .next) := by intros; rfl) : PS X (.AugAssign (.Subscript o i tpos) op e pos) (tAugS to ti te tget tip tset) := by
  intro pins s σ H D I h
  refine wpAny_AugAssign_SubscriptAny (thn (ho pins s σ H _ I h) fun ov s1 ⟨x1, H1, I1, r1, q1⟩ => ?_) ha
  refine thn (hi pins s1 σ H1 _ I1 q1) fun iv s2 ⟨x2, H2, I2, r2, q2⟩ => ?_
  refine thn (hg pins s2 σ H2 x1 x2 ov iv _ I2 r1 r2 q2) fun old s3 ⟨x3, H3, I3, r3, q3⟩ => ?_
  refine thn (he pins s3 σ H3 _ I3 q3) fun v s4 ⟨x4, H4, I4, r4, q4⟩ => ?_
  refine thn (hp pins s4 σ H4 x3 x4 old v _ I4 r3 r4 q4) fun new s5 ⟨x5, H5, I5, r5, q5⟩ => ?_
  exact thn (hs pins s5 σ H5 x1 x2 x5 ov iv new _ I5 r1 r2 r5 q5) fun _ s6 ⟨H6, I6, q6⟩ => ⟨σ, H6, I6, q6⟩
/-- ints -/
def ipI (f : Int → Int → Int) : TIp := fun x y H Q => ∃ i j, x = .int i ∧ y = .int j ∧ Q (.int (f i j)) H
theorem ip_add : PIp X .Add (ipI fun i j => i + j) := by
  intro pins s σ H x y v u Q I r1 r2 h
  obtain ⟨i, j, e1, e2, q⟩ := h
  subst e1; subst e2
  obtain ⟨t, rfl⟩ := r1
  obtain ⟨t', rfl⟩ := r2
  exact iadd_int ⟨.int _, H, I.tok _, ⟨_, rfl⟩, q⟩
theorem ip_sub : PIp X .Sub (ipI fun i j => i - j) := by
  intro pins s σ H x y v u Q I r1 r2 h
  obtain ⟨i, j, e1, e2, q⟩ := h
  subst e1; subst e2
  obtain ⟨t, rfl⟩ := r1
  obtain ⟨t', rfl⟩ := r2
  exact isub_int ⟨.int _, H, I.tok _, ⟨_, rfl⟩, q⟩
end

/-! ### while -/
section
variable {X : Cx} {pos : Pos}
/-- the invariant W with its measure -/
def tWhile (c : TT) (tb : TS) : TS := fun D σ H => ∃ W : Nat → St → Hp → Prop, (∃ m, W m σ H) ∧ ∀ m σ H, W m σ H →
  c σ H fun b H1 => if b = true then ∃ N : St → Hp → Prop, (∀ σ' H', N σ' H' → ∃ m', m' < m ∧ W m' σ' H') ∧ tb { D with nx := N, ct := N, bk := D.nx } σ H1 else D.nx σ H1
theorem ps_while {c : Expr} {body : List Stmt} {tc : TT} {tb : TS} (hp : PassesOwn (model X.prog X.w) X.A X.env X.xe) (hc : PT X c tc) (hb : PSs X body tb) : PS X (.While c body [] pos) (tWhile tc tb) := by
  intro pins s σ H D I h
  obtain ⟨W, ⟨m0, w0⟩, turn⟩ := h
  refine wpAny_While (codeAny_whileLoop (fun n s' => ∃ σ' H', Inv X pins σ' H' s' ∧ W n σ' H') ?_ m0 ⟨σ, H, I, w0⟩)
  rintro n s1 ⟨σ1, H1, I1, w1⟩
  refine wpAny_passesOwn hp (thn (hc pins s1 σ1 H1 _ I1 (turn n σ1 H1 w1)) fun b s2 ⟨H2, I2, q2⟩ => ?_)
  cases b with
  | true =>
    obtain ⟨N, hN, q2⟩ := q2
    rw [if_pos rfl]
    refine wpAny_passesOwn hp (thn (hb pins s2 σ1 H2 _ I2 q2) fun f s3 q3 => ?_)
    cases f with
    | next =>
      obtain ⟨σ3, H3, I3, n3⟩ := q3
      obtain ⟨m', hm, w3⟩ := hN σ3 H3 n3
      exact ⟨m', hm, σ3, H3, I3, w3⟩
    | cont =>
      obtain ⟨σ3, H3, I3, n3⟩ := q3
      obtain ⟨m', hm, w3⟩ := hN σ3 H3 n3
      exact ⟨m', hm, σ3, H3, I3, w3⟩
    | brk => exact q3
    | ret v => exact q3
  | false =>
    rw [if_neg Bool.false_ne_true]
    exact wpAny_execs_nil ⟨σ1, H2, I2, q2⟩
end

/-! ### what a loop or a comprehension walks -/
/-- at turn i: it yields x (the heap may grow), or it stops -/
structure It where
  go : Nat → Hp → Prop
  yld : Nat → Hp → V → Hp → Prop
  stop : Nat → Hp → Prop
/-- the iterator's own objects may turn: they are not the frame's, not pinned, younger than the entry (or a comprehension's own) -/
def FpOk (X : Cx) (pins : List (Addr × Obj)) (H : Hp) (b : Addr) : Prop :=
  H b = none ∧ b ≠ X.env.locals ∧ b ∉ X.fs ∧ (b ∈ X.ex ∨ X.s₀.heap.objs.size ≤ b) ∧ (∀ x c, X.env.cells.lookup x = some c → c ≠ b) ∧ ∀ p ∈ X.pn ++ pins, p.1 ≠ b
theorem Inv.fpOk {X : Cx} {pins : List (Addr × Obj)} {σ : St} {H H' : Hp} {s : Shared} {b : Addr} (I : Inv X pins σ H s) (hb : s.heap.objs.size ≤ b) (hn : H' b = none) : FpOk X pins H' b := by
  refine ⟨hn, Nat.ne_of_gt (Nat.lt_of_lt_of_le I.lt hb), I.nofs hb, .inr (Nat.le_trans I.sz hb), fun x c e z => ?_, fun p hp z => ?_⟩
  · obtain ⟨v, q⟩ := I.cell x c e
    exact absurd (Nat.lt_of_lt_of_le q.lt (by rw [z]; exact hb)) (Nat.lt_irrefl _)
  · exact absurd (Nat.lt_of_lt_of_le (Heap.lt_size (I.pin p hp).1) (by rw [z]; exact hb)) (Nat.lt_irrefl _)
structure Turn (P : Program) (w : World) (K : PySem.W.Frag) (tg : Expr) (J : It) (fp : List Addr) (it : Addr) (tn : Nat → Heap → Prop) : Prop where
  mem : it ∈ fp
  obj : ∀ i h, tn i h → ∀ b ∈ fp, ∃ o, h.get? b = some o ∧ ∀ v, o.data ≠ .cell v
  keep : ∀ i h h', tn i h → (∀ b ∈ fp, ∀ o, h.get? b = some o → h'.get? b = some o) → tn i h'
  item : ∀ (X : Cx), X.prog = P → X.w = w → X.K = K → X.calm = true → ∀ (i : Nat) (pins : List (Addr × Obj)) (s : Shared) (σ : St) (H : Hp) (E : Value → Shared → Prop), Inv X pins σ H s → (∀ b ∈ fp, FpOk X pins H b) → tn i s.heap → J.go i H →
    wpAny (model P w) X.A (pyNext (.ref it)) (fun r s1 => ∃ u, r = some u ∧
      wpAny (model P w) X.A (letOwnedTupleGo tg (.ref it) u) (fun _ s2 => ∃ x H', Inv X pins σ H' s2 ∧ RelV x u ∧ J.yld i H x H' ∧ tn (i + 1) s2.heap ∧ ∀ b ∈ fp, H' b = none) E s1) E s
  done : ∀ (X : Cx), X.prog = P → X.w = w → X.K = K → X.calm = true → ∀ (i : Nat) (pins : List (Addr × Obj)) (s : Shared) (σ : St) (H : Hp) (E : Value → Shared → Prop), Inv X pins σ H s → (∀ b ∈ fp, FpOk X pins H b) → tn i s.heap → J.stop i H →
    wpAny (model P w) X.A (pyNext (.ref it)) (fun r s1 => r = none ∧ Inv X pins σ H s1) E s
  self : ∀ (A : Around) (i : Nat) (s : Shared) (Q : Value → Shared → Prop) (E : Value → Shared → Prop), tn i s.heap → Q (.ref it) s → wpAny (model P w) A (pyIter (.ref it)) Q E s
abbrev TI := St → Hp → (It → Hp → Prop) → Prop
/-- an iterator has come -/
def PIE (X : Cx) (pins : List (Addr × Obj)) (σ : St) (tg : Expr) (R : It → Hp → Prop) (itv : Value) (s2 : Shared) : Prop :=
  ∃ (it : Addr) (fp : List Addr) (tn : Nat → Heap → Prop) (J : It) (H' : Hp), itv = .ref it ∧ Inv X pins σ H' s2 ∧ Turn X.prog X.w X.K tg J fp it tn ∧ tn 0 s2.heap ∧ (∀ b ∈ fp, FpOk X pins H' b) ∧ R J H'
def PI (X : Cx) (tg iter : Expr) (wi : TI) : Prop :=
  ∀ (pins : List (Addr × Obj)) (s : Shared) (σ : St) (H : Hp) (R : It → Hp → Prop), Inv X pins σ H s → wi σ H R →
    wpAny (model X.prog X.w) X.A (eval iter X.env) (fun v s1 => wpAny (model X.prog X.w) X.A (pyIter v) (PIE X pins σ tg R) X.xe s1) X.xe s

/-- the step ahead of the store is nothing for an iterator that keeps no tuple -/
theorem go_of {M : Model} {A : Around} {E : Value → Shared → Prop} {s : Shared} {tg : Expr} {it : Addr} {u : Value} {o : Obj} {n : String} {vs : Array Value} {Q : Unit → Shared → Prop} (ho : s.heap.get? it = some o) (hc : o.cls = .type n) (hd : o.data = .fields vs)
    (hn : ["enumerate", "zip", "dict_itemiterator", "dict_reverseitemiterator", "odict_iterator", "itertools.zip_longest", "itertools.pairwise"].contains n = false) (hQ : Q () s) : wpAny M A (letOwnedTupleGo tg (.ref it) u) Q E s := by
  unfold letOwnedTupleGo
  cases tg <;> first
    | exact wpAny_pure hQ
    | (cases u <;> first
        | exact wpAny_pure hQ
        | (refine wpAny_bind (wpAny_load ho ?_)
           rw [hc, hd]
           show wpAny M A (if (["enumerate", "zip", "dict_itemiterator", "dict_reverseitemiterator", "odict_iterator", "itertools.zip_longest", "itertools.pairwise"].contains n && vs[0]? == some (rawInt _)) = true then _ else _) Q E s
           rw [if_neg (by intro h; rw [hn, Bool.false_and] at h; cases h)]
           exact wpAny_pure hQ))

/-- the list at a, as it stands at each turn (a loop may append to it) -/
def Itl (K : PySem.W.Frag) (a : Addr) : It :=
  ⟨fun i H => ∃ xs x, SqL K H a xs ∧ xs[i]? = some x, fun i H x H' => H' = H ∧ ∀ xs, SqL K H a xs → xs[i]? = some x, fun i H => ∃ xs, SqL K H a xs ∧ xs.length ≤ i⟩
def Itt (K : PySem.W.Frag) (a : Addr) : It :=
  ⟨fun i H => ∃ xs x, SqT K H a xs ∧ xs[i]? = some x, fun i H x H' => H' = H ∧ ∀ xs, SqT K H a xs → xs[i]? = some x, fun i H => ∃ xs, SqT K H a xs ∧ xs.length ≤ i⟩
/-- lo, lo + 1, .. (n of them) -/
def Itr (lo : Int) (n : Nat) : It := ⟨fun i _ => i < n, fun i H x H' => H' = H ∧ x = .int (lo + i), fun i _ => n ≤ i⟩
theorem turn_list {P : Program} {w : World} {K : PySem.W.Frag} {tg : Expr} (a it : Addr) : Turn P w K tg (Itl K a) [it] it (fun i h => h.IsListIter it a i) where
  mem := by simp
  obj := fun i h st b hb => by
    have e : b = it := by simpa using hb
    subst e
    obtain ⟨o, e, c, d⟩ := st
    exact ⟨o, e, fun v z => by rw [d] at z; cases z⟩
  keep := fun i h h' st k => st.at fun o e => k it (by simp) o e
  item := by
    intro X hP hw hK hc i pins s σ H E I hf st hg
    subst hP hw hK
    obtain ⟨xs, x, hq, hx⟩ := hg
    obtain ⟨its, rv, p, hz⟩ := I.list hq
    obtain ⟨u, hu, ru⟩ := rv.get hx
    obtain ⟨f0, f1, f2, f3, f4, f5⟩ := hf it (by simp)
    refine wpAny_pyNext_list_item st p.isList (x := u) (by simpa using hu) fun h' st' sb => ?_
    have I1 : Inv X pins σ H { s with heap := h' } := I.turned (t' := s.toks) (fun b o hb e => (sb.2 b hb).trans e) f0 f1 f3 f4 f5
    obtain ⟨o, e, c, d⟩ := id st'
    exact ⟨u, rfl, go_of (s := { s with heap := h' }) e c d (by decide) ⟨x, H, I1, ru, ⟨rfl, fun ys hy => by rw [I.list_inj hy hq]; exact hx⟩, st', fun b hb => (hf b hb).1⟩⟩
  done := by
    intro X hP hw hK hc i pins s σ H E I hf st hg
    subst hP hw hK
    obtain ⟨xs, hq, hx⟩ := hg
    obtain ⟨its, rv, p, hz⟩ := I.list hq
    obtain ⟨f0, f1, f2, f3, f4, f5⟩ := hf it (by simp)
    have hl := rv.length
    exact wpAny_pyNext_list_end (I.ok.hd hc) st p.isList (by simp; omega) fun h' eb => ⟨rfl, I.turned (t' := s.toks) (fun b o hb e => eb b o hb e) f0 f1 f3 f4 f5⟩
  self := fun _ _ _ _ _ st h => wpAny_pyIter_listiter st h
theorem turn_tuple {P : Program} {w : World} {K : PySem.W.Frag} {tg : Expr} (a it : Addr) : Turn P w K tg (Itt K a) [it] it (fun i h => h.IsTupleIter it a i) where
  mem := by simp
  obj := fun i h st b hb => by
    have e : b = it := by simpa using hb
    subst e
    obtain ⟨o, e, c, d⟩ := st
    exact ⟨o, e, fun v z => by rw [d] at z; cases z⟩
  keep := fun i h h' st k => st.at fun o e => k it (by simp) o e
  item := by
    intro X hP hw hK hc i pins s σ H E I hf st hg
    subst hP hw hK
    obtain ⟨xs, x, hq, hx⟩ := hg
    obtain ⟨its, rv, p, hz⟩ := I.tuple hq
    obtain ⟨u, hu, ru⟩ := rv.get hx
    obtain ⟨f0, f1, f2, f3, f4, f5⟩ := hf it (by simp)
    refine wpAny_pyNext_tuple_item st (show s.heap.IsTuple a its.toArray from p) (x := u) (by simpa using hu) fun h' st' sb => ?_
    have I1 : Inv X pins σ H { s with heap := h' } := I.turned (t' := s.toks) (fun b o hb e => (sb.2 b hb).trans e) f0 f1 f3 f4 f5
    obtain ⟨o, e, c, d⟩ := id st'
    exact ⟨u, rfl, go_of (s := { s with heap := h' }) e c d (by decide) ⟨x, H, I1, ru, ⟨rfl, fun ys hy => by rw [I.tuple_inj hy hq]; exact hx⟩, st', fun b hb => (hf b hb).1⟩⟩
  done := by
    intro X hP hw hK hc i pins s σ H E I hf st hg
    subst hP hw hK
    obtain ⟨xs, hq, hx⟩ := hg
    obtain ⟨its, rv, p, hz⟩ := I.tuple hq
    obtain ⟨f0, f1, f2, f3, f4, f5⟩ := hf it (by simp)
    have hl := rv.length
    exact wpAny_pyNext_tuple_end (I.ok.hd hc) st (show s.heap.IsTuple a its.toArray from p) (by simp; omega) fun h' eb => ⟨rfl, I.turned (t' := s.toks) (fun b o hb e => eb b o hb e) f0 f1 f3 f4 f5⟩
  self := fun _ _ _ _ _ st h => wpAny_pyIter_tupleiter st h
theorem turn_range {P : Program} {w : World} {K : PySem.W.Frag} {tg : Expr} (it : Addr) (lo : Int) (n : Nat) : Turn P w K tg (Itr lo n) [it] it (fun i h => IsRangeIter h it (lo + (i : Nat) * 1) ((n : Int) - (i : Nat)) 1) where
  mem := by simp
  obj := fun i h st b hb => by
    have e : b = it := by simpa using hb
    subst e
    exact ⟨_, st, fun v z => by
      have z' : Data.fields _ = Data.cell v := z
      cases z'⟩
  keep := fun i h h' st k => k it (by simp) _ st
  item := by
    intro X hP hw hK hc i pins s σ H E I hf st hg
    subst hP hw hK
    obtain ⟨f0, f1, f2, f3, f4, f5⟩ := hf it (by simp)
    have W := Walks.range (prog := X.prog) (w := X.w) (I.ok.hd hc) it lo 1 n
    refine W.item i s _ _ hg st fun v h' tk hv st' kk => ?_
    obtain ⟨t, rfl⟩ := hv
    have I1 : Inv X pins σ H { s with heap := h', toks := tk } := I.turned (fun b o hb e => kk b o (by simpa using hb) e) f0 f1 f3 f4 f5
    refine ⟨_, rfl, go_of (s := { s with heap := h', toks := tk }) (n := "range_iterator") st' rfl rfl (by decide) ⟨.int (lo + i), H, I1, ⟨t, ?_⟩, ⟨rfl, rfl⟩, st', fun b hb => (hf b hb).1⟩⟩
    rw [Int.mul_one]
  done := by
    intro X hP hw hK hc i pins s σ H E I hf st hg
    subst hP hw hK
    obtain ⟨f0, f1, f2, f3, f4, f5⟩ := hf it (by simp)
    exact wpAny_pyNext_range_end (I.ok.hd hc) st (by have : n ≤ i := hg; omega) fun h' eb => ⟨rfl, I.turned (t' := s.toks) (fun b o hb e => eb b o hb e) f0 f1 f3 f4 f5⟩
  self := fun _ _ _ _ _ st h => wpAny_pyIter_rangeiter st h
end L2

namespace L2
open PySem PySem.Spec PyProof.Rows
section
variable {X : Cx} {tg : Expr}
def iList (K : PySem.W.Frag) (tl : TE) : TI := fun σ H R => tl σ H fun x H1 => ∃ a, x = .ref a ∧ (∃ xs, SqL K H1 a xs) ∧ R (Itl K a) H1
def iTup (K : PySem.W.Frag) (tl : TE) : TI := fun σ H R => tl σ H fun x H1 => ∃ a, x = .ref a ∧ (∃ xs, SqT K H1 a xs) ∧ R (Itt K a) H1
theorem pi_list {l : Expr} {tl : TE} (hl : PE X l tl) : PI X tg l (iList X.K tl) := by
  intro pins s σ H R I h
  refine thn (hl pins s σ H _ I h) fun v s1 ⟨x, H1, I1, r1, q1⟩ => ?_
  obtain ⟨a, e, ⟨xs, hq⟩, q⟩ := q1
  subst e
  cases r1
  obtain ⟨its, rv, p, hz⟩ := I1.list hq
  refine wpAny_pyIter_list p.isList ?_
  refine ⟨s1.heap.objs.size, [s1.heap.objs.size], _, _, H1, rfl, I1.kept (t' := s1.toks) fun b o e => Heap.get?_push_of_some _ e, turn_list a _, ⟨_, Heap.get?_push_size _ rfl, rfl, rfl⟩, fun b hb => ?_, q⟩
  have e : b = s1.heap.objs.size := by simpa using hb
  subst e
  exact I1.fpOk (Nat.le_refl _) (I1.hok.fresh (Nat.le_refl _))
theorem pi_tup {l : Expr} {tl : TE} (hl : PE X l tl) : PI X tg l (iTup X.K tl) := by
  intro pins s σ H R I h
  refine thn (hl pins s σ H _ I h) fun v s1 ⟨x, H1, I1, r1, q1⟩ => ?_
  obtain ⟨a, e, ⟨xs, hq⟩, q⟩ := q1
  subst e
  cases r1
  obtain ⟨its, rv, p, hz⟩ := I1.tuple hq
  refine wpAny_pyIter_tuple (show s1.heap.IsTuple a its.toArray from p) ?_
  refine ⟨s1.heap.objs.size, [s1.heap.objs.size], _, _, H1, rfl, I1.kept (t' := s1.toks) fun b o e => Heap.get?_push_of_some _ e, turn_tuple a _, ⟨_, Heap.get?_push_size _ rfl, rfl, rfl⟩, fun b hb => ?_, q⟩
  have e : b = s1.heap.objs.size := by simpa using hb
  subst e
  exact I1.fpOk (Nat.le_refl _) (I1.hok.fresh (Nat.le_refl _))
/-- a range object just made, walked -/
theorem range_it {pins : List (Addr × Obj)} {σ : St} {H : Hp} {s : Shared} {R : It → Hp → Prop} {E : Value → Shared → Prop} {lo hi : Int} {t u v : Tok} {tk : Nat} (I : Inv X pins σ H s) (h1 : -(2 ^ 62) ≤ lo) (h2 : lo < 2 ^ 62) (h3 : -(2 ^ 62) ≤ hi) (h4 : hi < 2 ^ 62)
    (q : R (Itr lo (hi - lo).toNat) H) : wpAny (model X.prog X.w) X.A (pyIter (.ref s.heap.objs.size)) (PIE X pins σ tg R) E { s with heap := s.heap.push { cls := .type "range", data := .fields #[.int lo t, .int hi u, .int 1 v] }, toks := tk } := by
  refine wpAny_pyIter_range (IsRange.new ..) (small_one h1 h2 h3 h4) ?_
  have I1 : Inv X pins σ H { s with heap := s.heap.push { cls := .type "range", data := .fields #[.int lo t, .int hi u, .int 1 v] }, toks := tk } := I.kept fun b o e => Heap.get?_push_of_some _ e
  refine ⟨(s.heap.push { cls := .type "range", data := .fields #[.int lo t, .int hi u, .int 1 v] }).objs.size, [(s.heap.push { cls := .type "range", data := .fields #[.int lo t, .int hi u, .int 1 v] }).objs.size], _, _, H, rfl,
    I1.kept (t' := tk) fun b o e => Heap.get?_push_of_some _ e, turn_range _ lo (hi - lo).toNat, ?_, fun b hb => ?_, q⟩
  · have e1 : lo + ((0 : Nat) : Int) * 1 = lo := by simp
    have e2 : (((hi - lo).toNat : Nat) : Int) - ((0 : Nat) : Int) = Builtin.Range.rangeSize lo hi 1 := by rw [rangeSize_one]; split <;> omega
    show IsRangeIter _ _ (lo + ((0 : Nat) : Int) * 1) ((((hi - lo).toNat : Nat) : Int) - ((0 : Nat) : Int)) 1
    rw [e1, e2]
    exact Heap.get?_push_size _ rfl
  · have e : b = (s.heap.push { cls := .type "range", data := .fields #[.int lo t, .int hi u, .int 1 v] }).objs.size := by simpa using hb
    subst e
    exact I1.fpOk (Nat.le_refl _) (I1.hok.fresh (Nat.le_refl _))
def iRng1 (ta : TA) : TI := fun σ H R => ta σ H fun vs H1 => ∃ j : Int, vs = [.int j] ∧ -(2 ^ 62) ≤ j ∧ j < 2 ^ 62 ∧ R (Itr 0 j.toNat) H1
def iRng2 (ta : TA) : TI := fun σ H R => ta σ H fun vs H1 => ∃ i j : Int, vs = [.int i, .int j] ∧ (-(2 ^ 62) ≤ i ∧ i < 2 ^ 62 ∧ -(2 ^ 62) ≤ j ∧ j < 2 ^ 62) ∧ R (Itr i (j - i).toNat) H1
theorem pi_range1 {a : Expr} {ta : TA} {p pos : Pos} (hg : Gl X "range") (hm : X.mg "range" = none) (ha : PA X [a] ta) (hs : starEach [a] X.env = [(false, eval a X.env)] := by rfl) : PI X tg (.Call (.Name "range" p) [a] [] pos) (iRng1 ta) := by
  intro pins s σ H R I h
  refine Call_ (ld_blt I hg hm boot_range (PyProof.Rows.callWith_type1 (thn (ha pos pins s σ H _ I h) fun us s1 ⟨vs, H1, I1, r1, q1⟩ => ?_) hs rfl))
  obtain ⟨j, e, q1, q2, q⟩ := q1
  subst e
  cases r1 with
  | cons r rr =>
    cases rr
    obtain ⟨t, rfl⟩ := r
    exact call_range_1 (range_it I1 (by omega) (by omega) q1 q2 (by simpa using q))
theorem pi_range2 {a b : Expr} {ta : TA} {p pos : Pos} (hg : Gl X "range") (hm : X.mg "range" = none) (ha : PA X [a, b] ta) (hs : starEach [a, b] X.env = [(false, eval a X.env), (false, eval b X.env)] := by rfl) (hs2 : starEach [b] X.env = [(false, eval b X.env)] := by rfl) :
    PI X tg (.Call (.Name "range" p) [a, b] [] pos) (iRng2 ta) := by
  intro pins s σ H R I h
  refine Call_ (ld_blt I hg hm boot_range (PyProof.Rows.callWith_type1 (thn (ha pos pins s σ H _ I h) fun us s1 ⟨vs, H1, I1, r1, q1⟩ => ?_) (by rw [hs, hs2]) (by rw [hs2]; rfl)))
  obtain ⟨i, j, e, ⟨q1, q2, q3, q4⟩, q⟩ := q1
  subst e
  cases r1 with
  | cons r rr =>
    cases rr with
    | cons r' rr =>
      cases rr
      obtain ⟨t, rfl⟩ := r
      obtain ⟨t', rfl⟩ := r'
      exact call_range_2 (range_it I1 q1 q2 q3 q4 q)

/-! ### for -/
/-- W: the invariant by the turn and a measure; N: what the body is to reach -/
def tFor (wi : TI) (g : TG) (tb : TS) : TS := fun D σ H => wi σ H fun J H1 => ∃ W : Nat → Nat → St → Hp → Prop, (∃ m, W 0 m σ H1) ∧ ∀ i m σ H, W i m σ H →
  (J.stop i H ∧ D.nx σ H) ∨ (J.go i H ∧ ∃ N : St → Hp → Prop, (∀ σ' H', N σ' H' → ∃ m', m' < m ∧ W (i + 1) m' σ' H') ∧ ∀ x H', J.yld i H x H' → g x σ H' fun σ2 H2 => tb { D with nx := N, ct := N, bk := D.nx } σ2 H2)
/-- the records at fp as they stand -/
def pinsAt (fp : List Addr) (h : Heap) : List (Addr × Obj) := fp.filterMap fun b => (h.get? b).map fun o => (b, o)
theorem mem_pinsAt {fp : List Addr} {h : Heap} {b : Addr} {o : Obj} (hb : b ∈ fp) (e : h.get? b = some o) : (b, o) ∈ pinsAt fp h := List.mem_filterMap.mpr ⟨b, hb, by rw [e]; rfl⟩
theorem of_pinsAt {fp : List Addr} {h : Heap} {p : Addr × Obj} (hp : p ∈ pinsAt fp h) : p.1 ∈ fp ∧ h.get? p.1 = some p.2 := by
  obtain ⟨b, hb, e⟩ := List.mem_filterMap.mp hp
  cases q : h.get? b with
  | none => rw [q] at e; cases e
  | some o =>
    rw [q] at e
    have e' : (b, o) = p := Option.some.inj e
    subst e'
    exact ⟨hb, q⟩
theorem Inv.pinned {pins : List (Addr × Obj)} {σ : St} {H : Hp} {s : Shared} {fp : List Addr} (I : Inv X pins σ H s) (hf : ∀ b ∈ fp, FpOk X pins H b) (ho : ∀ b ∈ fp, ∃ o, s.heap.get? b = some o ∧ ∀ v, o.data ≠ .cell v) : Inv X (pins ++ pinsAt fp s.heap) σ H s :=
  I.pins_of fun p hp => (List.mem_append.mp hp).elim (fun z => I.pin p (List.mem_append_right _ z)) fun z => by
    obtain ⟨hb, e⟩ := of_pinsAt z
    obtain ⟨f0, f1, f2, _⟩ := hf p.1 hb
    obtain ⟨o, e', d⟩ := ho p.1 hb
    rw [e] at e'; cases e'
    exact ⟨e, f0, f1, f2, d⟩
theorem Inv.unpinned {pins pl : List (Addr × Obj)} {σ : St} {H : Hp} {s : Shared} (I : Inv X (pins ++ pl) σ H s) : Inv X pins σ H s := I.pins_of fun p hp => I.pin p (List.mem_append_right _ (List.mem_append_left _ hp))
theorem ps_for {iter : Expr} {body : List Stmt} {wi : TI} {g : TG} {tb : TS} {pos : Pos} (hp : PassesOwn (model X.prog X.w) X.A X.env X.xe) (hc : X.calm = true) (hi : PI X tg iter wi) (hg : PG X tg g) (hb : PSs X body tb)
    (hs : ∀ x, foldedSetIterable iter X.env x = pure x := by intro _; rfl) : PS X (.For tg iter body [] pos) (tFor wi g tb) := by
  intro pins s σ H D I h
  refine wpAny_For (thn (hi pins s σ H _ I h) fun v s1 h1 => thn h1 fun itv s2 h2 => ?_) hs
  obtain ⟨it, fp, tn, J, H2, e, I2, T, st2, f2, W, ⟨m0, w0⟩, turn⟩ := h2
  subst e
  -- what stays true of the iterator's objects through the loop
  have stat : ∀ {H' : Hp}, (∀ b ∈ fp, H' b = none) → ∀ b ∈ fp, FpOk X pins H' b := fun hn b hb => ⟨hn b hb, (f2 b hb).2⟩
  refine codeAny_forLoop_any (fun n s' => ∃ i σ' H', Inv X pins σ' H' s' ∧ tn i s'.heap ∧ (∀ b ∈ fp, H' b = none) ∧ W i n σ' H') ?_ m0 ⟨0, σ, H2, I2, st2, fun b hb => (f2 b hb).1, w0⟩
  rintro n s3 ⟨i, σ3, H3, I3, st3, fr3, w3⟩
  rcases turn i n σ3 H3 w3 with ⟨stop, qn⟩ | ⟨go, N, hN, step⟩
  · refine wpAny_passesOwn hp (thn (T.done X rfl rfl rfl hc i pins s3 σ3 H3 X.xe I3 (stat fr3) st3 stop) fun r s4 ⟨hr, I4⟩ => ?_)
    subst hr
    exact wpAny_execs_nil ⟨σ3, H3, I4, qn⟩
  · refine wpAny_passesOwn hp (thn (T.item X rfl rfl rfl hc i pins s3 σ3 H3 X.xe I3 (stat fr3) st3 go) fun r s4 ⟨u, hr, h4⟩ => ?_)
    subst hr
    refine wpAny_passesOwn hp (thn h4 fun _ s5 ⟨x, H5, I5, r5, y5, st5, fr5⟩ => ?_)
    have I5' := I5.pinned (stat fr5) (T.obj _ _ st5)
    refine wpAny_passesOwn hp (thn (hg _ s5 σ3 H5 x u _ I5' r5 (step x H5 y5)) fun _ s6 ⟨σ6, H6, I6, q6⟩ => ?_)
    refine wpAny_passesOwn hp (thn (hb _ s6 σ6 H6 _ I6 q6) fun f s7 q7 => ?_)
    have again : ∀ {σ7 : St} {H7 : Hp}, Inv X (pins ++ pinsAt fp s5.heap) σ7 H7 s7 → N σ7 H7 → ∃ m, m < n ∧ ∃ i σ' H', Inv X pins σ' H' s7 ∧ tn i s7.heap ∧ (∀ b ∈ fp, H' b = none) ∧ W i m σ' H' := fun {σ7 H7} I7 n7 => by
      obtain ⟨m', hm, w7⟩ := hN σ7 H7 n7
      refine ⟨m', hm, i + 1, σ7, H7, I7.unpinned, T.keep _ _ _ st5 fun b hb o e => (I7.pin (b, o) (List.mem_append_right _ (List.mem_append_right _ (mem_pinsAt hb e)))).1, fun b hb => ?_, w7⟩
      obtain ⟨o, e, d⟩ := T.obj _ _ st5 b hb
      exact (I7.pin (b, o) (List.mem_append_right _ (List.mem_append_right _ (mem_pinsAt hb e)))).2.1
    cases f with
    | next => obtain ⟨σ7, H7, I7, n7⟩ := q7; exact again I7 n7
    | cont => obtain ⟨σ7, H7, I7, n7⟩ := q7; exact again I7 n7
    | brk => obtain ⟨σ7, H7, I7, q7⟩ := q7; exact ⟨σ7, H7, I7.unpinned, q7⟩
    | ret v => obtain ⟨x7, σ7, H7, I7, r7, q7⟩ := q7; exact ⟨x7, σ7, H7, I7.unpinned, r7, q7⟩
end

/-! ### the forms one uses -/
/-- over a list that the body leaves as it is -/
theorem for_list {K : PySem.W.Frag} {a : Addr} {xs : List V} {g : TG} {tb : TS} {D : Ends} {σ : St} {H : Hp} (Pv : Nat → St → Hp → Prop) (h0 : Pv 0 σ H) (hl : ∀ i σ H, i ≤ xs.length → Pv i σ H → SqL K H a xs)
    (hs : ∀ i x σ H, xs[i]? = some x → Pv i σ H → g x σ H fun σ2 H2 => tb { D with nx := Pv (i + 1), ct := Pv (i + 1), bk := D.nx } σ2 H2) (hd : ∀ σ H, Pv xs.length σ H → D.nx σ H) :
    ∃ W : Nat → Nat → St → Hp → Prop, (∃ m, W 0 m σ H) ∧ ∀ i m σ H, W i m σ H →
      ((Itl K a).stop i H ∧ D.nx σ H) ∨ ((Itl K a).go i H ∧ ∃ N : St → Hp → Prop, (∀ σ' H', N σ' H' → ∃ m', m' < m ∧ W (i + 1) m' σ' H') ∧ ∀ x H', (Itl K a).yld i H x H' → g x σ H' fun σ2 H2 => tb { D with nx := N, ct := N, bk := D.nx } σ2 H2) := by
  refine ⟨fun i m σ H => m = xs.length - i ∧ i ≤ xs.length ∧ Pv i σ H, ⟨xs.length, by simp, Nat.zero_le _, h0⟩, ?_⟩
  rintro i m σ H ⟨rfl, hi, p⟩
  have q := hl i σ H hi p
  by_cases hlt : i < xs.length
  · refine .inr ⟨⟨xs, xs[i], q, by simp [hlt]⟩, Pv (i + 1), fun σ' H' p' => ⟨xs.length - (i + 1), by omega, rfl, hlt, p'⟩, fun x H' y => ?_⟩
    obtain ⟨e, y⟩ := y
    subst e
    exact hs i x σ _ (y xs q) p
  · have e : i = xs.length := by omega
    subst e
    exact .inl ⟨⟨xs, q, Nat.le_refl _⟩, hd σ H p⟩
theorem for_tup {K : PySem.W.Frag} {a : Addr} {xs : List V} {g : TG} {tb : TS} {D : Ends} {σ : St} {H : Hp} (Pv : Nat → St → Hp → Prop) (h0 : Pv 0 σ H) (hl : ∀ i σ H, i ≤ xs.length → Pv i σ H → SqT K H a xs)
    (hs : ∀ i x σ H, xs[i]? = some x → Pv i σ H → g x σ H fun σ2 H2 => tb { D with nx := Pv (i + 1), ct := Pv (i + 1), bk := D.nx } σ2 H2) (hd : ∀ σ H, Pv xs.length σ H → D.nx σ H) :
    ∃ W : Nat → Nat → St → Hp → Prop, (∃ m, W 0 m σ H) ∧ ∀ i m σ H, W i m σ H →
      ((Itt K a).stop i H ∧ D.nx σ H) ∨ ((Itt K a).go i H ∧ ∃ N : St → Hp → Prop, (∀ σ' H', N σ' H' → ∃ m', m' < m ∧ W (i + 1) m' σ' H') ∧ ∀ x H', (Itt K a).yld i H x H' → g x σ H' fun σ2 H2 => tb { D with nx := N, ct := N, bk := D.nx } σ2 H2) := by
  refine ⟨fun i m σ H => m = xs.length - i ∧ i ≤ xs.length ∧ Pv i σ H, ⟨xs.length, by simp, Nat.zero_le _, h0⟩, ?_⟩
  rintro i m σ H ⟨rfl, hi, p⟩
  have q := hl i σ H hi p
  by_cases hlt : i < xs.length
  · refine .inr ⟨⟨xs, xs[i], q, by simp [hlt]⟩, Pv (i + 1), fun σ' H' p' => ⟨xs.length - (i + 1), by omega, rfl, hlt, p'⟩, fun x H' y => ?_⟩
    obtain ⟨e, y⟩ := y
    subst e
    exact hs i x σ _ (y xs q) p
  · have e : i = xs.length := by omega
    subst e
    exact .inl ⟨⟨xs, q, Nat.le_refl _⟩, hd σ H p⟩
theorem for_range {lo : Int} {n : Nat} {g : TG} {tb : TS} {D : Ends} {σ : St} {H : Hp} (Pv : Nat → St → Hp → Prop) (h0 : Pv 0 σ H)
    (hs : ∀ i σ H, i < n → Pv i σ H → g (.int (lo + i)) σ H fun σ2 H2 => tb { D with nx := Pv (i + 1), ct := Pv (i + 1), bk := D.nx } σ2 H2) (hd : ∀ σ H, Pv n σ H → D.nx σ H) :
    ∃ W : Nat → Nat → St → Hp → Prop, (∃ m, W 0 m σ H) ∧ ∀ i m σ H, W i m σ H →
      ((Itr lo n).stop i H ∧ D.nx σ H) ∨ ((Itr lo n).go i H ∧ ∃ N : St → Hp → Prop, (∀ σ' H', N σ' H' → ∃ m', m' < m ∧ W (i + 1) m' σ' H') ∧ ∀ x H', (Itr lo n).yld i H x H' → g x σ H' fun σ2 H2 => tb { D with nx := N, ct := N, bk := D.nx } σ2 H2) := by
  refine ⟨fun i m σ H => m = n - i ∧ i ≤ n ∧ Pv i σ H, ⟨n, by simp, Nat.zero_le _, h0⟩, ?_⟩
  rintro i m σ H ⟨rfl, hi, p⟩
  by_cases hlt : i < n
  · refine .inr ⟨hlt, Pv (i + 1), fun σ' H' p' => ⟨n - (i + 1), by omega, rfl, hlt, p'⟩, fun x H' y => ?_⟩
    obtain ⟨e, y⟩ := y
    subst e y
    exact hs i σ _ hlt p
  · have e : i = n := by omega
    subst e
    exact .inl ⟨Nat.le_refl _, hd σ H p⟩
/-- while, by a word and a measure of the state -/
theorem while_by {c : TT} {tb : TS} {D : Ends} {σ : St} {H : Hp} (Pv : St → Hp → Prop) (μ : St → Hp → Nat) (h0 : Pv σ H)
    (hs : ∀ σ H, Pv σ H → c σ H fun b H1 => if b = true then tb { D with nx := fun σ' H' => Pv σ' H' ∧ μ σ' H' < μ σ H, ct := fun σ' H' => Pv σ' H' ∧ μ σ' H' < μ σ H, bk := D.nx } σ H1 else D.nx σ H1)
    (mono : ∀ σ H Q Q', (∀ b H1, Q b H1 → Q' b H1) → c σ H Q → c σ H Q') : tWhile c tb D σ H := by
  refine ⟨fun m σ H => m = μ σ H ∧ Pv σ H, ⟨_, rfl, h0⟩, ?_⟩
  rintro m σ H ⟨rfl, p⟩
  refine mono σ H _ _ (fun b H1 q => ?_) (hs σ H p)
  cases b with
  | true => exact ⟨_, fun σ' H' ⟨p', l⟩ => ⟨_, l, rfl, p'⟩, q⟩
  | false => exact q
end L2

namespace L2
open PySem PySem.Spec PyProof.Rows

abbrev R2 := V → V → Hp → VK → Prop
/-- a two-place operation on values: f is binaryOp op, inplaceOp op or compareOp op -/
def OpR (X : Cx) (f : Value → Value → Sem Value) (r : R2) : Prop :=
  ∀ (pins : List (Addr × Obj)) (s : Shared) (σ : St) (H : Hp) (x y : V) (v u : Value) (Q : VK), Inv X pins σ H s → RelV x v → RelV y u → r x y H Q →
    wpAny (model X.prog X.w) X.A (f v u) (EP X pins σ Q) X.xe s
/-- a one-place operation -/
def UnR (X : Cx) (f : Value → Sem Value) (r : V → Hp → VK → Prop) : Prop :=
  ∀ (pins : List (Addr × Obj)) (s : Shared) (σ : St) (H : Hp) (x : V) (v : Value) (Q : VK), Inv X pins σ H s → RelV x v → r x H Q →
    wpAny (model X.prog X.w) X.A (f v) (EP X pins σ Q) X.xe s
/-- a call of a value that is known (a builtin, a type) with values -/
def CallR (X : Cx) (f : Value) (r : List V → Hp → VK → Prop) : Prop :=
  ∀ (pins : List (Addr × Obj)) (s : Shared) (σ : St) (H : Hp) (xs : List V) (us : List Value) (Q : VK), Inv X pins σ H s → Vals xs us → r xs H Q →
    wpAny (model X.prog X.w) X.A (call f us) (EP X pins σ Q) X.xe s
/-- a value's truth -/
def TruR (X : Cx) (r : V → Hp → (Bool → Hp → Prop) → Prop) : Prop :=
  ∀ (pins : List (Addr × Obj)) (s : Shared) (σ : St) (H : Hp) (x : V) (v : Value) (Q : Bool → Hp → Prop), Inv X pins σ H s → RelV x v → r x H Q →
    wpAny (model X.prog X.w) X.A (truthy v) (TP X pins σ Q) X.xe s

def tOp (r : R2) (ta tb : TE) : TE := fun σ H Q => ta σ H fun x H1 => tb σ H1 fun y H2 => r x y H2 Q
def tUn (r : V → Hp → VK → Prop) (ta : TE) : TE := fun σ H Q => ta σ H fun x H1 => r x H1 Q
/-- ints in, under C, and a value out -/
def rI (C : Int → Int → Prop) (g : Int → Int → V) : R2 := fun x y H Q => ∃ i j, x = .int i ∧ y = .int j ∧ C i j ∧ Q (g i j) H
def rI0 (g : Int → Int → V) : R2 := fun x y H Q => ∃ i j, x = .int i ∧ y = .int j ∧ Q (g i j) H
def rU (g : Int → V) : V → Hp → VK → Prop := fun x H Q => ∃ i, x = .int i ∧ Q (g i) H

section
variable {X : Cx} {a b c : Expr} {ta tb tc : TE} {pos : Pos}

theorem binT (ha : PE X a ta) (hb : PE X b tb) {pins : List (Addr × Obj)} {s : Shared} {σ : St} {H : Hp} {R : V → V → Hp → Prop} (I : Inv X pins σ H s)
    (h : ta σ H fun x H1 => tb σ H1 fun y H2 => R x y H2) {Q : Value → Shared → Prop} {f : Value → Value → Sem Value}
    (hf : ∀ v u s2 x y H2, Inv X pins σ H2 s2 → RelV x v → RelV y u → R x y H2 → wpAny (model X.prog X.w) X.A (f v u) Q X.xe s2) :
    wpAny (model X.prog X.w) X.A (eval a X.env) (fun v s₁ => wpAny (model X.prog X.w) X.A (eval b X.env) (fun u s₂ => wpAny (model X.prog X.w) X.A (f v u) Q X.xe s₂) X.xe s₁) X.xe s := by
  refine thn (ha pins s σ H _ I h) fun v s1 ⟨x, H1, I1, r1, q1⟩ => ?_
  refine thn (hb pins s1 σ H1 _ I1 q1) fun u s2 ⟨y, H2, I2, r2, q2⟩ => ?_
  exact hf v u s2 x y H2 I2 r1 r2 q2

theorem pe_op {op : Operator} {r : R2} (ho : OpR X (binaryOp op) r) (ha : PE X a ta) (hb : PE X b tb) : PE X (.BinOp a op b pos) (tOp r ta tb) := by
  intro pins s σ H Q I h
  exact wpAny_BinOp (binT ha hb I h fun v u s2 x y H2 I2 rx ry q => ho pins s2 σ H2 x y v u Q I2 rx ry q)
theorem pe_un {op : UnaryOp} {r : V → Hp → VK → Prop} (ho : UnR X (unaryOp op) r) (ha : PE X a ta) : PE X (.UnaryOp op a pos) (tUn r ta) := by
  intro pins s σ H Q I h
  exact UnaryOp_ (thn (ha pins s σ H _ I h) fun v s1 ⟨x, H1, I1, r1, q1⟩ => ho pins s1 σ H1 x v Q I1 r1 q1)
/-- a op= e at a name: the name's slot i -/
theorem augR {op : Operator} {r : R2} (ho : OpR X (inplaceOp op) r) {pins : List (Addr × Obj)} {s : Shared} {σ : St} {H : Hp} {x y : V} {v u : Value} {Q : VK} (I : Inv X pins σ H s)
    (rx : RelV x v) (ry : RelV y u) (q : r x y H Q) : wpAny (model X.prog X.w) X.A (inplaceOp op v u) (EP X pins σ Q) X.xe s := ho pins s σ H x y v u Q I rx ry q

/-! ### ints -/
theorem opI {f : Value → Value → Sem Value} {C : Int → Int → Prop} {g : Int → Int → Int}
    (rule : ∀ (i j : Int) (t u : Tok) (s : Shared) (Q : Value → Shared → Prop) (E : Value → Shared → Prop), C i j → Q (.int (g i j) s.toks) { s with toks := s.toks + 1 } → wpAny (model X.prog X.w) X.A (f (.int i t) (.int j u)) Q E s) :
    OpR X f (rI C fun i j => .int (g i j)) := by
  intro pins s σ H x y v u Q I rx ry h
  obtain ⟨i, j, rfl, rfl, hc, q⟩ := h
  obtain ⟨t, rfl⟩ := rx
  obtain ⟨t', rfl⟩ := ry
  exact rule i j t t' s _ _ hc ⟨.int (g i j), H, I.tok _, ⟨_, rfl⟩, q⟩
theorem opI0 {f : Value → Value → Sem Value} {g : Int → Int → Int}
    (rule : ∀ (i j : Int) (t u : Tok) (s : Shared) (Q : Value → Shared → Prop) (E : Value → Shared → Prop), Q (.int (g i j) s.toks) { s with toks := s.toks + 1 } → wpAny (model X.prog X.w) X.A (f (.int i t) (.int j u)) Q E s) :
    OpR X f (rI0 fun i j => .int (g i j)) := by
  intro pins s σ H x y v u Q I rx ry h
  obtain ⟨i, j, rfl, rfl, q⟩ := h
  obtain ⟨t, rfl⟩ := rx
  obtain ⟨t', rfl⟩ := ry
  exact rule i j t t' s _ _ ⟨.int (g i j), H, I.tok _, ⟨_, rfl⟩, q⟩
theorem opB0 {f : Value → Value → Sem Value} {g : Int → Int → Bool}
    (rule : ∀ (i j : Int) (t u : Tok) (s : Shared) (Q : Value → Shared → Prop) (E : Value → Shared → Prop), Q (.bool (g i j)) s → wpAny (model X.prog X.w) X.A (f (.int i t) (.int j u)) Q E s) :
    OpR X f (rI0 fun i j => .bl (g i j)) := by
  intro pins s σ H x y v u Q I rx ry h
  obtain ⟨i, j, rfl, rfl, q⟩ := h
  obtain ⟨t, rfl⟩ := rx
  obtain ⟨t', rfl⟩ := ry
  exact rule i j t t' s _ _ ⟨.bl (g i j), H, I, rfl, q⟩

def CDiv (i j : Int) : Prop := 0 < j ∧ j < 1073741824
def CDivN (i j : Int) : Prop := j ≠ 0 ∧ j.natAbs < 1073741824
def CPow (i j : Int) : Prop := 0 ≤ j ∧ j ≤ 1000000 ∧ i.natAbs < 2 ^ 64
def CMul (i j : Int) : Prop := (-(2 ^ 64) < i ∧ i < 2 ^ 64) ∨ (-(2 ^ 64) < j ∧ j < 2 ^ 64)
theorem CMul.ok {i j : Int} (h : CMul i j) : IntMulOk i j := by
  rcases h with ⟨h1, h2⟩ | ⟨h1, h2⟩
  · exact .of_left (intBits_le_64 h1 h2)
  · exact .of_right (intBits_le_64 h1 h2)
theorem two_pow_nn (k : Nat) : (0 : Int) ≤ 2 ^ k := by
  rw [two_pow_cast]
  exact Int.natCast_nonneg _

theorem op_add : OpR X (binaryOp .Add) (rI0 fun i j => .int (i + j)) := opI0 fun _ _ _ _ _ _ _ q => add_int q
theorem op_sub : OpR X (binaryOp .Sub) (rI0 fun i j => .int (i - j)) := opI0 fun _ _ _ _ _ _ _ q => sub_int q
theorem op_mul : OpR X (binaryOp .Mult) (rI CMul fun i j => .int (i * j)) := opI fun _ _ _ _ _ _ _ hc q => mul_int q hc.ok
/-- // by a positive divisor -/
theorem op_fdiv : OpR X (binaryOp .FloorDiv) (rI CDiv fun i j => .int (i / j)) := opI fun i j _ _ _ _ _ hc q => by
  have h1 : (0 : Int) < j := hc.1
  have h2 : j < 1073741824 := hc.2
  exact floordiv_int (by omega) (by rw [Int.fdiv_eq_ediv_of_nonneg i (by omega)]; exact q) (.inl (PyProof.noPylong_small (by omega)))
theorem op_fdivN : OpR X (binaryOp .FloorDiv) (rI CDivN fun i j => .int (i.fdiv j)) := opI fun _ _ _ _ _ _ _ hc q => floordiv_int hc.1 q (.inl (PyProof.noPylong_small hc.2))
/-- % by a positive divisor of any size -/
theorem op_mod : OpR X (binaryOp .Mod) (rI (fun _ j => 0 < j) fun i j => .int (i % j)) := opI fun i j _ _ _ _ _ hc q => by
  have h1 : (0 : Int) < j := hc
  exact mod_int' (by omega) (by rw [Int.fmod_eq_emod_of_nonneg i (by omega)]; exact q)
theorem op_modN : OpR X (binaryOp .Mod) (rI (fun _ j => j ≠ 0) fun i j => .int (i.fmod j)) := opI fun _ _ _ _ _ _ _ hc q => mod_int' hc q
theorem op_pow : OpR X (binaryOp .Pow) (rI CPow fun i j => .int (i ^ j.toNat)) := opI fun _ _ _ _ _ _ _ hc q => pow_int_small hc.1 hc.2.1 hc.2.2 q
theorem op_shl : OpR X (binaryOp .LShift) (rI CPow fun i j => .int (i * 2 ^ j.toNat)) := opI fun _ _ _ _ _ _ _ hc q => lshift_int_small hc.1 hc.2.1 hc.2.2 q
theorem op_shr : OpR X (binaryOp .RShift) (rI (fun _ j => 0 ≤ j) fun i j => .int (i / 2 ^ j.toNat)) := opI fun i j _ _ _ _ _ hc q =>
  rshift_int hc (by rw [Int.fdiv_eq_ediv_of_nonneg i (two_pow_nn _)]; exact q)
theorem op_and : OpR X (binaryOp .BitAnd) (rI0 fun i j => .int (Builtin.bitAnd i j)) := opI0 fun _ _ _ _ _ _ _ q => and_int q
theorem op_or : OpR X (binaryOp .BitOr) (rI0 fun i j => .int (Builtin.bitOr i j)) := opI0 fun _ _ _ _ _ _ _ q => or_int q
theorem op_xor : OpR X (binaryOp .BitXor) (rI0 fun i j => .int (Builtin.bitXor i j)) := opI0 fun _ _ _ _ _ _ _ q => xor_int q

theorem iop_add : OpR X (inplaceOp .Add) (rI0 fun i j => .int (i + j)) := opI0 fun _ _ _ _ _ _ _ q => iadd_int q
theorem iop_sub : OpR X (inplaceOp .Sub) (rI0 fun i j => .int (i - j)) := opI0 fun _ _ _ _ _ _ _ q => isub_int q
theorem iop_mul : OpR X (inplaceOp .Mult) (rI CMul fun i j => .int (i * j)) := opI fun _ _ _ _ _ _ _ hc q => imul_int q hc.ok
theorem iop_fdiv : OpR X (inplaceOp .FloorDiv) (rI CDiv fun i j => .int (i / j)) := opI fun i j _ _ _ _ _ hc q => by
  have h1 : (0 : Int) < j := hc.1
  have h2 : j < 1073741824 := hc.2
  exact ifloordiv_int (by omega) (by rw [Int.fdiv_eq_ediv_of_nonneg i (by omega)]; exact q) (.inl (PyProof.noPylong_small (by omega)))
theorem iop_mod : OpR X (inplaceOp .Mod) (rI (fun _ j => 0 < j) fun i j => .int (i % j)) := opI fun i j _ _ _ _ _ hc q => by
  have h1 : (0 : Int) < j := hc
  exact imod_int (by omega) (by rw [Int.fmod_eq_emod_of_nonneg i (by omega)]; exact q)
theorem iop_shl : OpR X (inplaceOp .LShift) (rI CPow fun i j => .int (i * 2 ^ j.toNat)) := opI fun _ _ _ _ _ _ _ hc q => ilshift_int_small hc.1 hc.2.1 hc.2.2 q
theorem iop_shr : OpR X (inplaceOp .RShift) (rI (fun _ j => 0 ≤ j) fun i j => .int (i / 2 ^ j.toNat)) := opI fun i j _ _ _ _ _ hc q =>
  irshift_int hc (by rw [Int.fdiv_eq_ediv_of_nonneg i (two_pow_nn _)]; exact q)
theorem iop_and : OpR X (inplaceOp .BitAnd) (rI0 fun i j => .int (Builtin.bitAnd i j)) := opI0 fun _ _ _ _ _ _ _ q => iand_int q
theorem iop_or : OpR X (inplaceOp .BitOr) (rI0 fun i j => .int (Builtin.bitOr i j)) := opI0 fun _ _ _ _ _ _ _ q => ior_int q
theorem iop_xor : OpR X (inplaceOp .BitXor) (rI0 fun i j => .int (Builtin.bitXor i j)) := opI0 fun _ _ _ _ _ _ _ q => ixor_int q

theorem unI {f : Value → Sem Value} {g : Int → Int}
    (rule : ∀ (i : Int) (t : Tok) (s : Shared) (Q : Value → Shared → Prop) (E : Value → Shared → Prop), Q (.int (g i) s.toks) { s with toks := s.toks + 1 } → wpAny (model X.prog X.w) X.A (f (.int i t)) Q E s) :
    UnR X f (rU fun i => .int (g i)) := by
  intro pins s σ H x v Q I rx h
  obtain ⟨i, rfl, q⟩ := h
  obtain ⟨t, rfl⟩ := rx
  exact rule i t s _ _ ⟨.int (g i), H, I.tok _, ⟨_, rfl⟩, q⟩
theorem un_neg : UnR X (unaryOp .USub) (rU fun i => .int (-i)) := unI fun _ _ _ _ _ q => neg_int q
theorem un_inv : UnR X (unaryOp .Invert) (rU fun i => .int (Builtin.bitNot i)) := unI fun _ _ _ _ _ q => invert_int q

/-! ### bools among ints: n += (a < b) -/
theorem op_add_ib : OpR X (binaryOp .Add) (fun x y H Q => ∃ i k, x = .int i ∧ y = .bl k ∧ Q (.int (i + b2i k)) H) := by
  intro pins s σ H x y v u Q I rx ry h
  obtain ⟨i, k, rfl, rfl, q⟩ := h
  obtain ⟨t, rfl⟩ := rx
  cases ry
  exact add_int_bool ⟨.int (i + b2i k), H, I.tok _, ⟨_, rfl⟩, q⟩
end

/-! ### comparisons -/
/-- the scalars that == tells apart as data does -/
def scal : V → V → Bool
  | .non, .non => true | .non, .int _ => true | .int _, .non => true | .non, .bl _ => true | .bl _, .non => true | .non, .str _ => true | .str _, .non => true
  | .int _, .int _ => true | .bl _, .bl _ => true | .str _, .str _ => true | .byt _, .byt _ => true
  | .int _, .str _ => true | .str _, .int _ => true | .bl _, .str _ => true | .str _, .bl _ => true
  | _, _ => false
def rEq : R2 := fun x y H Q => scal x y = true ∧ Q (.bl (decide (x = y))) H
def rNe : R2 := fun x y H Q => scal x y = true ∧ Q (.bl (!decide (x = y))) H

theorem dec_int {i j : Int} : decide (V.int i = V.int j) = (i == j) := by
  rw [Bool.eq_iff_iff]
  simp
theorem dec_bl {i j : Bool} : decide (V.bl i = V.bl j) = (i == j) := by
  rw [Bool.eq_iff_iff]
  simp
theorem dec_str {i j : Str} : decide (V.str i = V.str j) = (i == j) := by
  rw [Bool.eq_iff_iff]
  simp
theorem dec_byt {i j : Array UInt8} : decide (V.byt i = V.byt j) = (i.toList == j.toList) := by
  rw [Bool.eq_iff_iff]
  cases i
  cases j
  simp

section
variable {X : Cx} {a b c : Expr} {ta tb tc : TE} {pos : Pos}
theorem fin_bl {pins : List (Addr × Obj)} {σ : St} {H : Hp} {s : Shared} {Q : VK} {k k' : Bool} (I : Inv X pins σ H s) (q : Q (.bl k) H) (e : k = k') : EP X pins σ Q (.bool k') s := by
  subst e
  exact ⟨.bl k, H, I, rfl, q⟩
theorem op_eq : OpR X (compareOp .Eq) rEq := by
  intro pins s σ H x y v u Q I rx ry h
  obtain ⟨hs, q⟩ := h
  cases x with
  | non =>
    cases rx
    cases y with
    | non => cases ry; exact PySem.EqNone.eq_none_none (fin_bl I q (by simp))
    | bl j => cases ry; exact PySem.EqNone.eq_none_bool (fin_bl I q (by simp))
    | int j => obtain ⟨t', rfl⟩ := ry; exact PySem.EqNone.eq_none_int (fin_bl I q (by simp))
    | str j => obtain ⟨t', rfl⟩ := ry; exact PySem.EqNone.eq_none_str (fin_bl I q (by simp))
    | _ => exact absurd (show false = true from hs) Bool.false_ne_true
  | bl i =>
    cases rx
    cases y with
    | non => cases ry; exact PySem.EqNone.eq_bool_none (fin_bl I q (by simp))
    | bl j => cases ry; exact eq_bool (fin_bl I q dec_bl)
    | str j => obtain ⟨t', rfl⟩ := ry; exact PySem.EqMixed.eq_bool_str (fin_bl I q (by simp))
    | _ => exact absurd (show false = true from hs) Bool.false_ne_true
  | int i =>
    obtain ⟨t, rfl⟩ := rx
    cases y with
    | non => cases ry; exact PySem.EqNone.eq_int_none (fin_bl I q (by simp))
    | int j => obtain ⟨t', rfl⟩ := ry; exact eq_int (fin_bl I q dec_int)
    | str j => obtain ⟨t', rfl⟩ := ry; exact PySem.EqMixed.eq_int_str (fin_bl I q (by simp))
    | _ => exact absurd (show false = true from hs) Bool.false_ne_true
  | str i =>
    obtain ⟨t, rfl⟩ := rx
    cases y with
    | non => cases ry; exact PySem.EqNone.eq_str_none (fin_bl I q (by simp))
    | bl j => cases ry; exact PySem.EqMixed.eq_str_bool (fin_bl I q (by simp))
    | int j => obtain ⟨t', rfl⟩ := ry; exact PySem.EqMixed.eq_str_int (fin_bl I q (by simp))
    | str j => obtain ⟨t', rfl⟩ := ry; exact eq_str (fin_bl I q dec_str)
    | _ => exact absurd (show false = true from hs) Bool.false_ne_true
  | byt i =>
    obtain ⟨t, rfl⟩ := rx
    cases y with
    | byt j => obtain ⟨t', rfl⟩ := ry; exact PySem.W.eq_bytes (fin_bl I q dec_byt)
    | _ => exact absurd (show false = true from hs) Bool.false_ne_true
  | _ => cases y <;> exact absurd (show false = true from hs) Bool.false_ne_true
theorem op_ne : OpR X (compareOp .NotEq) rNe := by
  intro pins s σ H x y v u Q I rx ry h
  obtain ⟨hs, q⟩ := h
  cases x with
  | non =>
    cases rx
    cases y with
    | non => cases ry; exact PySem.EqNone.ne_none_none (fin_bl I q (by simp))
    | bl j => cases ry; exact PySem.EqNone.ne_none_bool (fin_bl I q (by simp))
    | int j => obtain ⟨t', rfl⟩ := ry; exact PySem.EqNone.ne_none_int (fin_bl I q (by simp))
    | str j => obtain ⟨t', rfl⟩ := ry; exact PySem.EqNone.ne_none_str (fin_bl I q (by simp))
    | _ => exact absurd (show false = true from hs) Bool.false_ne_true
  | bl i =>
    cases rx
    cases y with
    | non => cases ry; exact PySem.EqNone.ne_bool_none (fin_bl I q (by simp))
    | bl j => cases ry; exact ne_bool (fin_bl I q (congrArg not dec_bl))
    | str j => obtain ⟨t', rfl⟩ := ry; exact PySem.EqMixed.ne_bool_str (fin_bl I q (by simp))
    | _ => exact absurd (show false = true from hs) Bool.false_ne_true
  | int i =>
    obtain ⟨t, rfl⟩ := rx
    cases y with
    | non => cases ry; exact PySem.EqNone.ne_int_none (fin_bl I q (by simp))
    | int j => obtain ⟨t', rfl⟩ := ry; exact ne_int (fin_bl I q (congrArg not dec_int))
    | str j => obtain ⟨t', rfl⟩ := ry; exact PySem.EqMixed.ne_int_str (fin_bl I q (by simp))
    | _ => exact absurd (show false = true from hs) Bool.false_ne_true
  | str i =>
    obtain ⟨t, rfl⟩ := rx
    cases y with
    | non => cases ry; exact PySem.EqNone.ne_str_none (fin_bl I q (by simp))
    | bl j => cases ry; exact PySem.EqMixed.ne_str_bool (fin_bl I q (by simp))
    | int j => obtain ⟨t', rfl⟩ := ry; exact PySem.EqMixed.ne_str_int (fin_bl I q (by simp))
    | str j => obtain ⟨t', rfl⟩ := ry; exact ne_str (fin_bl I q (congrArg not dec_str))
    | _ => exact absurd (show false = true from hs) Bool.false_ne_true
  | byt i =>
    obtain ⟨t, rfl⟩ := rx
    cases y with
    | byt j => obtain ⟨t', rfl⟩ := ry; exact PySem.W.ne_bytes (fin_bl I q (congrArg not dec_byt))
    | _ => exact absurd (show false = true from hs) Bool.false_ne_true
  | _ => cases y <;> exact absurd (show false = true from hs) Bool.false_ne_true

theorem op_lt : OpR X (compareOp .Lt) (rI0 fun i j => .bl (decide (i < j))) := opB0 fun _ _ _ _ _ _ _ q => lt_int q
theorem op_le : OpR X (compareOp .LtE) (rI0 fun i j => .bl (decide (i ≤ j))) := opB0 fun _ _ _ _ _ _ _ q => le_int q
theorem op_gt : OpR X (compareOp .Gt) (rI0 fun i j => .bl (decide (j < i))) := opB0 fun _ _ _ _ _ _ _ q => gt_int q
theorem op_ge : OpR X (compareOp .GtE) (rI0 fun i j => .bl (decide (j ≤ i))) := opB0 fun _ _ _ _ _ _ _ q => ge_int q
theorem op_lt_str : OpR X (compareOp .Lt) (fun x y H Q => ∃ i j, x = .str i ∧ y = .str j ∧ Q (.bl (decide (i.cps.toList < j.cps.toList))) H) := by
  intro pins s σ H x y v u Q I rx ry h
  obtain ⟨i, j, rfl, rfl, q⟩ := h
  obtain ⟨t, rfl⟩ := rx
  obtain ⟨t', rfl⟩ := ry
  exact lt_str (fin_bl I q rfl)
/-- the one string within the other -/
theorem op_in_str : OpR X (compareOp .In) (fun x y H Q => ∃ i j, x = .str i ∧ y = .str j ∧ Q (.bl (!(Builtin.Str.occurrences j i 0 j.length 1).isEmpty)) H) := by
  intro pins s σ H x y v u Q I rx ry h
  obtain ⟨i, j, rfl, rfl, q⟩ := h
  obtain ⟨t, rfl⟩ := rx
  obtain ⟨t', rfl⟩ := ry
  exact in_str (fin_bl I q rfl)

/-- is None, is not None: the right side a value none -/
theorem op_isN : OpR X (compareOp .Is) (fun x y H Q => y = .non ∧ Q (.bl (decide (x = .non))) H) := by
  intro pins s σ H x y v u Q I rx ry h
  obtain ⟨rfl, q⟩ := h
  cases ry
  refine is_none_gen (fin_bl I q ?_)
  cases x <;> first
    | (cases rx; rfl)
    | (obtain ⟨t, rfl⟩ := rx; rfl)
theorem op_notN : OpR X (compareOp .IsNot) (fun x y H Q => y = .non ∧ Q (.bl (!decide (x = .non))) H) := by
  intro pins s σ H x y v u Q I rx ry h
  obtain ⟨rfl, q⟩ := h
  cases ry
  refine isnot_none_gen (fin_bl I q ?_)
  cases x <;> first
    | (cases rx; rfl)
    | (obtain ⟨t, rfl⟩ := rx; rfl)

theorem op_notin_str : OpR X (compareOp .NotIn) (fun x y H Q => ∃ i j, x = .str i ∧ y = .str j ∧ Q (.bl (!(!(Builtin.Str.occurrences j i 0 j.length 1).isEmpty))) H) := by
  intro pins s σ H x y v u Q I rx ry h
  obtain ⟨i, j, rfl, rfl, q⟩ := h
  obtain ⟨t, rfl⟩ := rx
  obtain ⟨t', rfl⟩ := ry
  exact notIn_str (fin_bl I q rfl)
/-- is, is not of two objects that are tracked lists or instances -/
def isObj : HO → Bool
  | .lst _ => true
  | .ins _ _ _ => true
  | _ => false
theorem obj_there {pins : List (Addr × Obj)} {s : Shared} {σ : St} {H : Hp} {a : Addr} {o : HO} (I : Inv X pins σ H s) (h : H a = some o) (p : isObj o = true) : ∃ ob, s.heap.get? a = some ob ∧ ob.cls ≠ .type "tuple" := by
  cases o with
  | lst xs =>
    obtain ⟨_, its, n, _, e⟩ : xs.length ≤ sizeLine ∧ ∃ (its : List Value) (n : Nat), Vals xs its ∧ s.heap.get? a = some { cls := .type "list", data := .seq its.toArray n } := I.hok a _ h
    exact ⟨_, e, (by show Value.type "list" ≠ .type "tuple"; decide +kernel)⟩
  | ins C dx fs =>
    have x := I.hok a _ h
    obtain ⟨_, _, _, e, _⟩ := x
    exact ⟨_, e, (by show Value.ref C ≠ .type "tuple"; exact fun z => by cases z)⟩
  | _ => exact absurd (show false = true from p) Bool.false_ne_true
theorem op_is_ref : OpR X (compareOp .Is) (fun x y H Q => ∃ a b oa ob, x = .ref a ∧ y = .ref b ∧ H a = some oa ∧ isObj oa = true ∧ H b = some ob ∧ isObj ob = true ∧ Q (.bl (decide (a = b))) H) := by
  intro pins s σ H x y v u Q I rx ry h
  obtain ⟨a, b, oa, ob, rfl, rfl, ha, pa, hb, pb, q⟩ := h
  cases rx
  cases ry
  obtain ⟨o1, e1, n1⟩ := obj_there I ha pa
  obtain ⟨o2, e2, _⟩ := obj_there I hb pb
  by_cases z : a = b
  · subst z
    exact wpAny_is_ref_self (fin_bl I q (by simp))
  · exact wpAny_is_ref_other z e1 e2 n1 (fin_bl I q (by simp [z]))
theorem op_isnot_ref : OpR X (compareOp .IsNot) (fun x y H Q => ∃ a b oa ob, x = .ref a ∧ y = .ref b ∧ H a = some oa ∧ isObj oa = true ∧ H b = some ob ∧ isObj ob = true ∧ Q (.bl (!decide (a = b))) H) := by
  intro pins s σ H x y v u Q I rx ry h
  obtain ⟨a, b, oa, ob, rfl, rfl, ha, pa, hb, pb, q⟩ := h
  cases rx
  cases ry
  obtain ⟨o1, e1, n1⟩ := obj_there I ha pa
  obtain ⟨o2, e2, _⟩ := obj_there I hb pb
  by_cases z : a = b
  · subst z
    exact wpAny_isNot_ref_self (fin_bl I q (by simp))
  · exact wpAny_isNot_ref_other z e1 e2 n1 (fin_bl I q (by simp [z]))

/-- two rules for one operation: by cases -/
theorem OpR.or {f : Value → Value → Sem Value} {r r' : R2} (h : OpR X f r) (h' : OpR X f r') : OpR X f (fun x y H Q => r x y H Q ∨ r' x y H Q) := by
  intro pins s σ H x y v u Q I rx ry q
  rcases q with q | q
  · exact h pins s σ H x y v u Q I rx ry q
  · exact h' pins s σ H x y v u Q I rx ry q

theorem nomark (b : Expr) {op : CmpOp} (h : op ≠ .In := by decide) (h2 : op ≠ .NotIn := by decide) : behindInMarks op b = false := by
  have e1 : (op == CmpOp.In) = false := by cases op <;> first | rfl | exact absurd rfl h
  have e2 : (op == CmpOp.NotIn) = false := by cases op <;> first | rfl | exact absurd rfl h2
  cases b <;> simp [behindInMarks, e1, e2]
/-- a comparison as a value; hm: nomark b, or (for in, not in) by with_unfolding_all rfl -/
theorem pe_cmpR {op : CmpOp} {r : R2} (ho : OpR X (compareOp op) r) (ha : PE X a ta) (hb : PE X b tb) (hm : behindInMarks op b = false) : PE X (.Compare a [op] [b] pos) (tOp r ta tb) := by
  intro pins s σ H Q I h
  exact wpAny_Compare1 (binT ha hb I h fun v u s2 x y H2 I2 rx ry q => ho pins s2 σ H2 x y v u Q I2 rx ry q) hm
/-- a reading of a value as a test -/
def tTest (t : TE) : TT := fun σ H Q => t σ H fun x H' => ∃ k, x = .bl k ∧ Q k H'
theorem pt_cmpR {op : CmpOp} {r : R2} (ho : OpR X (compareOp op) r) (ha : PE X a ta) (hb : PE X b tb) (hm : behindInMarks op b = false) : PT X (.Compare a [op] [b] pos) (tTest (tOp r ta tb)) := by
  intro pins s σ H Q I h
  refine wpAny_isTrue_Compare1 (thn (ha pins s σ H _ I h) fun v s1 ⟨x, H1, I1, r1, q1⟩ => thn (hb pins s1 σ H1 _ I1 q1) fun u s2 ⟨y, H2, I2, r2, q2⟩ =>
    thn (ho pins s2 σ H2 x y v u _ I2 r1 r2 q2) fun c s3 ⟨z, H3, I3, r3, k, e, q3⟩ => ?_) hm
  subst e
  cases r3
  exact wpAny_truthy_bool ⟨H3, I3, q3⟩
/-- a op1 b op2 c -/
def tChain (r r' : R2) (ta tb tc : TE) : TE := fun σ H Q => ta σ H fun x H1 => tb σ H1 fun y H2 => r x y H2 fun z H3 => ∃ k, z = .bl k ∧
  (if k = true then tc σ H3 fun w' H4 => r' y w' H4 Q else Q (.bl false) H3)
theorem pe_chain {op op' : CmpOp} {r r' : R2} (ho : OpR X (compareOp op) r) (ho' : OpR X (compareOp op') r') (ha : PE X a ta) (hb : PE X b tb) (hc : PE X c tc)
    (hm : lastMarks [op, op'] [b, c] = false := by with_unfolding_all rfl) : PE X (.Compare a [op, op'] [b, c] pos) (tChain r r' ta tb tc) := by
  intro pins s σ H Q I h
  refine Compare_chain (thn (ha pins s σ H _ I h) fun v s1 ⟨x, H1, I1, r1, q1⟩ => chain_link (thn (hb pins s1 σ H1 _ I1 q1) fun u s2 ⟨y, H2, I2, r2, q2⟩ =>
    thn (ho pins s2 σ H2 x y v u _ I2 r1 r2 q2) fun d s3 ⟨z, H3, I3, r3, k, e, q3⟩ => ?_)) hm
  subst e
  cases r3
  refine wpAny_truthy_bool ?_
  cases k with
  | false => exact ite_ff ⟨.bl false, H3, I3, rfl, q3⟩
  | true => exact ite_tt (chain_last (thn (hc pins s3 σ H3 _ I3 q3) fun w' s4 ⟨z', H4, I4, r4, q4⟩ => ho' pins s4 σ H4 y z' u w' Q I4 r2 r4 q4))
theorem pt_chain {op op' : CmpOp} {r r' : R2} (ho : OpR X (compareOp op) r) (ho' : OpR X (compareOp op') r') (ha : PE X a ta) (hb : PE X b tb) (hc : PE X c tc)
    (hm : lastMarks [op, op'] [b, c] = false := by with_unfolding_all rfl) : PT X (.Compare a [op, op'] [b, c] pos) (tTest (tChain r r' ta tb tc)) := by
  intro pins s σ H Q I h
  refine isTrue_chain (thn (ha pins s σ H _ I h) fun v s1 ⟨x, H1, I1, r1, q1⟩ => test_link (thn (hb pins s1 σ H1 _ I1 q1) fun u s2 ⟨y, H2, I2, r2, q2⟩ =>
    thn (ho pins s2 σ H2 x y v u _ I2 r1 r2 q2) fun d s3 ⟨z, H3, I3, r3, k, e, q3⟩ => ?_)) hm
  subst e
  cases r3
  refine wpAny_truthy_bool ?_
  cases k with
  | false =>
    obtain ⟨k', e', q'⟩ := q3
    cases e'
    exact ite_ff ⟨H3, I3, q'⟩
  | true =>
    refine ite_tt (test_last (thn (hc pins s3 σ H3 _ I3 q3) fun w' s4 ⟨z', H4, I4, r4, q4⟩ => thn (ho' pins s4 σ H4 y z' u w' _ I4 r2 r4 q4) fun d' s5 ⟨z2, H5, I5, r5, k2, e2, q5⟩ => ?_))
    subst e2
    cases r5
    exact wpAny_truthy_bool ⟨H5, I5, q5⟩

/-! ### truth -/
/-- a value's truth by the abstract heap -/
def TruV (K : PySem.W.Frag) (x : V) (H : Hp) (k : Bool) : Prop :=
  match x with
  | .non => k = false
  | .bl b => k = b
  | .int i => k = (i != 0)
  | .str y => y.length ≤ sizeLine ∧ k = ((y.length : Int) != 0)
  | .byt y => y.size ≤ sizeLine ∧ k = ((y.size : Int) != 0)
  | .ref p => (∃ xs, SqL K H p xs ∧ k = !xs.isEmpty) ∨ (∃ xs, SqT K H p xs ∧ k = !xs.isEmpty) ∨ ∃ kvs, H p = some (.dK kvs) ∧ k = !kvs.isEmpty
  | _ => False
theorem isEmpty_kv {κ : Type} {kvs : List (κ × V)} {vs : List (κ × Value)} (r : KV kvs vs) : (!vs.isEmpty) = !kvs.isEmpty := by
  cases r <;> rfl
theorem isEmpty_of {xs : List V} {its : List Value} (r : Vals xs its) : (!its.toArray.isEmpty) = !xs.isEmpty := by
  cases r <;> simp
theorem line63 : (sizeLine : Nat) < 2 ^ 63 := by rw [sizeLine_eq]; decide
theorem tru_ok : TruR X (fun x H Q => ∃ k, TruV X.K x H k ∧ Q k H) := by
  intro pins s σ H x v Q I rx h
  obtain ⟨k, e, q⟩ := h
  have hl := line63
  have hs : sizeLine = 16777216 := sizeLine_eq
  cases x with
  | non =>
    cases rx
    have e' : k = false := e
    subst e'
    exact truthy_none ⟨H, I, q⟩
  | bl b =>
    cases rx
    have e' : k = b := e
    subst e'
    exact wpAny_truthy_bool ⟨H, I, q⟩
  | int i =>
    obtain ⟨t, rfl⟩ := rx
    have e' : k = (i != 0) := e
    subst e'
    exact PySem.P.truthy_int ⟨H, I, q⟩
  | str y =>
    obtain ⟨t, rfl⟩ := rx
    obtain ⟨hy, e'⟩ : y.length ≤ sizeLine ∧ k = ((y.length : Int) != 0) := e
    subst e'
    exact PySem.P.truthy_str (by omega) ⟨H, I.tok _, q⟩
  | byt y =>
    obtain ⟨t, rfl⟩ := rx
    obtain ⟨hy, e'⟩ : y.size ≤ sizeLine ∧ k = ((y.size : Int) != 0) := e
    subst e'
    exact PySem.W.truthy_bytes (by omega) ⟨H, I.tok _, q⟩
  | ref p =>
    cases rx
    have e' : (∃ xs, SqL X.K H p xs ∧ k = !xs.isEmpty) ∨ (∃ xs, SqT X.K H p xs ∧ k = !xs.isEmpty) ∨ ∃ kvs, H p = some (.dK kvs) ∧ k = !kvs.isEmpty := e
    rcases e' with ⟨xs, hx, e'⟩ | ⟨xs, hx, e'⟩ | ⟨kvs, hx, e'⟩
    · subst e'
      obtain ⟨its, r, pl, hz⟩ := I.list hx
      have hlen := r.length
      exact wpAny_truthy_list pl.isList (by simp only [List.size_toArray]; omega) ⟨H, I.tok _, by rw [isEmpty_of r]; exact q⟩
    · subst e'
      obtain ⟨its, r, pl, hz⟩ := I.tuple hx
      have hlen := r.length
      exact truthy_tuple pl (by simp only [List.size_toArray]; omega) ⟨H, I.tok _, by rw [isEmpty_of r]; exact q⟩
    · subst e'
      obtain ⟨hz, hS, vs, r, m⟩ : kvs.length ≤ sizeLine ∧ (p == sysModules) = false ∧ ∃ vs, KV kvs vs ∧ s.heap.DictOf (mixKind X.prog X.w) p vs := I.hok p _ hx
      have hlen : kvs.length = vs.length := Paired.length r
      exact wpAny_truthy_dict hS m (by omega) ⟨H, I.tok _, by rw [isEmpty_kv r]; exact q⟩
  | _ => exact (show False from e).elim
/-- any expression whose test is its value's truth (a name, a call, a subscript, a field ..: he by fun _ => rfl) -/
theorem pt_truth (ha : PE X a ta) (he : ∀ whole, isTrue a X.env whole = (do let v ← whole; standAt a.pos; holding [v] (truthy v))) :
    PT X a (fun σ H Q => ta σ H fun x H' => ∃ k, TruV X.K x H' k ∧ Q k H') := by
  intro pins s σ H Q I h
  exact isTrue_plain (thn (ha pins s σ H _ I h) fun v s1 ⟨x, H1, I1, r1, q1⟩ => tru_ok pins s1 σ H1 x v Q I1 r1 q1) (he _)

/-! ### strs and bytes -/
theorem pe_byt {x : List UInt8} {k : Nat} : PE X (.Constant (.bytes x) k pos) (fun _ H Q => Q (.byt x.toArray) H) := fun _ _ _ H _ I h => PySem.W.Constant_bytes ⟨.byt x.toArray, H, I.tok _, ⟨_, rfl⟩, h⟩
theorem op_add_str : OpR X (binaryOp .Add) (fun x y H Q => ∃ i j, x = .str i ∧ y = .str j ∧ i.length + j.length ≤ sizeLine ∧ Q (.str (i ++ j)) H) := by
  intro pins s σ H x y v u Q I rx ry h
  obtain ⟨i, j, rfl, rfl, hz, q⟩ := h
  obtain ⟨t, rfl⟩ := rx
  obtain ⟨t', rfl⟩ := ry
  exact add_str (fun t' tk => ⟨.str (i ++ j), H, I.tok _, ⟨_, rfl⟩, q⟩) hz
theorem iop_add_str : OpR X (inplaceOp .Add) (fun x y H Q => ∃ i j, x = .str i ∧ y = .str j ∧ i.length + j.length ≤ sizeLine ∧ Q (.str (i ++ j)) H) := by
  intro pins s σ H x y v u Q I rx ry h
  obtain ⟨i, j, rfl, rfl, hz, q⟩ := h
  obtain ⟨t, rfl⟩ := rx
  obtain ⟨t', rfl⟩ := ry
  exact iadd_str (fun t' tk => ⟨.str (i ++ j), H, I.tok _, ⟨_, rfl⟩, q⟩) hz
theorem op_add_byt : OpR X (binaryOp .Add) (fun x y H Q => ∃ i j, x = .byt i ∧ y = .byt j ∧ i.size + j.size ≤ 16777216 ∧ Q (.byt (i ++ j)) H) := by
  intro pins s σ H x y v u Q I rx ry h
  obtain ⟨i, j, rfl, rfl, hz, q⟩ := h
  obtain ⟨t, rfl⟩ := rx
  obtain ⟨t', rfl⟩ := ry
  exact PySem.W.KBy.add_bytes hz (fun t' tk => ⟨.byt (i ++ j), H, I.tok _, ⟨_, rfl⟩, q⟩)

def PlainIxT (b : Expr) : Prop := ∀ o i, subscripted b false o i = operate [o, i] (getItem o i)
/-- s[i], 0 ≤ i < len -/
theorem pe_item_str (ha : PE X a ta) (hb : PE X b tb) (hs : PlainIxT b) :
    PE X (.Subscript a b pos) (tOp (fun x y H Q => ∃ z i c, x = .str z ∧ y = .int i ∧ 0 ≤ i ∧ i < 2 ^ 63 ∧ i < z.length ∧ z.cps[i.toNat]? = some c ∧ Q (.str ⟨#[c]⟩) H) ta tb) := by
  intro pins s σ H Q I h
  refine Subscript_ (binT ha hb I h fun v u s2 x y H2 I2 rx ry q => ?_)
  obtain ⟨z, i, c, rfl, rfl, h0, h63, h1, hc, q⟩ := q
  obtain ⟨t, rfl⟩ := rx
  obtain ⟨t', rfl⟩ := ry
  have e : seqIndex? i z.length = some i.toNat := PySem.StrLaws.seqIndex_nonneg h0 h1
  exact tail_any (typeIs_str s2 z t) slot_str_getitem.lookup (getItem_str (c := c) (by
    have e1 : decide (i < -(2 ^ 63 : Int)) = false := decide_eq_false (by omega)
    have e2 : decide (i ≥ 2 ^ 63) = false := decide_eq_false (by omega)
    rw [e1, e2] <;> rfl) (by rw [e]; exact hc) ⟨.str ⟨#[c]⟩, H2, I2.tok _, ⟨_, rfl⟩, q⟩) (hs _ _)
/-- b[i], 0 ≤ i < len -/
theorem pe_item_byt (ha : PE X a ta) (hb : PE X b tb) (hs : PlainIxT b) :
    PE X (.Subscript a b pos) (tOp (fun x y H Q => ∃ (z : List UInt8) (i : Int), x = .byt z.toArray ∧ y = .int i ∧ z.length ≤ sizeLine ∧ 0 ≤ i ∧ i < z.length ∧ Q (.int ((z.getD i.toNat 0).toNat : Nat)) H) ta tb) := by
  intro pins s σ H Q I h
  refine Subscript_ (binT ha hb I h fun v u s2 x y H2 I2 rx ry q => ?_)
  obtain ⟨z, i, rfl, rfl, hz, h0, h1, q⟩ := q
  obtain ⟨t, rfl⟩ := rx
  obtain ⟨t', rfl⟩ := ry
  have hl : sizeLine = 16777216 := sizeLine_eq
  exact tail_any (PySem.W.typeIs_bytes s2 z.toArray t) PySem.W.FB.slot_bytes_getitem.lookup (PySem.W.getItem_bytes (by omega) h0 h1 ⟨.int ((z.getD i.toNat 0).toNat : Nat), H2, I2.tok _, ⟨_, rfl⟩, q⟩) (hs _ _)

/-! ### scalar builtins, by CallR -/
theorem vals1 {x : V} {us : List Value} (r : Vals [x] us) : ∃ u, us = [u] ∧ RelV x u := by
  cases r with
  | cons r1 r2 => cases r2; exact ⟨_, rfl, r1⟩
theorem vals2 {x y : V} {us : List Value} (r : Vals [x, y] us) : ∃ u w', us = [u, w'] ∧ RelV x u ∧ RelV y w' := by
  cases r with
  | cons r1 r2 =>
    cases r2 with
    | cons r3 r4 => cases r4; exact ⟨_, _, rfl, r1, r3⟩
theorem call_abs : CallR X (.builtin "abs") (fun xs H Q => ∃ i, xs = [.int i] ∧ Q (.int (if i < 0 then -i else i)) H) := by
  intro pins s σ H xs us Q I r h
  obtain ⟨i, rfl, q⟩ := h
  obtain ⟨u, rfl, t, rfl⟩ := vals1 r
  exact call_abs_int fun u tk => ⟨.int (if i < 0 then -i else i), H, I.tok _, ⟨_, rfl⟩, q⟩
theorem call_max2 (hc : X.calm = true) : CallR X (.builtin "max") (fun xs H Q => ∃ i j, xs = [.int i, .int j] ∧ Q (.int (if j > i then j else i)) H) := by
  intro pins s σ H xs us Q I r h
  obtain ⟨i, j, rfl, q⟩ := h
  obtain ⟨u, w', rfl, ⟨t, rfl⟩, ⟨t', rfl⟩⟩ := vals2 r
  refine max_two_ints (I.ok.hd hc) fun h' tk k => ⟨_, H, I.kept k, ?_, q⟩
  by_cases hj : j > i
  · rw [if_pos hj, if_pos hj]; exact ⟨_, rfl⟩
  · rw [if_neg hj, if_neg hj]; exact ⟨_, rfl⟩
theorem call_min2 (hc : X.calm = true) : CallR X (.builtin "min") (fun xs H Q => ∃ i j, xs = [.int i, .int j] ∧ Q (.int (if j < i then j else i)) H) := by
  intro pins s σ H xs us Q I r h
  obtain ⟨i, j, rfl, q⟩ := h
  obtain ⟨u, w', rfl, ⟨t, rfl⟩, ⟨t', rfl⟩⟩ := vals2 r
  refine min_two_ints (I.ok.hd hc) fun h' tk k => ⟨_, H, I.kept k, ?_, q⟩
  by_cases hj : j < i
  · rw [if_pos hj, if_pos hj]; exact ⟨_, rfl⟩
  · rw [if_neg hj, if_neg hj]; exact ⟨_, rfl⟩
theorem call_int1 : CallR X (.type "int") (fun xs H Q => (∃ i, xs = [.int i] ∧ Q (.int i) H) ∨ ∃ k, xs = [.bl k] ∧ Q (.int (if k then 1 else 0)) H) := by
  intro pins s σ H xs us Q I r h
  rcases h with ⟨i, rfl, q⟩ | ⟨k, rfl, q⟩
  · obtain ⟨u, rfl, t, rfl⟩ := vals1 r
    exact call_int_int ⟨.int i, H, I, ⟨_, rfl⟩, q⟩
  · obtain ⟨u, rfl, r1⟩ := vals1 r
    cases r1
    exact call_int_bool ⟨.int (if k then 1 else 0), H, I.tok _, ⟨_, rfl⟩, q⟩
theorem call_bool1 : CallR X (.type "bool") (fun xs H Q => (∃ i, xs = [.int i] ∧ Q (.bl (i != 0)) H) ∨ ∃ k, xs = [.bl k] ∧ Q (.bl k) H) := by
  intro pins s σ H xs us Q I r h
  rcases h with ⟨i, rfl, q⟩ | ⟨k, rfl, q⟩
  · obtain ⟨u, rfl, t, rfl⟩ := vals1 r
    exact call_bool_int ⟨.bl (i != 0), H, I, rfl, q⟩
  · obtain ⟨u, rfl, r1⟩ := vals1 r
    cases r1
    exact call_bool_bool ⟨.bl k, H, I, rfl, q⟩
theorem call_str_int : CallR X (.type "str") (fun xs H Q => ∃ i, xs = [.int i] ∧ i.natAbs.log2 < 1920 ∧ Q (.str (toString i)) H) := by
  intro pins s σ H xs us Q I r h
  obtain ⟨i, rfl, hz, q⟩ := h
  obtain ⟨u, rfl, t, rfl⟩ := vals1 r
  exact PySem.P.str_of_int hz ⟨.str _, H, I.tok _, ⟨_, rfl⟩, q⟩
theorem call_ord : CallR X (.builtin "ord") (fun xs H Q => ∃ x, xs = [.str x] ∧ x.length = 1 ∧ Q (.int (x.cps.getD 0 0 : Nat)) H) := by
  intro pins s σ H xs us Q I r h
  obtain ⟨x, rfl, hz, q⟩ := h
  obtain ⟨u, rfl, t, rfl⟩ := vals1 r
  exact ord_of_one hz ⟨.int _, H, I.tok _, ⟨_, rfl⟩, q⟩
theorem call_chr : CallR X (.builtin "chr") (fun xs H Q => ∃ i, xs = [.int i] ∧ 0 ≤ i ∧ i ≤ 1114111 ∧ Q (.str ⟨#[i.toNat]⟩) H) := by
  intro pins s σ H xs us Q I r h
  obtain ⟨i, rfl, h0, h1, q⟩ := h
  obtain ⟨u, rfl, t, rfl⟩ := vals1 r
  exact chr_of_range h0 h1 ⟨.str _, H, I.tok _, ⟨_, rfl⟩, q⟩
/-- len of a str, a bytes, a list, a tuple -/
def LenV (K : PySem.W.Frag) (x : V) (H : Hp) (n : Nat) : Prop :=
  match x with
  | .str y => y.length ≤ sizeLine ∧ n = y.length
  | .byt y => y.size ≤ sizeLine ∧ n = y.size
  | .ref p => (∃ xs, SqL K H p xs ∧ n = xs.length) ∨ ∃ xs, SqT K H p xs ∧ n = xs.length
  | _ => False
theorem call_len : CallR X (.builtin "len") (fun xs H Q => ∃ x n, xs = [x] ∧ LenV X.K x H n ∧ Q (.int n) H) := by
  intro pins s σ H xs us Q I r h
  obtain ⟨x, n, rfl, e, q⟩ := h
  obtain ⟨u, rfl, rx⟩ := vals1 r
  have hl := line63
  have hs : sizeLine = 16777216 := sizeLine_eq
  cases x with
  | str y =>
    obtain ⟨t, rfl⟩ := rx
    obtain ⟨hy, e'⟩ : y.length ≤ sizeLine ∧ n = y.length := e
    subst e'
    exact len_str (by omega) ⟨.int _, H, I.tok _, ⟨_, rfl⟩, q⟩
  | byt y =>
    obtain ⟨t, rfl⟩ := rx
    obtain ⟨hy, e'⟩ : y.size ≤ sizeLine ∧ n = y.size := e
    subst e'
    exact PySem.W.len_bytes (by omega) ⟨.int _, H, I.tok _, ⟨_, rfl⟩, q⟩
  | ref p =>
    cases rx
    have e' : (∃ xs, SqL X.K H p xs ∧ n = xs.length) ∨ ∃ xs, SqT X.K H p xs ∧ n = xs.length := e
    rcases e' with ⟨xs, hx, e'⟩ | ⟨xs, hx, e'⟩
    · subst e'
      obtain ⟨its, r', pl, hz⟩ := I.list hx
      have hlen := r'.length
      exact Calls.call_len_list pl.isList (by simp only [List.size_toArray]; omega) ⟨.int xs.length, H, I.tok _, ⟨_, by simp only [List.size_toArray]; rw [hlen]⟩, q⟩
    · subst e'
      obtain ⟨its, r', pl, hz⟩ := I.tuple hx
      have hlen := r'.length
      exact len_tuple pl (by simp only [List.size_toArray]; omega) ⟨.int xs.length, H, I.tok _, ⟨_, by simp only [List.size_toArray]; rw [hlen]⟩, q⟩
  | _ => exact (show False from e).elim
/-- divmod: a new tuple -/
theorem call_divmod : CallR X (.builtin "divmod") (fun xs H Q => ∃ i j, xs = [.int i, .int j] ∧ CDiv i j ∧ ∀ p, H p = none → Q (.ref p) (upd H p (.tup [.int (i / j), .int (i % j)]))) := by
  intro pins s σ H xs us Q I r h
  obtain ⟨i, j, rfl, ⟨h1, h2⟩, q⟩ := h
  obtain ⟨u, w', rfl, ⟨t, rfl⟩, ⟨t', rfl⟩⟩ := vals2 r
  refine divmod_int (by omega) ?_ (.inl (PyProof.noPylong_small (by omega)))
  rw [Int.fdiv_eq_ediv_of_nonneg i (by omega), Int.fmod_eq_emod_of_nonneg i (by omega)]
  have hn : H s.heap.objs.size = none := I.hok.fresh (Nat.le_refl _)
  refine ⟨.ref s.heap.objs.size, _, ?_, rfl, q _ hn⟩
  refine I.laid (fun b o e => Heap.get?_push_of_some _ e) (Nat.le_refl _) ⟨by simp only [List.length_cons, List.length_nil]; rw [sizeLine_eq]; decide, [.int (i / j) s.toks, .int (i % j) (s.toks + 1)], .cons ⟨_, rfl⟩ (.cons ⟨_, rfl⟩ .nil), ?_⟩
  exact ⟨_, Heap.get?_push_size s.heap rfl, rfl, 0, rfl⟩
end
end L2

namespace L2
open PySem PySem.Spec PyProof.Rows

/-! ### an instance, its attributes a map -/
structure ObjM (h : Heap) (x dx C : Addr) (mA : Str → Option Value) : Prop where
  obj : h.get? x = some (PySem.W.instObj C dx)
  ns : h.Ns1 dx mA
  ne : dx ≠ x

theorem lookIn_ns {h : Heap} {dx : Addr} {mA : Str → Option Value} (n : h.Ns1 dx mA) : ∃ od, h.get? dx = some od ∧ ∀ name, PySem.W.lookIn name od = some (mA name) := by
  obtain ⟨o, es, ep, ho, hd, hk, _, hm⟩ := n
  refine ⟨o, ho, fun name => ?_⟩
  have e := hm name
  unfold nsFind findBy at e
  rw [← Array.find?_toList] at e
  unfold PySem.W.lookIn
  rw [hd]
  dsimp only
  split
  · rename_i y q
    rw [q] at e
    exact congrArg some e
  · rename_i q
    rw [q] at e
    have a : es.toList.any (·.refKey) = false := by
      rw [List.any_eq_false]
      intro y hy
      obtain ⟨z, t, hkey⟩ := hk y (Array.mem_toList_iff.mp hy)
      simp [DictEntry.refKey, hkey]
    have a' : ¬ es.toList.any (·.refKey) = true := by rw [a]; exact Bool.false_ne_true
    rw [if_neg a']
    exact congrArg some e

theorem ObjM.look {h : Heap} {x dx C : Addr} {mA : Str → Option Value} (I : ObjM h x dx C mA) : ∃ od, PySem.W.InstAt h x (PySem.W.instObj C dx) C (some od) ∧ ∀ name, PySem.W.lookIn name od = some (mA name) :=
  let ⟨od, ho, hl⟩ := lookIn_ns I.ns
  ⟨od, ⟨I.obj, rfl, rfl, ho⟩, hl⟩

section
variable {prog : Program} {w : World} {A : Around} {E : Value → Shared → Prop} {s : Shared} {K : PySem.W.Frag} {x dx C f : Addr} {mA : Str → Option Value} {name : Str} {v : Value}

theorem get_map {expr : Bool} {Q : Value → Shared → Prop} (X : K.In s.heap) (I : ObjM s.heap x dx C mA) (hg : PySem.W.plainGet K C name = true) (hh : PySem.W.hasDictIn K C = true)
    (ha : PySem.W.findIn K (.ref C) name = some none) (hv : mA name = some v) (hv' : PySem.W.handedIn v = true) (h : Q v { s with toks := s.toks + 1 }) :
    wpAny (model prog w) A (getAttr (.ref x) name expr) Q E s := by
  obtain ⟨od, J, hl⟩ := I.look
  exact PySem.W.get_value X J (PySem.W.plainGet_of hg).1 (PySem.W.findObj_own hh ha rfl (by rw [hl, hv])) hv' h

theorem get_const {expr : Bool} {a : Value} {Q : Value → Shared → Prop} (X : K.In s.heap) (I : ObjM s.heap x dx C mA) (hg : PySem.W.plainGet K C name = true) (hh : PySem.W.hasDictIn K C = true)
    (ha : PySem.W.findIn K (.ref C) name = some (some a)) (hn : PySem.W.specialIn K a "__get__" = some none) (hc : PySem.W.copiedNames.contains name = false) (hv : mA name = none) (hv' : PySem.W.handedIn a = true)
    (h : Q a { s with toks := s.toks + 1 }) : wpAny (model prog w) A (getAttr (.ref x) name expr) Q E s := by
  obtain ⟨od, J, hl⟩ := I.look
  exact PySem.W.get_value X J (PySem.W.plainGet_of hg).1 (PySem.W.findObj_cls hh ha hn hv' hc (by rw [hl, hv])) hv' h

theorem get_meth {pl : Sem Bool} {Q : Value × List Value → Shared → Prop} (X : K.In s.heap) (I : ObjM s.heap x dx C mA) (hg : PySem.W.plainGet K C name = true)
    (hf : PySem.W.findIn K (.ref C) name = some (some (.ref f))) (ht : PySem.W.isFn K (.ref f) = true) (hv : mA name = none) (h : Q (.ref f, [.ref x]) s) :
    wpAny (model prog w) A (getMethod (.ref x) name pl) Q E s := by
  obtain ⟨od, J, hl⟩ := I.look
  exact PySem.W.method_fn X J (PySem.W.plainGet_of hg).1 (PySem.W.plainGet_of hg).2 hf (beq_iff_eq.mp ht) (by show (PySem.W.lookIn name od).map (·.isSome) = some false; rw [hl, hv]; rfl) h

theorem set_map {ns : List Str} {Q : Unit → Shared → Prop} (X : K.In s.heap) (I : ObjM s.heap x dx C mA)
    (hs : PySem.W.findIn K (.ref C) "__setattr__" = some (some (.builtin "object.__setattr__"))) (hp : PySem.W.plainOver K C = true) (ht : PySem.W.takerIn K C name = some none) (hh : PySem.W.hasDictIn K C = true)
    (hw : PySem.Within mA ns) (hsz : ns.length ≤ sizeLine)
    (h : ∀ h', ObjM h' x dx C (fun y => if y = name then some v else mA y) → Heap.SameBut dx s.heap h' → Q () { s with heap := h', toks := s.toks + 2 }) :
    wpAny (model prog w) A (setAttr (.ref x) name v) Q E s := by
  obtain ⟨od, J, hl⟩ := I.look
  refine PySem.W.set_plain X J hs (PySem.W.osa_open (s := { s with toks := s.toks + 1 }) (r := none) X J hp ht fun b => ?_)
  obtain ⟨cd, hc, hd'⟩ := PySem.W.any_some hh
  have hx : s.heap.get? x = some ⟨.ref C, some dx, .plain, #[]⟩ := I.obj
  refine wpAny_bind (wpAny_pure (wpAny_bind (wpAny_bind (wpAny_loadPart hx (wpAny_bind (PySem.W.Looks.here (s := { s with toks := s.toks + 1 }) (PySem.W.looks_clsIn X hc) ?_))))))
  rw [hd']
  refine wpAny_pure (a := some dx) (wpAny_bind (wpAny_pure (wpAny_bind ?_)))
  refine wpAny_nsSet1 (s := { s with toks := s.toks + 1 }) I.ns fun h' hn2 hs2 => ?_
  obtain ⟨oD, esD, epD, hoD, hdD, hcD⟩ := hn2.count (PySem.Within.cons name v hw)
  refine wpAny_bind (wpAny_lookBehind hoD (by rw [hdD]; exact pastItsLine_dict (Nat.le_trans hcD (by rw [List.length_cons]; omega))) ?_)
  exact wpAny_pure (h _ ⟨(hs2.2 _ (Ne.symm I.ne)).trans I.obj, hn2, I.ne⟩ hs2)

/-- C(..): the dict at the heap's end, the instance behind it; then its __init__ -/
theorem make_map {R : Result → Shared → Prop} {vs : List Value} {kw : List (Str × Value)} (X : K.In s.heap) (hm : PySem.W.makesIn K C = true)
    (hi : PySem.W.findIn K (.ref C) "__init__" = some (some (.ref f))) (hf : PySem.W.typeIn K (.ref f) = some (.type "function"))
    (h : codeAny (model prog w) (A.under (.builtin "type.__call__" ⟨.ref C :: vs, kw⟩)) (.call (.ref f) ⟨.ref (s.heap.objs.size + 1) :: vs, kw⟩) (PySem.W.InitBack (s.heap.objs.size + 1) R)
      { s with heap := (s.heap.push PySem.W.emptyDict).push (PySem.W.instObj C s.heap.objs.size) }) :
    codeAny (model prog w) A (.call (.ref C) ⟨vs, kw⟩) R s := by
  obtain ⟨hh, g, d, t, os⟩ := s
  exact PySem.W.make_core (PySem.W.makes_of X hm) (PySem.W.looks_findIn X hi) (fun self => PySem.W.bind_fn X self hf) (.inl rfl) h
/-- C() where there is no __init__ but object's -/
theorem make_map0 {R : Result → Shared → Prop} (X : K.In s.heap) (hm : PySem.W.makesIn K C = true)
    (hi : PySem.W.findIn K (.ref C) "__init__" = some (some (.builtin "object.__init__")))
    (hb : ∀ self, PySem.W.Looks (model prog w) s.heap (bindSpecial (.builtin "object.__init__") self) (.builtin "object.__init__", [self]))
    (h : codeAny (model prog w) (A.under (.builtin "type.__call__" ⟨[.ref C], []⟩)) (.call (.builtin "object.__init__") ⟨[.ref (s.heap.objs.size + 1)], []⟩) (PySem.W.InitBack (s.heap.objs.size + 1) R)
      { s with heap := (s.heap.push PySem.W.emptyDict).push (PySem.W.instObj C s.heap.objs.size) }) :
    codeAny (model prog w) A (.call (.ref C) ⟨[], []⟩) R s := by
  obtain ⟨hh, g, d, t, os⟩ := s
  exact PySem.W.make_core (PySem.W.makes_of X hm) (PySem.W.looks_findIn X hi) hb (.inr ⟨rfl, rfl⟩) h
end

/-! ### the attributes as a list of pairs -/
def putF (f : Str) (v : V) : List (Str × V) → List (Str × V)
  | [] => [(f, v)]
  | (g, x) :: r => if g = f then (g, v) :: r else (g, x) :: putF f v r
theorem lookup_putF (f g : Str) (v : V) : ∀ fs : List (Str × V), (putF f v fs).lookup g = if g = f then some v else fs.lookup g
  | [] => by
    show List.lookup g [(f, v)] = _
    by_cases h : g = f
    · have hb : (g == f) = true := beq_iff_eq.mpr h
      simp only [List.lookup, hb, if_pos h]
    · have hb : (g == f) = false := beq_eq_false_iff_ne.mpr h
      simp only [List.lookup, hb, if_neg h]
  | (k, x) :: r => by
    have ih := lookup_putF f g v r
    rw [show putF f v ((k, x) :: r) = (if k = f then (k, v) :: r else (k, x) :: putF f v r) from rfl]
    by_cases hk : k = f
    · rw [if_pos hk]
      by_cases h : g = k
      · have hb : (g == k) = true := beq_iff_eq.mpr h
        simp only [List.lookup, hb, if_pos (h.trans hk)]
      · have hb : (g == k) = false := beq_eq_false_iff_ne.mpr h
        simp only [List.lookup, hb, if_neg (fun e : g = f => h (e.trans hk.symm))]
    · rw [if_neg hk]
      by_cases h : g = k
      · have hb : (g == k) = true := beq_iff_eq.mpr h
        simp only [List.lookup, hb, if_neg (fun e : g = f => hk (h.symm.trans e))]
      · have hb : (g == k) = false := beq_eq_false_iff_ne.mpr h
        simp only [List.lookup, hb]
        exact ih
theorem keys_putF (f : Str) (v : V) : ∀ fs : List (Str × V), f ∈ (putF f v fs).map (·.1) ∧ ∀ g, g ∈ fs.map (·.1) → g ∈ (putF f v fs).map (·.1)
  | [] => ⟨by simp [putF], fun g h => by simp at h⟩
  | (k, x) :: r => by
    obtain ⟨i1, i2⟩ := keys_putF f v r
    rw [show putF f v ((k, x) :: r) = (if k = f then (k, v) :: r else (k, x) :: putF f v r) from rfl]
    by_cases hk : k = f
    · rw [if_pos hk]
      subst hk
      exact ⟨by simp, fun g h => by simpa using h⟩
    · rw [if_neg hk]
      refine ⟨?_, fun g h => ?_⟩
      · rw [List.map_cons]
        exact List.mem_cons_of_mem _ i1
      · rw [List.map_cons] at h ⊢
        rcases List.mem_cons.mp h with e | e
        · exact List.mem_cons.mpr (.inl e)
        · exact List.mem_cons_of_mem _ (i2 g e)
theorem length_putF (f : Str) (v : V) : ∀ fs : List (Str × V), (putF f v fs).length ≤ fs.length + 1
  | [] => by simp [putF]
  | (k, x) :: r => by
    have ih := length_putF f v r
    rw [show putF f v ((k, x) :: r) = (if k = f then (k, v) :: r else (k, x) :: putF f v r) from rfl]
    by_cases hk : k = f
    · rw [if_pos hk, List.length_cons, List.length_cons]; omega
    · rw [if_neg hk, List.length_cons, List.length_cons]; omega

theorem RelO.some_of {v : V} {o : Option Value} (r : RelO (some v) o) : ∃ u, o = some u ∧ RelV v u := by
  cases o with
  | none => exact (show False from r).elim
  | some u => exact ⟨u, rfl, r⟩
theorem RelO.none_of {o : Option Value} (r : RelO none o) : o = none := by
  cases o with
  | none => rfl
  | some u => exact (show False from r).elim
theorem handed_of {v : V} {u : Value} (r : RelV v u) : PySem.W.handedIn u = true := by
  cases v with
  | non => cases (show u = Value.none from r); rfl
  | bl b => cases (show u = Value.bool b from r); rfl
  | int i => obtain ⟨t, e⟩ := (show ∃ t, u = Value.int i t from r); cases e; rfl
  | str x => obtain ⟨t, e⟩ := (show ∃ t, u = Value.str x t from r); cases e; rfl
  | byt b => obtain ⟨t, e⟩ := (show ∃ t, u = Value.bytes b t from r); cases e; rfl
  | flt b => obtain ⟨t, e⟩ := (show ∃ t, u = Value.float b t from r); cases e; rfl
  | ref a => cases (show u = Value.ref a from r); rfl
  | ty n => cases (show u = Value.type n from r); rfl

section
variable {P : Program} {w : World} {H H' : Hp} {h h' : Heap} {a C dx : Addr} {fs fs' : List (Str × V)}
theorem ins_get (hok : HOk P w H h) (e : H a = some (.ins C dx fs)) : ∃ mA, ObjM h a dx C mA ∧ (∀ f, RelO (fs.lookup f) (mA f)) ∧ PySem.Within mA (fs.map (·.1)) ∧ fs.length ≤ 1000 ∧ H dx = some (.own a) := by
  obtain ⟨d, z, ne, ob, mA, n, r, q⟩ := (show ObjOk P w H h a (.ins C dx fs) from hok a _ e)
  exact ⟨mA, ⟨ob, n, ne⟩, r, q, z, d⟩
end

/-! ### what of the text a class must have -/
structure Cls (K : PySem.W.Frag) (C : Addr) : Prop where
  pg : PySem.W.plainGet K C Str.empty = true
  hd : PySem.W.hasDictIn K C = true
  po : PySem.W.plainOver K C = true
  sa : PySem.W.findIn K (.ref C) "__setattr__" = some (some (.builtin "object.__setattr__"))
theorem Cls.get {K : PySem.W.Frag} {C : Addr} (c : Cls K C) (f : Str) : PySem.W.plainGet K C f = true := c.pg
/-- no class of it has the name -/
def NoAttr (K : PySem.W.Frag) (C : Addr) (f : Str) : Prop := PySem.W.findIn K (.ref C) f = some none
theorem NoAttr.taker {K : PySem.W.Frag} {C : Addr} {f : Str} (n : NoAttr K C f) : PySem.W.takerIn K C f = some none := by
  unfold PySem.W.takerIn
  rw [show PySem.W.findIn K (.ref C) f = some none from n]
  rfl
/-- a constant of the class -/
structure Con (K : PySem.W.Frag) (C : Addr) (f : Str) (v : V) (u : Value) : Prop where
  at_ : PySem.W.findIn K (.ref C) f = some (some u)
  rel : RelV v u
  get : PySem.W.specialIn K u "__get__" = some none
  cp : PySem.W.copiedNames.contains f = false
/-- a method: a plain def of the class or of one above it -/
structure Meth (K : PySem.W.Frag) (C : Addr) (m : Str) (f : Addr) : Prop where
  at_ : PySem.W.findIn K (.ref C) m = some (some (.ref f))
  fn : PySem.W.isFn K (.ref f) = true
  kp : PySem.W.keepIn K (.ref f) = true

section
variable {X : Cx} {pins : List (Addr × Obj)} {σ : St} {H : Hp} {s : Shared} {a C dx : Addr} {fs : List (Str × V)} {f : Str} {v : V} {A : Around} {E : Value → Shared → Prop}

theorem getattr_ok {b : Bool} {Q : Value → Shared → Prop} (I : Inv X pins σ H s) (e : H a = some (.ins C dx fs)) (c : Cls X.K C) (n : NoAttr X.K C f) (l : fs.lookup f = some v)
    (h : ∀ u s', Inv X pins σ H s' → RelV v u → Q u s') : wpAny (model X.prog X.w) A (getAttr (.ref a) f b) Q E s := by
  obtain ⟨mA, O, r, _, _, _⟩ := ins_get I.hok e
  obtain ⟨u, hu, ru⟩ := RelO.some_of (v := v) (o := mA f) (by rw [← l]; exact r f)
  exact get_map I.kIn O (c.get f) c.hd n hu (handed_of ru) (h u _ (I.tok _) ru)

theorem getcon_ok {b : Bool} {u : Value} {Q : Value → Shared → Prop} (I : Inv X pins σ H s) (e : H a = some (.ins C dx fs)) (c : Cls X.K C) (k : Con X.K C f v u) (l : fs.lookup f = none)
    (h : ∀ s', Inv X pins σ H s' → Q u s') : wpAny (model X.prog X.w) A (getAttr (.ref a) f b) Q E s := by
  obtain ⟨mA, O, r, _, _, _⟩ := ins_get I.hok e
  have hn : mA f = none := RelO.none_of (by rw [← l]; exact r f)
  exact get_const I.kIn O (c.get f) c.hd k.at_ k.get k.cp hn (handed_of k.rel) (h _ (I.tok _))

theorem getmeth_ok {m : Str} {g : Addr} {pl : Sem Bool} {Q : Value × List Value → Shared → Prop} (I : Inv X pins σ H s) (e : H a = some (.ins C dx fs)) (c : Cls X.K C) (k : Meth X.K C m g) (l : fs.lookup m = none)
    (h : Q (.ref g, [.ref a]) s) : wpAny (model X.prog X.w) A (getMethod (.ref a) m pl) Q E s := by
  obtain ⟨mA, O, r, _, _, _⟩ := ins_get I.hok e
  have hn : mA m = none := RelO.none_of (by rw [← l]; exact r m)
  exact get_meth I.kIn O (c.get m) k.at_ k.fn hn h

theorem setattr_ok {y : V} {u : Value} {Q : Unit → Shared → Prop} (I : Inv X pins σ H s) (e : H a = some (.ins C dx fs)) (c : Cls X.K C) (n : NoAttr X.K C f) (hl : fs.length < 1000) (ry : RelV y u)
    (h : ∀ s', Inv X pins σ (upd H a (.ins C dx (putF f y fs))) s' → Q () s') : wpAny (model X.prog X.w) A (setAttr (.ref a) f u) Q E s := by
  obtain ⟨mA, O, r, wi, _, ho⟩ := ins_get I.hok e
  have hz : (fs.map (·.1)).length ≤ sizeLine := by rw [List.length_map, sizeLine_eq]; omega
  refine set_map I.kIn O c.sa c.po n.taker c.hd wi hz fun h' O' sb => h _ ?_
  have hd : ∃ o, h'.get? dx = some o := let ⟨o, _, _, e', _⟩ := O'.ns; ⟨o, e'⟩
  refine I.write (x := a) (e := dx) (by rw [e]; exact True.intro) (.inr ho) (fun b q hb z => (sb.2 b hb).trans z) hd ?_
  refine ⟨by rw [upd_ne O.ne]; exact ho, ?_, O.ne, O'.obj, _, O'.ns, fun g => ?_, fun g hg => ?_⟩
  · have := length_putF f y fs; omega
  · show RelO ((putF f y fs).lookup g) (if g = f then some u else mA g)
    rw [lookup_putF]
    by_cases q : g = f
    · rw [if_pos q, if_pos q]; exact ry
    · rw [if_neg q, if_neg q]; exact r g
  · by_cases q : g = f
    · rw [q]; exact (keys_putF f y fs).1
    · refine (keys_putF f y fs).2 g (wi g fun z => hg ?_)
      show (if g = f then some u else mA g) = none
      rw [if_neg q]; exact z

/-- a new instance, tracked, without attributes -/
theorem Inv.made (I : Inv X pins σ H s) : Inv X pins σ (upd (upd H s.heap.objs.size (.own (s.heap.objs.size + 1))) (s.heap.objs.size + 1) (.ins C s.heap.objs.size []))
    { s with heap := (s.heap.push PySem.W.emptyDict).push (PySem.W.instObj C s.heap.objs.size) } := by
  have e1 : (s.heap.push PySem.W.emptyDict).get? s.heap.objs.size = some PySem.W.emptyDict := Heap.get?_push_size s.heap rfl
  have e2 : ((s.heap.push PySem.W.emptyDict).push (PySem.W.instObj C s.heap.objs.size)).get? (s.heap.objs.size + 1) = some (PySem.W.instObj C s.heap.objs.size) := by
    have := Heap.get?_push_size (s.heap.push PySem.W.emptyDict) (o := PySem.W.instObj C s.heap.objs.size) rfl
    rwa [Heap.size_push] at this
  have e3 : (s.heap.push PySem.W.emptyDict).Ns s.heap.objs.size (fun _ => none) := ⟨PySem.W.emptyDict, #[], _, e1, rfl, (fun e he => absurd he (by simp)), fun _ => rfl⟩
  have I1 := I.laid (a := s.heap.objs.size) (o := .own (s.heap.objs.size + 1)) (h' := s.heap.push PySem.W.emptyDict) (t' := s.toks) (fun b u q => Heap.get?_push_of_some _ q) (Nat.le_refl _) ⟨_, e1⟩
  refine I1.laid (a := s.heap.objs.size + 1) (o := .ins C s.heap.objs.size []) (t' := s.toks) (fun b u q => Heap.get?_push_of_some _ q) (Nat.le_of_eq (Heap.size_push _ _)) ?_
  have ne : s.heap.objs.size ≠ s.heap.objs.size + 1 := Nat.ne_of_lt (Nat.lt_succ_self _)
  refine ⟨by rw [upd_ne ne, upd_same], Nat.zero_le _, ne, e2, fun _ => none, (Heap.Ns1.of_empty e3).at fun o q => Heap.get?_push_of_some _ q, fun _ => True.intro, fun y hy => absurd rfl hy⟩

/-- e.f where nothing but the object is asked: through attributeBase (super) and the last hold -/
theorem attr_of {prog : Program} {w : World} {env : Env} {e : Expr} {f : Str} {pos : Pos} {s : Shared} {Q : Value → Shared → Prop} (hb : attributeBase e f env (eval e env) = eval e env)
    (h : wpAny (model prog w) A (eval e env) (fun o s₁ => wpAny (model prog w) A (getAttr o f true) Q E s₁) E s) : wpAny (model prog w) A (eval (.Attribute e f pos) env) Q E s :=
  Attribute_any_ h (by rw [arm_eval_Attribute, hb])
end

/-! ### readings and rules -/
/-- e.f, an attribute of the instance -/
def tFld (K : PySem.W.Frag) (ta : TE) (f : Str) : TE := fun σ H Q => ta σ H fun x H1 => ∃ a C dx fs v, x = .ref a ∧ H1 a = some (.ins C dx fs) ∧ Cls K C ∧ NoAttr K C f ∧ fs.lookup f = some v ∧ Q v H1
/-- e.f, a constant of the class -/
def tCon (K : PySem.W.Frag) (ta : TE) (f : Str) : TE := fun σ H Q => ta σ H fun x H1 => ∃ a C dx fs v u, x = .ref a ∧ H1 a = some (.ins C dx fs) ∧ Cls K C ∧ Con K C f v u ∧ fs.lookup f = none ∧ Q v H1
/-- e.f = value -/
def sFld (K : PySem.W.Frag) (ta tv : TE) (f : Str) : TS := fun D σ H => tv σ H fun y H1 => ta σ H1 fun x H2 => ∃ a C dx fs, x = .ref a ∧ H2 a = some (.ins C dx fs) ∧ Cls K C ∧ NoAttr K C f ∧ fs.length < 1000 ∧
  D.nx σ (upd H2 a (.ins C dx (putF f y fs)))
/-- an augmented operator on two values -/
def InOp (X : Cx) (op : Operator) (rd : V → V → Hp → VK → Prop) : Prop :=
  ∀ (pins : List (Addr × Obj)) (s : Shared) (σ : St) (H : Hp) (x y : V) (u v : Value) (Q : VK), Inv X pins σ H s → RelV x u → RelV y v → rd x y H Q → wpAny (model X.prog X.w) X.A (inplaceOp op u v) (EP X pins σ Q) X.xe s
/-- e.f op= value -/
def sFldAug (K : PySem.W.Frag) (ta tv : TE) (rd : V → V → Hp → VK → Prop) (f : Str) : TS := fun D σ H => ta σ H fun x H1 => ∃ a C dx fs v, x = .ref a ∧ H1 a = some (.ins C dx fs) ∧ Cls K C ∧ NoAttr K C f ∧ fs.lookup f = some v ∧
  tv σ H1 fun y H2 => rd v y H2 fun z H3 => ∃ dx' fs', H3 a = some (.ins C dx' fs') ∧ fs'.length < 1000 ∧ D.nx σ (upd H3 a (.ins C dx' (putF f z fs')))

section
variable {X : Cx} {o e value : Expr} {f : Str} {pos pos' tpos : Pos} {ta tv : TE}
theorem pe_fld (he : PE X e ta) (hb : attributeBase e f X.env (eval e X.env) = eval e X.env) : PE X (.Attribute e f pos) (tFld X.K ta f) := by
  intro pins s σ H Q I h
  refine attr_of hb (thn (he pins s σ H _ I h) fun u s1 ⟨x, H1, I1, rx, a, C, dx, fs, v, ex, ea, c, n, l, q⟩ => ?_)
  subst ex
  obtain rfl : u = Value.ref a := rx
  exact getattr_ok I1 ea c n l fun u' s2 I2 ru => ⟨v, H1, I2, ru, q⟩
theorem pe_con (he : PE X e ta) (hb : attributeBase e f X.env (eval e X.env) = eval e X.env) : PE X (.Attribute e f pos) (tCon X.K ta f) := by
  intro pins s σ H Q I h
  refine attr_of hb (thn (he pins s σ H _ I h) fun u s1 ⟨x, H1, I1, rx, a, C, dx, fs, v, u0, ex, ea, c, k, l, q⟩ => ?_)
  subst ex
  obtain rfl : u = Value.ref a := rx
  exact getcon_ok I1 ea c k l fun s2 I2 => ⟨v, H1, I2, k.rel, q⟩
theorem ps_fld (ha : PE X o ta) (hv : PE X value tv) (hs : swapsWith value (some (.Attribute o f pos')) pos.line X.env = pure false) : PS X (.Assign [.Attribute o f pos'] value pos) (sFld X.K ta tv f) := by
  intro pins s σ H D I h
  refine plainObj_wpAny_Assign_Attribute (thn (hv pins s σ H _ I h) fun u s1 ⟨y, H1, I1, ry, q⟩ => thn (ha pins s1 σ H1 _ I1 q) fun ov s2 ⟨x, H2, I2, rx, a, C, dx, fs, ex, ea, c, n, l, q2⟩ => ?_) hs
  subst ex
  obtain rfl : ov = Value.ref a := rx
  exact setattr_ok I2 ea c n l ry fun s3 I3 => ⟨σ, _, I3, q2⟩
theorem ps_fldaug {op : Operator} {rd : V → V → Hp → VK → Prop} (ha : PE X o ta) (hv : PE X value tv) (hop : InOp X op rd) : PS X (.AugAssign (.Attribute o f tpos) op value pos) (sFldAug X.K ta tv rd f) := by
  intro pins s σ H D I h
  refine wpAny_AugAssign_AttributeAny (thn (ha pins s σ H _ I h) fun ov s1 ⟨x, H1, I1, rx, a, C, dx, fs, v, ex, ea, c, n, l, q⟩ => ?_)
  subst ex
  obtain rfl : ov = Value.ref a := rx
  refine getattr_ok I1 ea c n l fun u s2 I2 ru => thn (hv pins s2 σ H1 _ I2 q) fun w3 s3 ⟨y, H2, I3, ry, q3⟩ => thn (hop pins s3 σ H2 v y u w3 _ I3 ru ry q3) fun w4 s4 ⟨z, H3, I4, rz, dx', fs', ea', l', q4⟩ => ?_
  exact setattr_ok I4 ea' c n l' rz fun s5 I5 => ⟨σ, _, I5, q4⟩
def rAdd : V → V → Hp → VK → Prop := fun x y H Q => ∃ i j, x = .int i ∧ y = .int j ∧ Q (.int (i + j)) H
def rSub : V → V → Hp → VK → Prop := fun x y H Q => ∃ i j, x = .int i ∧ y = .int j ∧ Q (.int (i - j)) H
theorem in_add : InOp X .Add rAdd := by
  rintro pins s σ H x y u v Q I rx ry ⟨i, j, rfl, rfl, q⟩
  obtain ⟨t, rfl⟩ := (show ∃ t, u = Value.int i t from rx)
  obtain ⟨t', rfl⟩ := (show ∃ t', v = Value.int j t' from ry)
  exact PyProof.Rows.iadd_int ⟨.int (i + j), H, I.tok _, ⟨_, rfl⟩, q⟩
theorem in_sub : InOp X .Sub rSub := by
  rintro pins s σ H x y u v Q I rx ry ⟨i, j, rfl, rfl, q⟩
  obtain ⟨t, rfl⟩ := (show ∃ t, u = Value.int i t from rx)
  obtain ⟨t', rfl⟩ := (show ∃ t', v = Value.int j t' from ry)
  exact PyProof.Rows.isub_int ⟨.int (i - j), H, I.tok _, ⟨_, rfl⟩, q⟩

/-- what is between an instance and its method: the tree of a method call -/
theorem methcall_of {pl : Sem Bool} {m : Str} {apos : Pos} {args : List Expr} {pins : List (Addr × Obj)} {s : Shared} {σ : St} {H : Hp} {Q : Value → Shared → Prop} {te : TE} (he : PE X e te) (I : Inv X pins σ H s)
    (h : te σ H fun x H1 => ∃ a C dx fs g, x = .ref a ∧ H1 a = some (.ins C dx fs) ∧ Cls X.K C ∧ Meth X.K C m g ∧ fs.lookup m = none ∧
      ∀ s1, Inv X pins σ H1 s1 → wpAny (model X.prog X.w) X.A (callWith pos (.ref g) [.ref a] (backTo pos (starEach args X.env)) (backToKw pos (keywordEach [] X.env))) Q X.xe s1)
    (ht : eval (.Call (.Attribute e m apos) args [] pos) X.env = (do
      let ov ← eval e X.env
      standAt apos.atName
      let (f, first) ← holding [ov] (getMethod ov m pl)
      callWith pos f first (backTo pos (starEach args X.env)) (backToKw pos (keywordEach [] X.env)))) :
    wpAny (model X.prog X.w) X.A (eval (.Call (.Attribute e m apos) args [] pos) X.env) Q X.xe s := by
  refine PySem.W.methodCall_KW (pl := pl) (thn (he pins s σ H _ I h) fun u s1 ⟨x, H1, I1, rx, a, C, dx, fs, g, ex, ea, c, k, l, q⟩ => ?_) ht
  subst ex
  obtain rfl : u = Value.ref a := rx
  exact getmeth_ok I1 ea c k l (q s1 I1)
end

/-! ### isinstance -/
section
variable {X : Cx} {pins : List (Addr × Obj)} {σ : St} {H : Hp} {s : Shared} {A : Around} {E : Value → Shared → Prop} {Q : Value → Shared → Prop} {c : Value} {b : Bool}
/-- the type of a value, as the fragment's deciders take it; for an instance its class -/
inductive TyOf (K : PySem.W.Frag) (H : Hp) : V → Value → Prop where
  | non : TyOf K H .non (.type "NoneType")
  | bl (x : Bool) : TyOf K H (.bl x) (.type "bool")
  | int (i : Int) : TyOf K H (.int i) (.type "int")
  | str (x : Str) : TyOf K H (.str x) (.type "str")
  | flt (x : UInt64) : TyOf K H (.flt x) (.type "float")
  | lst {a : Addr} {xs : List V} (e : H a = some (.lst xs)) : TyOf K H (.ref a) (.type "list")
  | frz {a : Addr} {o : Obj} {xs : List V} (e : H a = some (.frz o (.lst xs))) : TyOf K H (.ref a) (.type "list")
  | tup {a : Addr} {xs : List V} (e : H a = some (.tup xs)) : TyOf K H (.ref a) (.type "tuple")
  | dK {a : Addr} {kvs : List (Key × V)} (e : H a = some (.dK kvs)) : TyOf K H (.ref a) (.type "dict")
  | dT {a : Addr} {kvs : List (List Key × V)} (e : H a = some (.dT kvs)) : TyOf K H (.ref a) (.type "dict")
  | ins {a C dx : Addr} {fs : List (Str × V)} (e : H a = some (.ins C dx fs)) (cl : Cls K C) (ha : PySem.W.findIn K (.ref C) "__class__" = some (some (.builtin "object.__class__")))
      (hn : PySem.W.specialIn K (.builtin "object.__class__") "__get__" = some (some (.builtin "getset_descriptor.__get__"))) (htk : PySem.W.takesIn K (.builtin "object.__class__") = some true)
      (hm : PySem.W.mroIn K C (.type "object") = some true) : TyOf K H (.ref a) (.ref C)
/-- isinstance(x, c) for one class c, a built-in or an own one: kitOne's answer -/
theorem isinst_ok {x : V} {u t : Value} (I : Inv X pins σ H s) (rx : RelV x u) (ty : TyOf X.K H x t) (e : PySem.W.kitOne X.K t c = some b) (h : ∀ tk, Q (.bool b) { s with toks := tk }) :
    wpAny (model X.prog X.w) A (call (.builtin "isinstance") [u, c]) Q E s := by
  cases ty with
  | non => cases (show u = Value.none from rx); exact PySem.W.kia_one PySem.W.kitx_none I.kIn True.intro e (fun z => nomatch z) h
  | bl y => cases (show u = Value.bool y from rx); exact PySem.W.kia_one PySem.W.kitx_bool I.kIn True.intro e (fun z => nomatch z) h
  | int i => obtain ⟨t, q⟩ := (show ∃ t, u = Value.int i t from rx); cases q; exact PySem.W.kia_one PySem.W.kitx_int I.kIn True.intro e (fun z => nomatch z) h
  | str y => obtain ⟨t, q⟩ := (show ∃ t, u = Value.str y t from rx); cases q; exact PySem.W.kia_one PySem.W.kitx_str I.kIn True.intro e (fun z => nomatch z) h
  | flt y => obtain ⟨t, q⟩ := (show ∃ t, u = Value.float y t from rx); cases q; exact PySem.W.kia_one PySem.W.kitx_float I.kIn True.intro e (fun z => nomatch z) h
  | @lst a xs ea =>
    cases (show u = Value.ref a from rx)
    obtain ⟨_, _, n, _, h1⟩ := (show ObjOk X.prog X.w H s.heap a (.lst xs) from I.hok a _ ea)
    exact PySem.W.kia_one PySem.W.kitx_list I.kIn ⟨_, h1, rfl⟩ e (fun z => nomatch z) h
  | @frz a ob xs ea =>
    cases (show u = Value.ref a from rx)
    obtain ⟨_, _, _, n, _, h1⟩ := (show ObjOk X.prog X.w H s.heap a (.frz ob (.lst xs)) from I.hok a _ ea)
    exact PySem.W.kia_one PySem.W.kitx_list I.kIn ⟨_, h1, rfl⟩ e (fun z => nomatch z) h
  | @tup a xs ea =>
    cases (show u = Value.ref a from rx)
    obtain ⟨_, _, _, p⟩ := (show ObjOk X.prog X.w H s.heap a (.tup xs) from I.hok a _ ea)
    obtain ⟨o, h1, h2, _⟩ := p
    exact PySem.W.kia_one PySem.W.kitx_tuple I.kIn ⟨o, h1, h2⟩ e (fun z => nomatch z) h
  | @dK a kvs ea =>
    cases (show u = Value.ref a from rx)
    obtain ⟨_, _, vs, _, p⟩ := (show ObjOk X.prog X.w H s.heap a (.dK kvs) from I.hok a _ ea)
    obtain ⟨o, es, ep, h1, h2, _⟩ := p
    exact PySem.W.kia_one PySem.W.kitx_dict I.kIn ⟨o, h1, h2.1⟩ e (fun z => nomatch z) h
  | @dT a kvs ea =>
    cases (show u = Value.ref a from rx)
    obtain ⟨_, _, xs, _, o, es, ep, h1, h2, _⟩ := (show ObjOk X.prog X.w H s.heap a (.dT kvs) from I.hok a _ ea)
    exact PySem.W.kia_one PySem.W.kitx_dict I.kIn ⟨o, h1, h2.1⟩ e (fun z => nomatch z) h
  | @ins a C dx fs ea cl ha hn htk hm =>
    cases (show u = Value.ref a from rx)
    obtain ⟨mA, O, _⟩ := ins_get I.hok ea
    obtain ⟨od, J, _⟩ := O.look
    exact PySem.W.kia_one (PySem.W.kitx_own (cl.get _) cl.hd ha hn htk hm) I.kIn J e (fun z => nomatch z) h
end
end L2

namespace L2
open PySem PySem.Spec PyProof.Rows

/-! ### room -/
structure Room (k : Nat) (A : Around) : Prop where
  hd : A.handled = none
  dp : A.depth + 3 * k + 5 < recursionLimit
  un : A.units + 16 * k + 200 < cLine
theorem Room.mono {j k : Nat} {A : Around} (r : Room k A) (h : j ≤ k) : Room j A := ⟨r.hd, by have := r.dp; omega, by have := r.un; omega⟩
theorem Room.deeper {k : Nat} {A : Around} (r : Room (k + 1) A) (env : Env) : Room k (A.deeper env) :=
  ⟨r.hd, by have := r.dp; show A.depth + 1 + 3 * k + 5 < _; omega, by have := r.un; show A.units + 3 + 16 * k + 200 < _; omega⟩
theorem Room.in1 {k : Nat} {A : Around} (r : Room (k + 1) A) : Room k A.in1 :=
  ⟨r.hd, by have := r.dp; show A.depth + 3 * k + 5 < _; omega, by have := r.un; show A.units + 1 + 16 * k + 200 < _; omega⟩
theorem make_depth {A : Around} {C : Addr} {us : List Value} {kw : List (Str × Value)} : (A.under (.builtin "type.__call__" ⟨.ref C :: us, kw⟩)).depth = A.depth + 1 := by
  first | rfl | simp [Around.under, Code.weight, Code.isCreation, Code.isGuard, Code.isCaller, Code.frames, Code.isFrame, guardIds]
theorem make_units {A : Around} {C : Addr} {us : List Value} {kw : List (Str × Value)} : (A.under (.builtin "type.__call__" ⟨.ref C :: us, kw⟩)).units = A.units + 1 := by
  first | rfl | simp [Around.under, Code.cUnits, Code.frames, Code.isFrame]
theorem Room.make {k : Nat} {A : Around} (r : Room (k + 1) A) (C : Addr) (us : List Value) (kw : List (Str × Value)) : Room k (A.under (.builtin "type.__call__" ⟨.ref C :: us, kw⟩)) :=
  ⟨r.hd, by have := r.dp; rw [make_depth]; omega, by have := r.un; rw [make_units]; omega⟩
theorem Room.depth {k : Nat} {A : Around} (r : Room k A) : A.depth < recursionLimit := by have := r.dp; omega
theorem Room.units {k : Nat} {A : Around} (r : Room k A) : A.units + 64 < cLine := by have := r.un; omega
theorem Room.units0 {k : Nat} {A : Around} (r : Room k A) : A.units < cLine := by have := r.un; omega

/-! ### argument lists and displays -/
def tNil : TA := fun _ H Q => Q [] H
def tCons (ta : TE) (tr : TA) : TA := fun σ H Q => ta σ H fun x H1 => tr σ H1 fun xs H2 => Q (x :: xs) H2
section
variable {X : Cx} {e : Expr} {es : List Expr} {te : TE} {t : TA} {pos : Pos}
theorem pa_nil : PA X [] tNil := fun _ _ _ _ H Q I h => Calls.spliced_nil ⟨[], H, I, .nil, h⟩
theorem pa_cons (ha : PE X e te) (hr : PA X es t) (hs : starEach (e :: es) X.env = (false, eval e X.env) :: starEach es X.env := by rfl) : PA X (e :: es) (tCons te t) := by
  intro pos pins s σ H Q I h
  rw [hs]
  show wpAny _ _ (spliced ((false, eval e X.env) :: backTo pos (starEach es X.env))) _ _ s
  refine Calls.spliced_cons (thn (ha pins s σ H _ I h) fun u s1 ⟨x, H1, I1, r1, q1⟩ => ?_)
  exact thn (hr pos pins s1 σ H1 _ I1 q1) fun us s2 ⟨xs, H2, I2, r2, q2⟩ => ⟨x :: xs, H2, I2, .cons r1 r2, q2⟩

/-- a tuple, a list of written items -/
def tTup (t : TA) : TE := fun σ H Q => t σ H fun xs H1 => xs.length ≤ sizeLine ∧ ∀ p, H1 p = none → Q (.ref p) (upd H1 p (.tup xs))
def tLst (t : TA) : TE := fun σ H Q => t σ H fun xs H1 => xs.length ≤ sizeLine ∧ ∀ p, H1 p = none → Q (.ref p) (upd H1 p (.lst xs))
theorem pe_tup {x1} (h : PA X es t) : PE X (.Tuple es x1 pos) (tTup t) := by
  intro pins s σ H Q I hq
  refine wpAny_Tuple_spliced (thn (h pos pins s σ H _ I hq) fun us s1 ⟨xs, H1, I1, r, z, q⟩ => ⟨by rw [← r.length]; exact z, ?_⟩)
  have hf : H1 s1.heap.objs.size = none := I1.hok.fresh (Nat.le_refl _)
  refine ⟨.ref s1.heap.objs.size, upd H1 s1.heap.objs.size (.tup xs), I1.laid (t' := s1.toks) (fun b u e => Heap.get?_push_of_some _ e) (Nat.le_refl _) ?_, rfl, q _ hf⟩
  exact ⟨z, us, r, ⟨_, Heap.get?_push_size _ rfl, rfl, _, rfl⟩⟩
theorem pe_lst (h : PA X es t) : PE X (.List es pos) (tLst t) := by
  intro pins s σ H Q I hq
  refine wpAny_List_spliced (thn (h pos pins s σ H _ I hq) fun us s1 ⟨xs, H1, I1, r, z, q⟩ => ⟨by rw [← r.length]; exact z, ?_⟩)
  have hf : H1 s1.heap.objs.size = none := I1.hok.fresh (Nat.le_refl _)
  refine ⟨.ref s1.heap.objs.size, upd H1 s1.heap.objs.size (.lst xs), I1.laid (t' := s1.toks) (fun b u e => Heap.get?_push_of_some _ e) (Nat.le_refl _) ?_, rfl, q _ hf⟩
  exact ⟨z, us, 0, r, Heap.get?_push_size _ rfl⟩
end

/-! ### what a def promises -/
/-- a def's promise: the bound arguments in the parameters' order, the heap, the wanted end, the wanted exception -/
abbrev Sp := List V → Hp → VK → XK → Prop
/-- how an exception lies behind a call (file 08 gives it): the callers' frames, abstract heap and state ahead of the call, the wish, the exception, the state -/
abbrev CXT := List Env → Hp → Shared → XK → Value → Shared → Prop

/-- the state at a call -/
structure Env0 (P : Program) (w : World) (K : PySem.W.Frag) (mg : Str → Option Value) (base : Heap) (A : Around) (outer : List Env) (s : Shared) (H : Hp) : Prop where
  frames : A.frames = some outer
  mod : Mod K mg base
  bs : ∀ b o, base.get? b = some o → s.heap.get? b = some o ∧ H b = none
  bsz : base.objs.size ≤ s.heap.objs.size
  funs : s.heap.FunFrames base outer
  frf : ∀ b ∈ frs outer, H b = none
  hok : HOk P w H s.heap
  bare : AllBare s.gens
/-- a call's end -/
def CE (outer : List Env) (P : Program) (w : World) (H : Hp) (s : Shared) (Q : VK) (u : Value) (s' : Shared) : Prop :=
  ∃ v H', s'.os = s.os ∧ AllBare s'.gens ∧ Un (frs outer) [] H H' s.heap s'.heap ∧ HOk P w H' s'.heap ∧ RelV v u ∧ Q v H'
def CR (CX : CXT) (outer : List Env) (P : Program) (w : World) (H : Hp) (s : Shared) (Q : VK) (E : XK) (r : Result) (s' : Shared) : Prop :=
  match r with
  | .ok (.ret u) => CE outer P w H s Q u s'
  | .ok _ => False
  | .error e => CX outer H s E e s'
structure FnOk (P : Program) (w : World) (K : PySem.W.Frag) (mg : Str → Option Value) (base : Heap) (CX : CXT) (k : Nat) (f : Addr) (fd : FuncData) (ps : List Str) (sp : Sp) : Prop where
  len : ∀ vs H Q E, sp vs H Q E → vs.length = ps.length
  run : ∀ (A : Around) (outer : List Env) (s : Shared) (H : Hp) (args : Args) (us : List Value) (vs : List V) (Q : VK) (E : XK), Room k A → Env0 P w K mg base A outer s H → BindsTo s fd args (ps.zip us) → Vals vs us → sp vs H Q E →
    codeAny (model P w) A (.call (.ref f) args) (CR CX outer P w H s Q E) s
theorem FnOk.mono {P : Program} {w : World} {K : PySem.W.Frag} {mg : Str → Option Value} {base : Heap} {CX : CXT} {j k : Nat} {f : Addr} {fd : FuncData} {ps : List Str} {sp : Sp} (F : FnOk P w K mg base CX j f fd ps sp) (h : j ≤ k) :
    FnOk P w K mg base CX k f fd ps sp := ⟨F.len, fun A outer s H args us vs Q E hr => F.run A outer s H args us vs Q E (hr.mono h)⟩
/-- a weaker promise -/
theorem FnOk.imp {P : Program} {w : World} {K : PySem.W.Frag} {mg : Str → Option Value} {base : Heap} {CX : CXT} {k : Nat} {f : Addr} {fd : FuncData} {ps : List Str} {sp sp' : Sp} (F : FnOk P w K mg base CX k f fd ps sp)
    (h : ∀ vs H Q E, sp' vs H Q E → sp vs H Q E) : FnOk P w K mg base CX k f fd ps sp' :=
  ⟨fun vs H Q E q => F.len vs H Q E (h _ _ _ _ q), fun A outer s H args us vs Q E hr he hb hv hs => F.run A outer s H args us vs Q E hr he hb hv (h _ _ _ _ hs)⟩

theorem Env0.make {P : Program} {w : World} {K : PySem.W.Frag} {mg : Str → Option Value} {base : Heap} {A : Around} {outer : List Env} {s : Shared} {H : Hp} (e : Env0 P w K mg base A outer s H) (C : Addr) (us : List Value) (kw : List (Str × Value)) :
    Env0 P w K mg base (A.under (.builtin "type.__call__" ⟨.ref C :: us, kw⟩)) outer s H := ⟨by first | exact e.frames | (simpa [Around.under, Code.envs, Code.isFrame, pushEnvs] using e.frames), e.mod, e.bs, e.bsz, e.funs, e.frf, e.hok, e.bare⟩
theorem Env0.in1 {P : Program} {w : World} {K : PySem.W.Frag} {mg : Str → Option Value} {base : Heap} {A : Around} {outer : List Env} {s : Shared} {H : Hp} (e : Env0 P w K mg base A outer s H) :
    Env0 P w K mg base A.in1 outer s H := ⟨e.frames, e.mod, e.bs, e.bsz, e.funs, e.frf, e.hok, e.bare⟩

section
variable {X : Cx} {pins : List (Addr × Obj)} {σ : St} {H : Hp} {s s' : Shared}
/-- from a body: what a callee wants -/
theorem Inv.env0 (I : Inv X pins σ H s) : Env0 X.prog X.w X.K X.mg X.base X.A X.stack s H :=
  ⟨I.ok.frames, I.ok.mod, I.bs, Nat.le_trans I.ok.bsz I.sz, I.stack, I.stkFree, I.hok, I.bare⟩
/-- behind a call -/
theorem Inv.after {Q : VK} {u : Value} (I : Inv X pins σ H s) (h : CE X.stack X.prog X.w H s Q u s') : EP X pins σ Q u s' := by
  obtain ⟨v, H', os, bare, un, hok, r, q⟩ := h
  obtain ⟨hh, g, d, t, os'⟩ := s'
  obtain rfl : os' = s.os := os
  exact ⟨v, H', I.call (h' := hh) (g' := g) (d' := d) (t' := t) (ch := []) un hok bare (fun b z => absurd z (by simp)), r, q⟩
end

/-! ### calls -/
/-- f(..): the written arguments, then the defaults dvs; E: what is wanted of an exception -/
def tCall (sp : Sp) (dvs : List V) (E : XK) (t : TA) : TE := fun σ H Q => t σ H fun vs H1 => sp (vs ++ dvs) H1 Q E
/-- o.m(..) of an instance of the class at C -/
def tMeth (C : Addr) (m : Str) (sp : Sp) (dvs : List V) (E : XK) (ta : TE) (t : TA) : TE := fun σ H Q => ta σ H fun x H1 => ∃ a dx fs, x = .ref a ∧ H1 a = some (.ins C dx fs) ∧ fs.lookup m = none ∧
  t σ H1 fun vs H2 => sp (x :: (vs ++ dvs)) H2 Q E
/-- C(..): a new instance and its dict, then __init__ -/
def tMake (C : Addr) (sp : Sp) (dvs : List V) (E : XK) (t : TA) : TE := fun σ H Q => t σ H fun vs H1 => ∀ x dx, H1 x = none → H1 dx = none → dx ≠ x →
  sp (.ref x :: (vs ++ dvs)) (upd (upd H1 dx (.own x)) x (.ins C dx [])) (fun v H2 => v = .non ∧ Q (.ref x) H2) E

/-- how the parameters are bound: us the positional arguments, kw the keywords' values by name, ds the defaults that fill up -/
def Binds (K : PySem.W.Frag) (fd : FuncData) (ps : List Str) (ds : List Value) : Prop :=
  ∀ (s : Shared) (us : List Value), K.In s.heap → (us ++ ds).length = ps.length → BindsTo s fd ⟨us, []⟩ (ps.zip (us ++ ds))
/-- every parameter is given -/
theorem Binds.all {K : PySem.W.Frag} {fd : FuncData} {ps : List Str} (h : ∀ us : List Value, us.length = ps.length → bindArgs fd ⟨us, []⟩ = pure (ps.zip us)) : Binds K fd ps [] := fun s us _ hl => by
  rw [List.append_nil] at hl ⊢
  exact .of_eq (h us hl)

/-- an exception of a callee reaches what this body wants of exceptions -/
def Passes (CX : CXT) (X : Cx) (E : XK) : Prop := ∀ (pins : List (Addr × Obj)) (σ : St) (H : Hp) (s : Shared) (e : Value) (s' : Shared), Inv X pins σ H s → CX X.stack H s E e s' → X.xe e s'

section
variable {X : Cx} {CX : CXT} {k : Nat} {f C : Addr} {fd : FuncData} {ps : List Str} {sp : Sp} {dvs : List V} {ds : List Value} {E : XK} {x m : Str} {p pos apos : Pos} {e o : Expr} {es : List Expr} {ta : TE} {t : TA}

/-- the callee runs -/
theorem run_fn {pins : List (Addr × Obj)} {σ : St} {H : Hp} {s : Shared} {Q : VK} {us : List Value} {vs : List V} (F : FnOk X.prog X.w X.K X.mg X.base CX k f fd ps sp) (hr : Room k X.A) (hb : Binds X.K fd ps ds) (hd : Vals dvs ds) (hx : Passes CX X E)
    (I : Inv X pins σ H s) (r : Vals vs us) (h : sp (vs ++ dvs) H Q E) : wpAny (model X.prog X.w) X.A (call (.ref f) us) (EP X pins σ Q) X.xe s := by
  have r2 : Vals (vs ++ dvs) (us ++ ds) := r.append hd
  have hl : (us ++ ds).length = ps.length := by rw [← r2.length]; exact F.len _ _ _ _ h
  refine wpAny_call (codeAny_mono (F.run X.A X.stack s H ⟨us, []⟩ (us ++ ds) (vs ++ dvs) Q E hr I.env0 (hb s us I.kIn hl) r2 h) fun r s' hq => ?_)
  cases r with
  | error e => exact hx pins σ H s e s' I hq
  | ok fl =>
    cases fl with
    | ret u => exact I.after hq
    | next => exact False.elim hq
    | brk => exact False.elim hq
    | cont => exact False.elim hq

theorem pe_call (F : FnOk X.prog X.w X.K X.mg X.base CX k f fd ps sp) (hr : Room k X.A) (hg : Gl X x) (hm : X.mg x = some (.ref f)) (hk : PySem.W.keepIn X.K (.ref f) = true) (hb : Binds X.K fd ps ds) (hd : Vals dvs ds) (hx : Passes CX X E)
    (ha : PA X (e :: es) t) (hdb : (x == ("__debug__" : Str)) = false := by decide) (he : starEach (e :: es) X.env = (false, eval e X.env) :: starEach es X.env := by rfl) (hpl : (backTo pos (starEach es X.env)).any (·.1) = false := by rfl) :
    PE X (.Call (.Name x p) (e :: es) [] pos) (tCall sp dvs E t) := by
  intro pins s σ H Q I h
  refine wpAny_Call_Name_kw (ld_glob I hg hm ?_ hdb)
  refine PySem.W.callWith_K (h₀ := X.base) I.ok.mod.kin hk (thn (ha pos pins s σ H _ I h) fun us s1 ⟨vs, H1, I1, r, q⟩ => ⟨I1.kIn, ?_⟩) he hpl
  exact run_fn F hr hb hd hx I1 r q
theorem pe_call0 (F : FnOk X.prog X.w X.K X.mg X.base CX k f fd ps sp) (hr : Room k X.A) (hg : Gl X x) (hm : X.mg x = some (.ref f)) (hk : PySem.W.keepIn X.K (.ref f) = true) (hb : Binds X.K fd ps ds) (hd : Vals dvs ds) (hx : Passes CX X E)
    (hdb : (x == ("__debug__" : Str)) = false := by decide) : PE X (.Call (.Name x p) [] [] pos) (tCall sp dvs E tNil) := by
  intro pins s σ H Q I h
  refine wpAny_Call_Name_kw (ld_glob I hg hm ?_ hdb)
  exact PySem.W.callWith_K0 I.kIn hk (run_fn (us := []) F hr hb hd hx I .nil h)

/-- o.m(e, ..) -/
theorem pe_meth {pl : Sem Bool} (he : PE X o ta) (c : Cls X.K C) (hm : Meth X.K C m f) (F : FnOk X.prog X.w X.K X.mg X.base CX k f fd ps sp) (hr : Room k X.A) (hb : Binds X.K fd ps ds) (hd : Vals dvs ds) (hx : Passes CX X E) (ha : PA X (e :: es) t)
    (hst : starEach (e :: es) X.env = (false, eval e X.env) :: starEach es X.env := by rfl) (hpl : (backTo pos (starEach es X.env)).any (·.1) = false := by rfl)
    (ht : eval (.Call (.Attribute o m apos) (e :: es) [] pos) X.env = (do
      let ov ← eval o X.env
      standAt apos.atName
      let (f, first) ← holding [ov] (getMethod ov m pl)
      callWith pos f first (backTo pos (starEach (e :: es) X.env)) (backToKw pos (keywordEach [] X.env))) := by rfl) :
    PE X (.Call (.Attribute o m apos) (e :: es) [] pos) (tMeth C m sp dvs E ta t) := by
  intro pins s σ H Q I h
  refine PySem.W.methodCall_KW (pl := pl) (thn (he pins s σ H _ I h) fun u s1 ⟨x, H1, I1, rx, a, dx, fs, ex, ea, l, q⟩ => ?_) ht
  subst ex
  obtain rfl : u = Value.ref a := rx
  refine getmeth_ok I1 ea c hm l ?_
  refine PySem.W.callWith_K (first := [.ref a]) (h₀ := X.base) I.ok.mod.kin hm.kp (thn (ha pos pins s1 σ H1 _ I1 q) fun us s2 ⟨vs, H2, I2, r, q2⟩ => ⟨I2.kIn, ?_⟩) hst hpl
  exact run_fn (us := .ref a :: us) (vs := .ref a :: vs) F hr hb hd hx I2 (.cons rfl r) q2
/-- o.m() -/
theorem pe_meth0 {pl : Sem Bool} (he : PE X o ta) (c : Cls X.K C) (hm : Meth X.K C m f) (F : FnOk X.prog X.w X.K X.mg X.base CX k f fd ps sp) (hr : Room k X.A) (hb : Binds X.K fd ps ds) (hd : Vals dvs ds) (hx : Passes CX X E)
    (ht : eval (.Call (.Attribute o m apos) [] [] pos) X.env = (do
      let ov ← eval o X.env
      standAt apos.atName
      let (f, first) ← holding [ov] (getMethod ov m pl)
      callWith pos f first (backTo pos (starEach [] X.env)) (backToKw pos (keywordEach [] X.env))) := by rfl) :
    PE X (.Call (.Attribute o m apos) [] [] pos) (tMeth C m sp dvs E ta tNil) := by
  intro pins s σ H Q I h
  refine PySem.W.methodCall_KW (pl := pl) (thn (he pins s σ H _ I h) fun u s1 ⟨x, H1, I1, rx, a, dx, fs, ex, ea, l, q⟩ => ?_) ht
  subst ex
  obtain rfl : u = Value.ref a := rx
  refine getmeth_ok I1 ea c hm l ?_
  exact PySem.W.callWith_K0 (first := [.ref a]) I1.kIn hm.kp (run_fn (us := [.ref a]) (vs := [.ref a]) F hr hb hd hx I1 (.cons rfl .nil) q)

/-- what a class must have to be made -/
structure Mk (K : PySem.W.Frag) (C f : Addr) : Prop where
  makes : PySem.W.makesIn K C = true
  init : PySem.W.findIn K (.ref C) "__init__" = some (some (.ref f))
  fn : PySem.W.isFn K (.ref f) = true
  kp : PySem.W.keepIn K (.ref C) = true

theorem run_make {pins : List (Addr × Obj)} {σ : St} {H : Hp} {s : Shared} {Q : VK} {us : List Value} {vs : List V} (M : Mk X.K C f) (F : FnOk X.prog X.w X.K X.mg X.base CX k f fd ps sp) (hr : Room (k + 1) X.A) (hb : Binds X.K fd ps ds) (hd : Vals dvs ds)
    (hx : Passes CX X E) (I : Inv X pins σ H s) (r : Vals vs us)
    (h : ∀ x dx, H x = none → H dx = none → dx ≠ x → sp (.ref x :: (vs ++ dvs)) (upd (upd H dx (.own x)) x (.ins C dx [])) (fun v H2 => v = .non ∧ Q (.ref x) H2) E) :
    wpAny (model X.prog X.w) X.A (call (.ref C) us) (EP X pins σ Q) X.xe s := by
  have hq := h (s.heap.objs.size + 1) s.heap.objs.size (I.hok.fresh (Nat.le_succ _)) (I.hok.fresh (Nat.le_refl _)) (Nat.ne_of_lt (Nat.lt_succ_self _))
  have I2 := Inv.made (C := C) I
  have r2 : Vals (V.ref (s.heap.objs.size + 1) :: (vs ++ dvs)) (Value.ref (s.heap.objs.size + 1) :: (us ++ ds)) := .cons rfl (r.append hd)
  have hl : (Value.ref (s.heap.objs.size + 1) :: us ++ ds).length = ps.length := by
    have e := r2.length
    rw [F.len _ _ _ _ hq] at e
    exact e.symm
  refine wpAny_call (make_map (f := f) I.kIn M.makes M.init (beq_iff_eq.mp M.fn) (codeAny_mono (F.run _ X.stack _ _ ⟨Value.ref (s.heap.objs.size + 1) :: us, []⟩ (Value.ref (s.heap.objs.size + 1) :: (us ++ ds)) _ _ E (hr.make C us [])
    (I2.env0.make C us []) (hb _ (Value.ref (s.heap.objs.size + 1) :: us) I2.kIn hl) r2 hq) fun r s' hq' => ?_))
  cases r with
  | error e => exact hx pins σ _ _ e s' I2 hq'
  | ok fl =>
    cases fl with
    | ret u =>
      obtain ⟨v, H', I3, rv, ev, q3⟩ := I2.after hq'
      subst ev
      exact ⟨rv, ⟨V.ref (s.heap.objs.size + 1), H', I3, rfl, q3⟩⟩
    | next => exact False.elim hq'
    | brk => exact False.elim hq'
    | cont => exact False.elim hq'
theorem pe_make (M : Mk X.K C f) (F : FnOk X.prog X.w X.K X.mg X.base CX k f fd ps sp) (hr : Room (k + 1) X.A) (hg : Gl X x) (hm : X.mg x = some (.ref C)) (hb : Binds X.K fd ps ds) (hd : Vals dvs ds) (hx : Passes CX X E)
    (ha : PA X (e :: es) t) (hdb : (x == ("__debug__" : Str)) = false := by decide) (he : starEach (e :: es) X.env = (false, eval e X.env) :: starEach es X.env := by rfl) (hpl : (backTo pos (starEach es X.env)).any (·.1) = false := by rfl) :
    PE X (.Call (.Name x p) (e :: es) [] pos) (tMake C sp dvs E t) := by
  intro pins s σ H Q I h
  refine wpAny_Call_Name_kw (ld_glob I hg hm ?_ hdb)
  refine PySem.W.callWith_K (h₀ := X.base) I.ok.mod.kin M.kp (thn (ha pos pins s σ H _ I h) fun us s1 ⟨vs, H1, I1, r, q⟩ => ⟨I1.kIn, ?_⟩) he hpl
  exact run_make M F hr hb hd hx I1 r q
theorem pe_make0 (M : Mk X.K C f) (F : FnOk X.prog X.w X.K X.mg X.base CX k f fd ps sp) (hr : Room (k + 1) X.A) (hg : Gl X x) (hm : X.mg x = some (.ref C)) (hb : Binds X.K fd ps ds) (hd : Vals dvs ds) (hx : Passes CX X E)
    (hdb : (x == ("__debug__" : Str)) = false := by decide) : PE X (.Call (.Name x p) [] [] pos) (tMake C sp dvs E tNil) := by
  intro pins s σ H Q I h
  refine wpAny_Call_Name_kw (ld_glob I hg hm ?_ hdb)
  exact PySem.W.callWith_K0 I.kIn M.kp (run_make (us := []) M F hr hb hd hx I .nil h)
end

/-! ### keywords -/
/-- the values of the keywords, from the left -/
def PK (X : Cx) (kws : List Keyword) (t : TA) : Prop :=
  ∀ (pos : Pos) (pins : List (Addr × Obj)) (s : Shared) (σ : St) (H : Hp) (Q : List V → Hp → Prop), Inv X pins σ H s → t σ H Q → wpAny (model X.prog X.w) X.A (evalAll ((backToKw pos (keywordEach kws X.env)).map (·.2))) (AP X pins σ Q) X.xe s
section
variable {X : Cx} {CX : CXT} {k : Nat} {f C : Addr} {fd : FuncData} {ps ks : List Str} {sp : Sp} {E : XK} {x m : Str} {p pos apos kpos : Pos} {e o : Expr} {es : List Expr} {kws : List Keyword} {te ta : TE} {t tk : TA} {nm : Option Str}
theorem pk_nil : PK X [] tNil := fun _ _ _ _ H Q I h => wpAny_evalAll_nil ⟨[], H, I, .nil, h⟩
theorem pk_cons (ha : PE X e te) (hr : PK X kws t) : PK X (⟨nm, e, kpos⟩ :: kws) (tCons te t) := by
  intro pos pins s σ H Q I h
  show wpAny _ _ (evalAll ((do let v ← eval e X.env; standAt pos; pure v) :: (backToKw pos (keywordEach kws X.env)).map (·.2))) _ _ s
  refine wpAny_evalAll_cons (wpAny_bind (thn (ha pins s σ H _ I h) fun u s1 ⟨x, H1, I1, r1, q1⟩ => wpAny_bind (wpAny_standAt (wpAny_pure ?_))))
  exact thn (hr pos pins s1 σ H1 _ I1 q1) fun us s2 ⟨xs, H2, I2, r2, q2⟩ => ⟨x :: xs, H2, I2, .cons r1 r2, q2⟩

/-- how a call with keywords binds: g puts the positional values us and the keywords' values ws (names ks) in the parameters' order, defaults among them -/
structure KBinds (K : PySem.W.Frag) (fd : FuncData) (ps ks : List Str) (g : List Value → List Value → List Value) (gV : List V → List V → List V) : Prop where
  to : ∀ (s : Shared) (us ws : List Value), K.In s.heap → (g us ws).length = ps.length → BindsTo s fd ⟨us, ks.zip ws⟩ (ps.zip (g us ws))
  rel : ∀ {vs : List V} {us : List Value} {zs : List V} {ws : List Value}, Vals vs us → Vals zs ws → Vals (gV vs zs) (g us ws)
def tCallK (sp : Sp) (gV : List V → List V → List V) (E : XK) (t tk : TA) : TE := fun σ H Q => t σ H fun vs H1 => tk σ H1 fun zs H2 => sp (gV vs zs) H2 Q E
variable {g : List Value → List Value → List Value} {gV : List V → List V → List V}
theorem run_fnk {pins : List (Addr × Obj)} {σ : St} {H : Hp} {s : Shared} {Q : VK} {us ws : List Value} {vs zs : List V} (F : FnOk X.prog X.w X.K X.mg X.base CX k f fd ps sp) (hr : Room k X.A) (hb : KBinds X.K fd ps ks g gV) (hx : Passes CX X E)
    (I : Inv X pins σ H s) (r : Vals vs us) (rz : Vals zs ws) (h : sp (gV vs zs) H Q E) : wpAny (model X.prog X.w) X.A (call (.ref f) us (ks.zip ws)) (EP X pins σ Q) X.xe s := by
  have r2 := hb.rel r rz
  have hl : (g us ws).length = ps.length := by rw [← r2.length]; exact F.len _ _ _ _ h
  refine wpAny_call (codeAny_mono (F.run X.A X.stack s H ⟨us, ks.zip ws⟩ (g us ws) (gV vs zs) Q E hr I.env0 (hb.to s us ws I.kIn hl) r2 h) fun r s' hq => ?_)
  cases r with
  | error e => exact hx pins σ H s e s' I hq
  | ok fl =>
    cases fl with
    | ret u => exact I.after hq
    | next => exact False.elim hq
    | brk => exact False.elim hq
    | cont => exact False.elim hq
/-- f(e, .., k = v, ..) -/
theorem pe_callK (F : FnOk X.prog X.w X.K X.mg X.base CX k f fd ps sp) (hr : Room k X.A) (hg : Gl X x) (hm : X.mg x = some (.ref f)) (hk : PySem.W.keepIn X.K (.ref f) = true) (hb : KBinds X.K fd ps ks g gV) (hx : Passes CX X E)
    (ha : PA X (e :: es) t) (hkw : PK X kws tk) (hall : (backToKw pos (keywordEach kws X.env)).all (·.1.isSome) = true := by rfl) (hks : (backToKw pos (keywordEach kws X.env)).filterMap (·.1) = ks := by rfl)
    (hdb : (x == ("__debug__" : Str)) = false := by decide) (he : starEach (e :: es) X.env = (false, eval e X.env) :: starEach es X.env := by rfl)
    (hpl : ((backTo pos (starEach (e :: es) X.env)).any (·.1) || (backToKw pos (keywordEach kws X.env)).any (·.1.isNone)) = false := by rfl) :
    PE X (.Call (.Name x p) (e :: es) kws pos) (tCallK sp gV E t tk) := by
  intro pins s σ H Q I h
  refine wpAny_Call_Name_kw (ld_glob I hg hm ?_ hdb)
  refine PySem.W.callWith_KW (h₀ := X.base) I.ok.mod.kin hk hall (thn (ha pos pins s σ H _ I h) fun us s1 ⟨vs, H1, I1, r, q⟩ => ?_) hpl he
  refine thn (hkw pos pins s1 σ H1 _ I1 q) fun ws s2 ⟨zs, H2, I2, rz, q2⟩ => ⟨I2.kIn, ?_⟩
  rw [hks]
  exact run_fnk F hr hb hx I2 r rz q2
end

/-! ### a def's body keeps its promise -/
/-- names: the parameters first -/
structure FnScope (N P : List Str) (sc : Scope) : Prop where
  kind : sc.kind = .function
  co : sc.isCoroutine = false
  gen : sc.isGenerator = false
  nd : N.Nodup
  pre : N.take P.length = P
  par : ∀ x ∈ P, sc.names.lookup x = some .local ∨ sc.names.lookup x = some .cell
  nofree : ∀ y ∈ sc.names, y.2 ≠ .free

theorem bindL_out {kindOf : Str → Option NameKind} {x : Str} : ∀ {binds : List (Str × Value)} {m : Str → Option Value}, (∀ v, (x, v) ∉ binds) → bindL kindOf binds m x = m x
  | [], _, _ => rfl
  | (n, v) :: r, m, h => by
    unfold bindL
    rw [bindL_out fun w hw => h w (List.mem_cons_of_mem _ hw)]
    split
    · have : x ≠ n := by rintro rfl; exact h v List.mem_cons_self
      simp [this]
    · rfl
theorem bindC_out {kindOf : Str → Option NameKind} {x : Str} : ∀ {binds : List (Str × Value)} {m : Str → Option Value}, (∀ v, (x, v) ∉ binds) → bindC kindOf binds m x = m x
  | [], _, _ => rfl
  | (n, v) :: r, m, h => by
    unfold bindC
    rw [bindC_out fun w hw => h w (List.mem_cons_of_mem _ hw)]
    split
    · rfl
    · have : x ≠ n := by rintro rfl; exact h v List.mem_cons_self
      simp [this]
theorem bindL_get {kindOf : Str → Option NameKind} {x : Str} {v : Value} : ∀ {P : List Str} {vs : List Value} {i : Nat} {m : Str → Option Value}, P.Nodup → P[i]? = some x → vs[i]? = some v → kindOf x = some .local →
    bindL kindOf (P.zip vs) m x = some v
  | [], _, _, _, _, h, _, _ => by simp at h
  | _ :: _, [], _, _, _, _, h, _ => by simp at h
  | p :: P, w :: vs, 0, m, nd, h1, h2, hk => by
    simp at h1 h2; subst h1; subst h2
    show bindL kindOf ((p, w) :: P.zip vs) m p = _
    unfold bindL
    rw [bindL_out fun v hv => (List.nodup_cons.mp nd).1 (List.of_mem_zip hv).1, if_pos hk]
    simp
  | p :: P, w :: vs, i + 1, m, nd, h1, h2, hk => by
    show bindL kindOf ((p, w) :: P.zip vs) m x = _
    unfold bindL
    exact bindL_get (i := i) (List.nodup_cons.mp nd).2 (by simpa using h1) (by simpa using h2) hk
theorem bindC_get {kindOf : Str → Option NameKind} {x : Str} {v : Value} : ∀ {P : List Str} {vs : List Value} {i : Nat} {m : Str → Option Value}, P.Nodup → P[i]? = some x → vs[i]? = some v → kindOf x ≠ some .local →
    bindC kindOf (P.zip vs) m x = some v
  | [], _, _, _, _, h, _, _ => by simp at h
  | _ :: _, [], _, _, _, _, h, _ => by simp at h
  | p :: P, w :: vs, 0, m, nd, h1, h2, hk => by
    simp at h1 h2; subst h1; subst h2
    show bindC kindOf ((p, w) :: P.zip vs) m p = _
    unfold bindC
    rw [bindC_out fun v hv => (List.nodup_cons.mp nd).1 (List.of_mem_zip hv).1, if_neg hk]
    simp
  | p :: P, w :: vs, i + 1, m, nd, h1, h2, hk => by
    show bindC kindOf ((p, w) :: P.zip vs) m x = _
    unfold bindC
    exact bindC_get (i := i) (List.nodup_cons.mp nd).2 (by simpa using h1) (by simpa using h2) hk

/-- the names' values at the entry -/
def start (N : List Str) (vs : List V) : St := vs.map some ++ List.replicate (N.length - vs.length) none

/-- the context of a def's body, at its entry; an exception leaves the frame, then lies as CX says -/
def cxOf (CX : CXT) (P : Program) (w : World) (K : PySem.W.Frag) (mg : Str → Option Value) (base : Heap) (N : List Str) (qual : Str) (scope : Scope) (f : Addr) (cd : Value) (A : Around) (outer : List Env) (s : Shared) (H : Hp) (E : XK) : Cx where
  prog := P
  w := w
  K := K
  mg := mg
  base := base
  A := A.deeper (envOfC qual scope s.heap.objs.size f cd)
  N := N
  s₀ := s
  H₀ := H
  env := envOfC qual scope s.heap.objs.size f cd
  outer := outer
  stack := envOfC qual scope s.heap.objs.size f cd :: outer
  ex := []
  calm := true
  fn := fun _ => true
  pn := []
  xe := fun e s' => wpAny (model P w) (A.deeper (envOfC qual scope s.heap.objs.size f cd)) (leaving (envOfC qual scope s.heap.objs.size f cd) e) (fun _ s'' => CX outer H s E e s'') (fun e' s'' => CX outer H s E e' s'') s'

theorem cell_has {sc : Scope} {n : Nat} {x : Str} (h : sc.names.lookup x = some .cell) : ∃ c, (cellsFrom n sc.names []).lookup x = some c := by
  have q := PySem.W.cellsFrom_some sc.names n [] (.inl h)
  exact Option.isSome_iff_exists.mp q

theorem inv_start {CX : CXT} {P : Program} {w : World} {K : PySem.W.Frag} {mg : Str → Option Value} {base : Heap} {N ps : List Str} {qual : Str} {scope : Scope} {f : Addr} {cd : Value} {A : Around} {outer : List Env} {s s1 : Shared} {H : Hp} {E : XK} {us : List Value} {vs : List V}
    (S : FnScope N ps scope) (hd : A.handled = none) (e0 : Env0 P w K mg base A outer s H) (hl : vs.length = ps.length) (r : Vals vs us)
    (x : InCallC s s.heap.objs.size (bindL (envOfC qual scope s.heap.objs.size f cd).kindOf (ps.zip us) fun _ => none) (cellsFrom (s.heap.objs.size + 1) scope.names []) (bindC (envOfC qual scope s.heap.objs.size f cd).kindOf (ps.zip us) fun _ => none) s1) :
    Inv (cxOf CX P w K mg base N qual scope f cd A outer s H E) [] (start N vs) H s1 := by
  have hpl : ps.length ≤ N.length := by have := congrArg List.length S.pre; rw [List.length_take] at this; omega
  obtain ⟨h1, tk, rfl, hk⟩ := x.done
  have noA : ∀ b : Addr, b ∉ (cxOf CX P w K mg base N qual scope f cd A outer s H E).ex := fun b z => absurd (show b ∈ ([] : List Addr) from z) (by simp)
  refine ⟨⟨e0.mod, S.kind, rfl, rfl, Nat.le_refl _, fun y z c h1 h2 => ?_, fun y hy => ?_, fun y c _ h => ?_, fun _ => hd, Around.frames_deeper e0.frames, .inr ⟨rfl, rfl⟩, fun b z => absurd z (noA b), e0.bs, e0.bsz, fun b _ _ => noA b, fun b z => absurd z (noA b), e0.funs, e0.frf⟩,
    rfl, e0.bare, Un.kept hk, ⟨_, x.toInCall.ns, fun i y v h1 h2 h3 => ?_⟩, fun y c h => ⟨_, x.cell y c h⟩, e0.hok.fresh (Nat.le_refl _), fun y c h => ?_, fun p hp => absurd (show p ∈ ([] : List (Addr × Obj)) from hp) (by simp), e0.hok.kept hk, ?_⟩
  · exact name_of_addr x.apart (PySem.mem_of_lookup h1) (PySem.mem_of_lookup h2)
  · have hy : scope.names.lookup y = some .cell ∨ scope.names.lookup y = some .free := hy
    rcases hy with hy | hy
    · exact cell_has hy
    · exact absurd rfl (S.nofree _ (PySem.mem_of_lookup hy))
  · exact Nat.le_of_lt (x.above y c (PySem.mem_of_lookup h))
  · have hi : i < vs.length := by
      unfold start at h2
      by_cases hi : i < vs.length
      · exact hi
      · rw [List.getElem?_append_right (by simpa using hi)] at h2
        rw [List.getElem?_replicate] at h2
        split at h2 <;> cases h2
    have ha : vs[i]? = some v := by
      unfold start at h2
      rw [List.getElem?_append_left (by simpa using hi), List.getElem?_map] at h2
      cases e : vs[i]? with
      | none => rw [e] at h2; cases h2
      | some a => rw [e] at h2; cases h2; rfl
    obtain ⟨u, hu, rv⟩ := r.get ha
    have hp : ps[i]? = some y := by
      rw [← S.pre, List.getElem?_take_of_lt (by omega)]; exact h1
    have ndP : ps.Nodup := by rw [← S.pre]; exact S.nd.sublist (List.take_sublist _ _)
    refine ⟨u, rv, ?_⟩
    rcases S.par y (List.mem_of_getElem? hp) with k | k
    · exact .inl ⟨k, bindL_get ndP hp hu k⟩
    · obtain ⟨c, e⟩ := cell_has (n := s.heap.objs.size + 1) k
      refine .inr ⟨.inl k, c, e, ?_⟩
      have q := x.cell y c e
      rw [bindC_get ndP hp hu (by show scope.names.lookup y ≠ _; rw [k]; decide)] at q
      exact q
  · exact e0.hok.fresh (Nat.le_of_lt (x.above y c (PySem.mem_of_lookup h)))
  · unfold start
    show _ = N.length
    rw [List.length_append, List.length_map, List.length_replicate]
    omega

/-- THE RULE: a def (or a method) of the text, by its body. The body's reading t is chosen for each entry; it is run at the parameters' values -/
theorem fn_of {CX : CXT} {P : Program} {w : World} {K : PySem.W.Frag} {mg : Str → Option Value} {base : Heap} {k : Nat} {f : Addr} {name qual : Str} {params : Arguments} {body : List Stmt} {scope : Scope} {dV kV doc pm cdv ct oc : Value} {an od : Option Addr}
    {osl : Array (Option Value)} {N ps : List Str} {sp : Sp} (lk : K.lookup f = some ⟨oc, od, .func (PySem.W.fnOf name qual params body scope dV kV doc pm an cdv ct), osl⟩) (hcd : PySem.W.codeIn K cdv qual = true) (S : FnScope N ps scope)
    (len : ∀ vs H Q E, sp vs H Q E → vs.length = ps.length)
    (hbody : ∀ (A : Around) (outer : List Env) (s : Shared) (H : Hp) (vs : List V) (Q : VK) (E : XK), Room k (A.deeper (envOfC qual scope s.heap.objs.size f cdv)) → sp vs H Q E →
      ∃ t, PSs (cxOf CX P w K mg base N qual scope f cdv A outer s H E) body t ∧ t { nx := fun _ H' => Q .non H', rt := Q } (start N vs) H) :
    FnOk P w K mg base CX (k + 1) f (PySem.W.fnOf name qual params body scope dV kV doc pm an cdv ct) ps sp := by
  refine ⟨len, fun A outer s H args us vs Q E hr e0 hb r hsp => ?_⟩
  have hl := len _ _ _ _ hsp
  have KX : K.In s.heap := e0.mod.kin.keeps fun b o e => (e0.bs b o e).1
  have lim : s.heap.NoLimit := e0.mod.nolimit.keeps fun b o e => (e0.bs b o e).1
  have hkind : ∀ y ∈ ps.zip us, scope.names.lookup y.1 = some .local ∨ (scope.names.lookup y.1 = some .cell ∧ ((cellsFrom (s.heap.objs.size + 1) scope.names []).lookup y.1).isSome = true) := fun ⟨n, v⟩ hy => by
    rcases S.par n (List.of_mem_zip hy).1 with q | q
    · exact .inl q
    · exact .inr ⟨q, PySem.W.cellsFrom_some _ _ _ (.inl q)⟩
  refine codeAny_call_function hr.depth (KX _ _ lk) rfl S.co S.gen rfl (PySem.W.codeRec_of KX hcd) (hb _ _ _ _ ?_)
  refine wpAny_newFunctionEnv_cells S.kind hkind fun env he s1 x => ?_
  subst he
  refine ⟨lim.keeps x.toInCall.keep, codeAny_func ?_⟩
  obtain ⟨t, ht, hq⟩ := hbody A outer s H vs Q E (hr.deeper _) hsp
  have I : Inv (cxOf CX P w K mg base N qual scope f cdv A outer s H E) [] (start N vs) H s1 := inv_start S hr.hd e0 hl r x
  refine wpAny_mono (ht [] s1 (start N vs) H _ I hq) (fun fl s' hs => ?_) fun e s' hs => hs
  have fin : ∀ {σ' : St} {H' : Hp} {v : V} {u : Value}, Inv (cxOf CX P w K mg base N qual scope f cdv A outer s H E) [] σ' H' s' → RelV v u → Q v H' → CE outer P w H s Q u s' :=
    fun {σ' H' v u} J rv q => ⟨v, H', J.os, J.bare, J.base, J.hok, rv, q⟩
  cases fl with
  | ret u =>
    obtain ⟨v, σ', H', J, rv, q⟩ := hs
    exact fin J rv q
  | next =>
    obtain ⟨σ', H', J, q⟩ := hs
    exact fin (v := V.non) (u := Value.none) J rfl q
  | brk =>
    obtain ⟨_, _, _, q⟩ := hs
    exact False.elim q
  | cont =>
    obtain ⟨_, _, _, q⟩ := hs
    exact False.elim q
end L2

namespace L2
open PySem PySem.Spec PyProof.Rows
section
variable {X : Cx} {x : Str} {p pos : Pos} {e : Expr} {es : List Expr} {t : TA} {id T : String} {r : List V → Hp → VK → Prop}

def tCB (r : List V → Hp → VK → Prop) (t : TA) : TE := fun σ H Q => t σ H fun vs H1 => r vs H1 Q
/-- f(e, ..), f a built-in function -/
theorem pe_callB (hc : CallR X (.builtin id) r) (hg : Gl X x) (hm : X.mg x = none) (hv : bootBuiltins x = some (.builtin id)) (ha : PA X (e :: es) t) (hn : x ≠ "__name__" := by decide) (hdb : (x == ("__debug__" : Str)) = false := by decide)
    (he : starEach (e :: es) X.env = (false, eval e X.env) :: starEach es X.env := by rfl) (hpl : (backTo pos (starEach es X.env)).any (·.1) = false := by rfl) : PE X (.Call (.Name x p) (e :: es) [] pos) (tCB r t) := by
  intro pins s σ H Q I h
  refine wpAny_Call_Name_kw (ld_blt I hg hm hv ?_ hn hdb)
  exact PyProof.Rows.callWith_builtin1 (thn (ha pos pins s σ H _ I h) fun us s1 ⟨vs, H1, I1, r1, q1⟩ => hc pins s1 σ H1 vs us Q I1 r1 q1) he hpl
/-- T(e, ..), T a built-in type -/
theorem pe_callTy (hc : CallR X (.type T) r) (hg : Gl X x) (hm : X.mg x = none) (hv : bootBuiltins x = some (.type T)) (ha : PA X (e :: es) t) (hn : x ≠ "__name__" := by decide) (hdb : (x == ("__debug__" : Str)) = false := by decide)
    (he : starEach (e :: es) X.env = (false, eval e X.env) :: starEach es X.env := by rfl) (hpl : (backTo pos (starEach es X.env)).any (·.1) = false := by rfl) : PE X (.Call (.Name x p) (e :: es) [] pos) (tCB r t) := by
  intro pins s σ H Q I h
  refine wpAny_Call_Name_kw (ld_blt I hg hm hv ?_ hn hdb)
  exact PyProof.Rows.callWith_type1 (thn (ha pos pins s σ H _ I h) fun us s1 ⟨vs, H1, I1, r1, q1⟩ => hc pins s1 σ H1 vs us Q I1 r1 q1) he hpl
/-- T() -/
theorem pe_callTy0 (hc : CallR X (.type T) r) (hg : Gl X x) (hm : X.mg x = none) (hv : bootBuiltins x = some (.type T)) (hn : x ≠ "__name__" := by decide) (hdb : (x == ("__debug__" : Str)) = false := by decide) :
    PE X (.Call (.Name x p) [] [] pos) (tCB r tNil) := by
  intro pins s σ H Q I h
  refine wpAny_Call_Name_kw (ld_blt I hg hm hv ?_ hn hdb)
  exact PyProof.Rows.callWith_type0 (hc pins s σ H [] [] Q I .nil h)
end
end L2

namespace HT
open PySem PyProof.Rows

/-- t < u of tuples of ints -/
def lexLt : List Int → List Int → Bool
  | [], [] => false
  | [], _ :: _ => true
  | _ :: _, [] => false
  | x :: xs, y :: ys => if x = y then lexLt xs ys else decide (x < y)
theorem lexLt_cons (x y : Int) (xs ys : List Int) : lexLt (x :: xs) (y :: ys) = if x = y then lexLt xs ys else decide (x < y) := rfl
theorem lexLt_nil_nil : lexLt [] [] = false := rfl
theorem lexLt_nil_cons (y : Int) (ys : List Int) : lexLt [] (y :: ys) = true := rfl
theorem lexLt_cons_nil (x : Int) (xs : List Int) : lexLt (x :: xs) [] = false := rfl

theorem eqAt_int (A : Around) (s : Shared) (a : Int) (t : Tok) (c : Int) (u : Tok) : ∃ e, SeqAt.EqAt A s (.int a t) (.int c u) e ∧ (e = true ↔ a = c) :=
  ⟨(a == c), SeqAt.EqAt.int_int a t c u, by simp⟩
theorem rcLt_int (A : Around) (s : Shared) (a : Int) (t : Tok) (c : Int) (u : Tok) (prog : Program) (w : World) (E : Value → Shared → Prop) (Q : Value → Shared → Prop) (h : Q (.bool (decide (a < c))) s) :
    wpAny (model prog w) A (richCompare .Lt (.int a t) (.int c u)) Q E s :=
  (PyProof.Rows.lt_int h : wpAny (model prog w) A (compareOp .Lt (.int a t) (.int c u)) Q E s)

section
open PySem.SeqAt
open PySem.AutoSeq1 (wpAny_loadPart')
open PySem.MeetsSeq PySem.MeetsSeq2 PySem.MeetsSeq3

theorem tuple_lt_ints (l b : Addr) (items items2 : Array Value) (n n2 : Nat) (dd dd2 : Option Addr) (sl sl2 : Array (Option Value)) (ns ms : List Int) (hi : IntsAre items.toList ns) (hj : IntsAre items2.toList ms) :
    Meets (Builtin.«tuple.__lt__» ⟨[.ref l, .ref b], []⟩)
      (fun _ R s => s.heap.get? l = some { cls := .type "tuple", dict := dd, data := .seq items n, slots := sl } ∧ s.heap.get? b = some { cls := .type "tuple", dict := dd2, data := .seq items2 n2, slots := sl2 } ∧
        R (.ok (.ret (.bool (lexLt ns ms)))) s) :=
  .of_wp fun prog w A R s h => by
    obtain ⟨hp, g, d, tk, os⟩ := s; obtain ⟨hl, hb, h⟩ := h
    have f2 := AutoSeq1.sub_tuple_tuple
    have z1 : items.size = ns.length := by rw [← hi.length]; simp
    have z2 : items2.size = ms.length := by rw [← hj.length]; simp
    wp_walk using wpAny_loadPart' hl, wpAny_loadPart' hb, wpAny_forIn_list _ (fun rest b s' => b.1 = none ∧ s' = ⟨hp, g, d, tk, os⟩ ∧ ∃ (vs ws : List Value) (ns' ms' : List Int), rest = vs.zip ws ∧
      IntsAre vs ns' ∧ IntsAre ws ms' ∧ ns'.length + items2.size = ms'.length + items.size ∧ R (.ok (.ret (.bool (lexLt ns' ms')))) ⟨hp, g, d, tk, os⟩) _
    case turn =>
      rintro ⟨y, x⟩ rest b s' ⟨hb', rfl, vs, ws, ns', ms', hz, hvi, hwi, hlen, hR⟩
      cases hvi with
      | nil => rw [List.zip_nil_left] at hz; cases hz
      | cons a t hvi' =>
        cases hwi with
        | nil => rw [List.zip_nil_right] at hz; cases hz
        | cons c u hwi' =>
          rw [List.zip_cons_cons] at hz
          injection hz with hyx hrest
          injection hyx with hy hx
          subst hy hx
          rw [lexLt_cons] at hR
          simp only [List.length_cons] at hlen
          obtain ⟨e, he, hiff⟩ := eqAt_int A.in1 ⟨hp, g, d, tk, os⟩ a t c u
          refine wpAny_bind (he prog w _ _ ?_)
          cases e with
          | true =>
            rw [if_pos (hiff.mp rfl)] at hR
            wp_walk
            exact ⟨rfl, rfl, _, _, _, _, hrest, hvi', hwi', by omega, hR⟩
          | false =>
            rw [if_neg (fun q => absurd (hiff.mpr q) Bool.false_ne_true)] at hR
            have hri := rcLt_int A.in1 ⟨hp, g, d, tk, os⟩ a t c u prog w
            wp_walk using hri
            exact ⟨_, rfl, by simpa using hR⟩
    case fin =>
      rintro ⟨b1, b2⟩ s' ⟨hb', rfl, vs, ws, ns', ms', hz, hvi, hwi, hlen, hR⟩
      simp only at hb'
      subst hb'
      have hv : lexLt ns' ms' = decide (items.size < items2.size) := by
        cases hvi with
        | nil =>
          cases hwi with
          | nil =>
            simp only [List.length_nil] at hlen
            rw [lexLt_nil_nil]
            exact (decide_eq_false (by omega)).symm
          | cons c u hw =>
            simp only [List.length_nil, List.length_cons] at hlen
            rw [lexLt_nil_cons]
            exact (decide_eq_true (by omega)).symm
        | cons a t hv =>
          cases hwi with
          | nil =>
            simp only [List.length_nil, List.length_cons] at hlen
            rw [lexLt_cons_nil]
            exact (decide_eq_false (by omega)).symm
          | cons c u hw =>
            rw [List.zip_cons_cons] at hz
            cases hz
      rw [hv] at hR
      wp_walk
      exact ⟨_, rfl, by simpa [Builtin.Tuple.tupleCompareSizes] using hR⟩
    case h =>
      exact ⟨rfl, rfl, items.toList, items2.toList, ns, ms, rfl, hi, hj, by omega, h⟩
end

section
variable {prog : Program} {w : World} {A : Around} {E : Value → Shared → Prop} {s : Shared}

theorem lt_tupInts {l b : Addr} {items items2 : Array Value} {ns ms : List Int} {Q : Value → Shared → Prop} (hl : IsTup s.heap l items) (hb : IsTup s.heap b items2) (hi : IntsAre items.toList ns) (hj : IntsAre items2.toList ms)
    (hu : A.units < cLine) (h : Q (.bool (lexLt ns ms)) s) : wpAny (model prog w) A (compareOp .Lt (.ref l) (.ref b)) Q E s := by
  obtain ⟨⟨cls, dd, data, sl⟩, ho, hc, n, hd⟩ := id hl
  obtain ⟨⟨cls2, dd2, data2, sl2⟩, ho2, hc2, n2, hd2⟩ := id hb
  simp only at hc hd hc2 hd2
  subst hc hd hc2 hd2
  exact richCompare_meets_room (op := .Lt) ⟨_, ho, rfl⟩ ⟨_, ho2, rfl⟩ PySem.F.slot_tuple_lt PySem.F.entry_tuple_lt (PySem.F.args_tuple_lt_2 _ _) (tuple_lt_ints l b items items2 n n2 dd dd2 sl sl2 ns ms hi hj)
    ⟨ho, ho2, show Value.bool (lexLt ns ms) ≠ Value.notImplemented ∧ Q (.bool (lexLt ns ms)) s from ⟨(fun x => nomatch x), h⟩⟩ hu

/-- t + u, t not empty -/
theorem cat_tup {t b : Addr} {vs ws : List Value} {Q : Value → Shared → Prop} (ht : IsTup s.heap t vs.toArray) (hb : IsTup s.heap b ws.toArray) (hv : vs ≠ [])
    (h1 : ws = [] → Q (.ref t) s) (h2 : ws ≠ [] → Q (.ref s.heap.objs.size) { s with heap := s.heap.push { cls := .type "tuple", data := .seq (vs ++ ws).toArray } })
    (hsz : vs.length + ws.length ≤ sizeLine) : wpAny (model prog w) A (binaryOp .Add (.ref t) (.ref b)) Q E s := by
  obtain ⟨⟨cls, dd, data, sl⟩, ho, hc, n, hd⟩ := id ht
  obtain ⟨⟨cls2, dd2, data2, sl2⟩, ho2, hc2, n2, hd2⟩ := id hb
  simp only at hc hd hc2 hd2
  subst hc hd hc2 hd2
  have e : vs.toArray ++ ws.toArray = (vs ++ ws).toArray := by simp
  by_cases hw : ws = []
  · exact concat_meets ⟨_, ho, rfl⟩ ⟨_, ho2, rfl⟩ noFill_tuple_add seq_tuple_add PySem.F.slot_tuple_add PySem.F.entry_tuple_add (PySem.F.args_tuple_add_2 _ _)
      (tuple_addW1 t b vs.toArray ws.toArray n n2 dd dd2 sl sl2 (by simpa using hv) (by simp [hw])) ⟨ho, ho2, h1 hw⟩
  · refine concat_meets ⟨_, ho, rfl⟩ ⟨_, ho2, rfl⟩ noFill_tuple_add seq_tuple_add PySem.F.slot_tuple_add PySem.F.entry_tuple_add (PySem.F.args_tuple_add_2 _ _)
      (tuple_addW2 t b vs.toArray ws.toArray n n2 dd dd2 sl sl2 (by simpa using hv) (by simpa using hw) (by rw [List.size_toArray, List.size_toArray]; exact hsz)) ⟨ho, ho2, ?_⟩
    rw [e]
    exact h2 hw

/-! ### t[a:b], not the whole -/
/-- a slice's bound as a place among n (d where it is left out) -/
def sIx (n d : Nat) : Option Int → Nat
  | none => d
  | some v => if v < 0 then (v + (n : Int)).toNat else min v.toNat n
theorem sIx_none (n d : Nat) : sIx n d none = d := rfl
theorem sIx_nat (n d k : Nat) : sIx n d (some (k : Int)) = min k n := by
  show (if (k : Int) < 0 then ((k : Int) + (n : Int)).toNat else min (k : Int).toNat n) = min k n
  rw [if_neg (by omega), Int.toNat_natCast]
theorem sIx_le (n d : Nat) (hd : d ≤ n) (o : Option Int) : sIx n d o ≤ n := by
  cases o with
  | none => exact hd
  | some v =>
    show (if v < 0 then (v + (n : Int)).toNat else min v.toNat n) ≤ n
    by_cases hv : v < 0
    · rw [if_pos hv]; omega
    · rw [if_neg hv]; exact Nat.min_le_right _ _
theorem clip_eq (v : Int) (n d : Nat) : (if v < 0 then max (v + (n : Int)) 0 else min v (n : Int)) = ((sIx n d (some v) : Nat) : Int) := by
  show (if v < 0 then max (v + (n : Int)) 0 else min v (n : Int)) = (((if v < 0 then (v + (n : Int)).toNat else min v.toNat n) : Nat) : Int)
  by_cases hv : v < 0
  · simp only [if_pos hv]; omega
  · simp only [if_neg hv]; omega
theorem adjust_gen (lo hi : Option Int) (n : Nat) : Builtin.Slice.sliceAdjust lo hi 1 (n : Int) = (((sIx n 0 lo : Nat) : Int), ((sIx n n hi : Nat) : Int)) := by
  have h1 : ¬ ((1 : Int) < 0) := by omega
  unfold Builtin.Slice.sliceAdjust
  simp only [h1, if_false]
  refine Prod.ext ?_ ?_
  · cases lo with
    | none => rfl
    | some v => exact clip_eq v n 0
  · cases hi with
    | none => rfl
    | some v => exact clip_eq v n n
theorem places_gen (i j : Nat) : Builtin.Slice.slicePlaces (i : Int) (j : Int) 1 = j - i := by
  unfold Builtin.Slice.slicePlaces
  have h1 : (1 : Int) > 0 := by omega
  simp only [h1, if_true, Int.ediv_one]
  split <;> omega
theorem slicePart_ {v : Value} {o : Option Int} {Q : Option Int → Shared → Prop} (p : IsPart v o) (h : Q o s) : wpAny (model prog w) A (Builtin.Slice.slicePartIndex v) Q E s := by
  cases p with
  | none => exact slicePart_none h
  | int i t => exact slicePart_int h
theorem sliceApplied_gen {sl : Addr} {vl vu : Value} {lo hi : Option Int} {n : Nat} {Q : Int × Int × Nat → Shared → Prop} (hs : s.heap.IsSliceOf sl vl vu .none) (pl : IsPart vl lo) (pu : IsPart vu hi)
    (h : Q (((sIx n 0 lo : Nat) : Int), 1, sIx n n hi - sIx n 0 lo) s) : wpAny (model prog w) A (Builtin.Slice.sliceApplied (.ref sl) (pure (n : Int))) Q E s := by
  obtain ⟨os, hos, hcs, hds⟩ := id hs
  unfold Builtin.Slice.sliceApplied Builtin.Slice.sliceFields
  refine wpAny_bind (wpAny_bind (wpAny_field hos hds (x := vl) rfl (wpAny_bind (wpAny_field hos hds (x := vu) rfl (wpAny_bind (wpAny_field hos hds (x := .none) rfl (wpAny_pure ?_)))))))
  refine wpAny_bind (slicePart_none ?_)
  show wpAny _ _ (if ((1 : Int) == 0) = true then _ else _) _ _ s
  rw [if_neg (by decide)]
  refine wpAny_bind (slicePart_ pl (wpAny_bind (slicePart_ pu (wpAny_bind (wpAny_pure ?_)))))
  show wpAny _ _ (match Builtin.Slice.sliceAdjust lo hi 1 (n : Int) with | (lo, hi) => pure (lo, (1 : Int), Builtin.Slice.slicePlaces lo hi 1)) _ _ s
  rw [adjust_gen lo hi n]
  show wpAny _ _ (pure (((sIx n 0 lo : Nat) : Int), (1 : Int), Builtin.Slice.slicePlaces ((sIx n 0 lo : Nat) : Int) ((sIx n n hi : Nat) : Int) 1)) _ _ s
  rw [places_gen]
  exact wpAny_pure h
theorem pick_gen (xs : Array Value) (i k : Nat) : ((List.range k).filterMap fun (m : Nat) => xs[((i : Int) + (m : Int) * 1).toNat]?).toArray = ((xs.toList.drop i).take k).toArray := by
  have e : (fun (m : Nat) => xs[((i : Int) + (m : Int) * 1).toNat]?) = fun m => xs[i + m]? := by
    funext m
    have : ((i : Int) + (m : Int) * 1).toNat = i + m := by omega
    rw [this]
  rw [e]
  have := pick_run xs i k
  rw [List.filterMap_map] at this
  have e2 : ((fun x => xs[x]?) ∘ fun x => i + x) = fun m => xs[i + m]? := rfl
  rw [e2] at this
  rw [this]

theorem getItem_tuple_cut {t sl : Addr} {items : Array Value} {vl vu : Value} {lo hi : Option Int} {Q : Value → Shared → Prop} (ht : IsTup s.heap t items) (hs : s.heap.IsSliceOf sl vl vu .none) (pl : IsPart vl lo) (pu : IsPart vu hi)
    (hw : ¬ (sIx items.size 0 lo = 0 ∧ sIx items.size items.size hi = items.size))
    (h : Q (.ref s.heap.objs.size) { s with heap := s.heap.push { cls := .type "tuple", data := .seq ((items.toList.drop (sIx items.size 0 lo)).take (sIx items.size items.size hi - sIx items.size 0 lo)).toArray } })
    (hsz : items.size ≤ sizeLine) : wpAny (model prog w) A (getItem (.ref t) (.ref sl)) Q E s := by
  have htake : sizeOk (.seq ((items.toList.drop (sIx items.size 0 lo)).take (sIx items.size items.size hi - sIx items.size 0 lo)).toArray) := by
    show ((items.toList.drop (sIx items.size 0 lo)).take (sIx items.size items.size hi - sIx items.size 0 lo)).toArray.size ≤ sizeLine
    rw [List.size_toArray, List.length_take, List.length_drop, Array.length_toList]
    omega
  have hj : sIx items.size items.size hi ≤ items.size := sIx_le _ _ (Nat.le_refl _) hi
  obtain ⟨os, hos, hcs, hds⟩ := id hs
  have hTs : s.TypeIs (.ref sl) "slice" := ⟨os, hos, hcs⟩
  unfold getItem
  try with_reducible refine wpAny_holding ?_
  first | refine wpAny_bind (wpAny_pure ?_) | skip
  refine wpAny_bind (wpAny_sequenceKey ht.typeIs (by decide) ?_)
  refine wpAny_bind (wpAny_callSpecial?_slot (name := Str.ofString "__getitem__") ht.typeIs PyProof.Rows.slot_tuple_getitem
    (wpAny_call_entry PyProof.Rows.slot_tuple_getitem ht.typeIs entry_tuple_getitem ?_ (args_tuple_getitem _ _)))
  show wpAny _ _ (Builtin.Tuple.tupleItemsOf (.ref t) >>= _) _ _ s
  refine wpAny_bind (tupleItemsOf_ ht ?_)
  refine wpAny_bind (wpAny_typeOf hTs ?_)
  rw [if_pos (by decide)]
  refine wpAny_bind (sliceApplied_gen hs pl pu ?_)
  have hno : ¬ ((((sIx items.size 0 lo : Nat) : Int) == 0 && (1 : Int) == 1 && (sIx items.size items.size hi - sIx items.size 0 lo) == items.size) = true) := by
    intro q
    rw [Bool.and_eq_true, Bool.and_eq_true] at q
    have q1 : ((sIx items.size 0 lo : Nat) : Int) = 0 := eq_of_beq q.1.1
    have q2 : sIx items.size items.size hi - sIx items.size 0 lo = items.size := eq_of_beq q.2
    exact hw ⟨by omega, by omega⟩
  show wpAny _ _ (if (((sIx items.size 0 lo : Nat) : Int) == 0 && (1 : Int) == 1 && (sIx items.size items.size hi - sIx items.size 0 lo) == items.size) = true then _ else _) _ _ s
  rw [if_neg hno, pick_gen]
  first
    | exact wpAny_bind (m := Builtin.Tuple.tupleExact _) (wpAny_newObj_type (wpAny_pure ⟨_, rfl, wpAny_pure h⟩) htake)
    | exact wpAny_bind (m := Builtin.Tuple.tupleExact _) (wpAny_newObj_type (wpAny_bind (wpAny_pure (wpAny_pure ⟨_, rfl, wpAny_pure h⟩))) htake)
    | exact wpAny_bind (wpAny_bind (m := Builtin.Tuple.tupleExact _) (wpAny_newObj_type (wpAny_pure (wpAny_pure ⟨_, rfl, wpAny_pure h⟩)) htake))
    | exact wpAny_bind (wpAny_bind (m := Builtin.Tuple.tupleExact _) (wpAny_newObj_type (wpAny_pure ⟨_, rfl, wpAny_pure h⟩) htake))
end
end HT

namespace L2
open PySem PySem.Spec PyProof.Rows

/-! ### the parts of a slice -/
abbrev TO := St → Hp → (Option Int → Hp → Prop) → Prop
/-- a slice's part (left out, or an int) -/
def PO (X : Cx) (e : Option Expr) (t : TO) : Prop :=
  ∀ (pins : List (Addr × Obj)) (s : Shared) (σ : St) (H : Hp) (Q : Option Int → Hp → Prop), Inv X pins σ H s → t σ H Q →
    wpAny (model X.prog X.w) X.A (evalPart e X.env) (fun u s' => ∃ o H', Inv X pins σ H' s' ∧ IsPart u o ∧ Q o H') X.xe s
def tNoPart : TO := fun _ H Q => Q none H
def tPart (t : TE) : TO := fun σ H Q => t σ H fun x H1 => ∃ i, x = .int i ∧ Q (some i) H1

theorem intsAre_of {ns : List Int} : ∀ {us : List Value}, Vals (ns.map V.int) us → IntsAre us ns := by
  induction ns with
  | nil => intro us r; rw [List.map_nil] at r; cases r; exact .nil
  | cons n ns ih =>
    intro us r
    rw [List.map_cons] at r
    cases r with
    | cons r1 r2 =>
      obtain ⟨t, e⟩ := r1
      subst e
      exact .cons n t (ih r2)

section
variable {X : Cx} {e : Expr} {te : TE} {lo hi : Option Expr} {tl th : TO} {pos p2 : Pos}

theorem po_none : PO X none tNoPart := by
  intro pins s σ H Q I h
  rw [evalPart_none]
  exact wpAny_pure ⟨none, H, I, .none, h⟩
theorem po_some (h : PE X e te) : PO X (some e) (tPart te) := by
  intro pins s σ H Q I hw
  rw [evalPart_some]
  refine thn (h pins s σ H _ I hw) fun u s1 ⟨x, H1, I1, r1, q1⟩ => ?_
  obtain ⟨i, rfl, q⟩ := q1
  obtain ⟨t, rfl⟩ := r1
  exact ⟨some i, H1, I1, .int i t, q⟩

/-- what a slice of a value is, by values: the slice object stands at sl -/
def SlR (X : Cx) (r : V → Option Int → Option Int → Hp → VK → Prop) : Prop :=
  ∀ (pins : List (Addr × Obj)) (s : Shared) (σ : St) (H : Hp) (x : V) (v vl vu : Value) (lo hi : Option Int) (sl : Addr) (Q : VK), Inv X pins σ H s → RelV x v → s.heap.IsSliceOf sl vl vu .none → IsPart vl lo → IsPart vu hi → r x lo hi H Q →
    ∃ T id, typeLookup (.type T) "__getitem__" = pure (some (.builtin id)) ∧ s.TypeIs v T ∧ wpAny (model X.prog X.w) X.A (getItem v (.ref sl)) (EP X pins σ Q) X.xe s
theorem SlR.or {r r' : V → Option Int → Option Int → Hp → VK → Prop} (h : SlR X r) (h' : SlR X r') : SlR X (fun x lo hi H Q => r x lo hi H Q ∨ r' x lo hi H Q) := by
  intro pins s σ H x v vl vu lo hi sl Q I rx hs pl pu q
  rcases q with q | q
  · exact h pins s σ H x v vl vu lo hi sl Q I rx hs pl pu q
  · exact h' pins s σ H x v vl vu lo hi sl Q I rx hs pl pu q
def tSl (r : V → Option Int → Option Int → Hp → VK → Prop) (te : TE) (tl th : TO) : TE := fun σ H Q => te σ H fun x H1 => tl σ H1 fun l H2 => th σ H2 fun u H3 => r x l u H3 Q
/-- a[lo:hi], any a -/
theorem pe_slice {r : V → Option Int → Option Int → Hp → VK → Prop} (hr : SlR X r) (he : PE X e te) (hl : PO X lo tl) (hu : PO X hi th) : PE X (.Subscript e (.Slice lo hi none p2) pos) (tSl r te tl th) := by
  intro pins s σ H Q I h
  refine Subscript_ (thn (he pins s σ H _ I h) fun v s1 ⟨x, H1, I1, r1, q1⟩ => ?_)
  refine wpAny_Slice (thn (hl pins s1 σ H1 _ I1 q1) fun vl s2 ⟨l, H2, I2, pl, q2⟩ => thn (hu pins s2 σ H2 _ I2 q2) fun vu s3 ⟨u, H3, I3, pu, q3⟩ => ?_)
  rw [evalPart_none]
  refine wpAny_pure ?_
  have I4 : Inv X pins σ H3 { s3 with heap := s3.heap.push { cls := .type "slice", data := .fields #[vl, vu, .none] } } := I3.kept (t' := s3.toks) fun b ob q => Heap.get?_push_of_some _ q
  obtain ⟨T, id, hT, ht, hg⟩ := hr pins { s3 with heap := s3.heap.push { cls := .type "slice", data := .fields #[vl, vu, .none] } } σ H3 x v vl vu l u s3.heap.objs.size Q I4 r1 (Heap.IsSliceOf.new ..) pl pu q3
  show wpAny (model X.prog X.w) X.A (subscriptTail e (.Slice lo hi none p2) v (.ref s3.heap.objs.size)) (EP X pins σ Q) X.xe { s3 with heap := s3.heap.push { cls := .type "slice", data := .fields #[vl, vu, .none] } }
  exact tail_any (ops := [.ref s3.heap.objs.size, v]) ht hT hg (by with_unfolding_all rfl)

/-- the items of xs[lo:hi] -/
def cutV (xs : List V) (lo hi : Option Int) : List V := (xs.drop (HT.sIx xs.length 0 lo)).take (HT.sIx xs.length xs.length hi - HT.sIx xs.length 0 lo)
theorem cutV_length (xs : List V) (lo hi : Option Int) : (cutV xs lo hi).length ≤ xs.length := by
  unfold cutV
  rw [List.length_take, List.length_drop]
  omega
/-- t[lo:hi], not the whole of it (the whole would be t itself) -/
def rSlT (K : PySem.W.Frag) : V → Option Int → Option Int → Hp → VK → Prop := fun x lo hi H Q => ∃ a xs, x = .ref a ∧ SqT K H a xs ∧
  ¬ (HT.sIx xs.length 0 lo = 0 ∧ HT.sIx xs.length xs.length hi = xs.length) ∧ ∀ p, H p = none → Q (.ref p) (upd H p (.tup (cutV xs lo hi)))
theorem sl_tup : SlR X (rSlT X.K) := by
  intro pins s σ H x v vl vu lo hi sl Q I rx hs pl pu h
  obtain ⟨a, xs, rfl, hx, hw, q⟩ := h
  cases rx
  obtain ⟨its, r, ht, hz⟩ := I.tuple hx
  have hlen : its.toArray.size = xs.length := by rw [List.size_toArray]; exact r.length.symm
  refine ⟨"tuple", _, PyProof.Rows.slot_tuple_getitem.lookup, ht.typeIs, ?_⟩
  refine HT.getItem_tuple_cut ht hs pl pu (by rw [hlen]; exact hw) ?_ (by rw [hlen]; exact hz)
  rw [hlen]
  refine ⟨.ref s.heap.objs.size, _, I.laid (t' := s.toks) (o := .tup (cutV xs lo hi)) (fun b ob q => Heap.get?_push_of_some _ q) (Nat.le_refl _) ?_, rfl, q _ (I.hok.fresh (Nat.le_refl _))⟩
  exact ⟨Nat.le_trans (cutV_length xs lo hi) hz, _, (r.drop (HT.sIx xs.length 0 lo)).take (HT.sIx xs.length xs.length hi - HT.sIx xs.length 0 lo), IsTup.new _ _⟩

/-! ### t < u, t + u -/
def rLtT (K : PySem.W.Frag) : R2 := fun x y H Q => ∃ a b ns ms, x = .ref a ∧ y = .ref b ∧ SqT K H a (ns.map V.int) ∧ SqT K H b (ms.map V.int) ∧ Q (.bl (HT.lexLt ns ms)) H
theorem op_ltT (hu : X.A.units < cLine) : OpR X (compareOp .Lt) (rLtT X.K) := by
  intro pins s σ H x y v u Q I rx ry h
  obtain ⟨a, b, ns, ms, rfl, rfl, ha, hb, q⟩ := h
  cases rx
  cases ry
  obtain ⟨its, r1, p1, _⟩ := I.tuple ha
  obtain ⟨its2, r2, p2, _⟩ := I.tuple hb
  have i1 : IntsAre its.toArray.toList ns := intsAre_of r1
  have i2 : IntsAre its2.toArray.toList ms := intsAre_of r2
  exact HT.lt_tupInts p1 p2 i1 i2 hu ⟨.bl (HT.lexLt ns ms), H, I, rfl, q⟩
/-- t + u, t not empty: u empty gives t itself -/
def rCatT (K : PySem.W.Frag) : R2 := fun x y H Q => ∃ a b xs ys, x = .ref a ∧ y = .ref b ∧ SqT K H a xs ∧ SqT K H b ys ∧ xs ≠ [] ∧ xs.length + ys.length ≤ sizeLine ∧
  (ys = [] → Q (.ref a) H) ∧ (ys ≠ [] → ∀ p, H p = none → Q (.ref p) (upd H p (.tup (xs ++ ys))))
theorem Vals.nil_iff {xs : List V} {us : List Value} (r : Vals xs us) : us = [] ↔ xs = [] := by
  cases r with
  | nil => simp
  | cons _ _ => simp
theorem op_catT : OpR X (binaryOp .Add) (rCatT X.K) := by
  intro pins s σ H x y v u Q I rx ry h
  obtain ⟨a, b, xs, ys, rfl, rfl, ha, hb, hx, hz, q1, q2⟩ := h
  cases rx
  cases ry
  obtain ⟨its, r1, p1, _⟩ := I.tuple ha
  obtain ⟨its2, r2, p2, _⟩ := I.tuple hb
  refine HT.cat_tup p1 p2 (fun z => hx (r1.nil_iff.mp z)) (fun z => ⟨.ref a, H, I, rfl, q1 (r2.nil_iff.mp z)⟩) (fun z => ?_) (by rw [← r1.length, ← r2.length]; exact hz)
  refine ⟨.ref s.heap.objs.size, _, I.laid (t' := s.toks) (o := .tup (xs ++ ys)) (fun b ob q => Heap.get?_push_of_some _ q) (Nat.le_refl _) ?_, rfl, q2 (fun w => z (r2.nil_iff.mpr w)) _ (I.hok.fresh (Nat.le_refl _))⟩
  exact ⟨by rw [List.length_append]; exact hz, _, r1.append r2, IsTup.new _ _⟩
/-- tuple(t) -/
theorem call_tupleT : CallR X (.type "tuple") (fun xs H Q => ∃ a ys, xs = [.ref a] ∧ SqT X.K H a ys ∧ Q (.ref a) H) := by
  intro pins s σ H xs us Q I r h
  obtain ⟨a, ys, rfl, ha, q⟩ := h
  obtain ⟨u, rfl, ru⟩ := vals1 r
  cases ru
  obtain ⟨its, _, p1, _⟩ := I.tuple ha
  exact call_tuple_same (items := its.toArray) p1 ⟨.ref a, H, I, rfl, q⟩
end
end L2

namespace L2
open PySem PySem.Spec PyProof.Rows

/-! ### places -/
/-- the place that an index of any sign means -/
def ixN (n : Nat) (i : Int) : Option Nat := if 0 ≤ i then (if i < n then some i.toNat else none) else if -(n : Int) ≤ i then some (i + n).toNat else none
def atI {α : Type} (xs : List α) (i : Int) : Option α := (ixN xs.length i).bind fun j => xs[j]?
theorem ixN_seq {n : Nat} {i : Int} {j : Nat} (h : ixN n i = some j) : seqIndex? i n = some j ∧ j < n ∧ -(n : Int) ≤ i ∧ i < n := by
  unfold ixN at h
  by_cases h0 : 0 ≤ i
  · rw [if_pos h0] at h
    by_cases h1 : i < n
    · rw [if_pos h1] at h
      have e : i.toNat = j := Option.some.inj h
      exact ⟨by rw [seqIndex_of h0 h1, e], by omega, by omega, h1⟩
    · rw [if_neg h1] at h; cases h
  · rw [if_neg h0] at h
    by_cases h1 : -(n : Int) ≤ i
    · rw [if_pos h1] at h
      have e : (i + n).toNat = j := Option.some.inj h
      exact ⟨by rw [seqIndex_neg (by omega) h1, e], by omega, h1, by omega⟩
    · rw [if_neg h1] at h; cases h
theorem atI_get {α : Type} {xs : List α} {i : Int} {v : α} (h : atI xs i = some v) : ∃ j, seqIndex? i xs.length = some j ∧ xs[j]? = some v ∧ j < xs.length ∧ -(xs.length : Int) ≤ i ∧ i < xs.length := by
  unfold atI at h
  cases e : ixN xs.length i with
  | none => rw [e] at h; cases h
  | some j =>
    rw [e] at h
    obtain ⟨h1, h2, h3, h4⟩ := ixN_seq e
    exact ⟨j, h1, h, h2, h3, h4⟩
theorem atI_nat {α : Type} {xs : List α} {j : Nat} {v : α} (h : xs[j]? = some v) : atI xs (j : Int) = some v := by
  have hj : j < xs.length := (List.getElem?_eq_some_iff.mp h).1
  have e : ixN xs.length (j : Int) = some j := by
    unfold ixN
    rw [if_pos (by omega), if_pos (by omega)]; simp
  unfold atI; rw [e]; exact h
theorem atI_last {α : Type} (xs : List α) (v : α) : atI (xs ++ [v]) (-1) = some v := by
  have hl : (xs ++ [v]).length = xs.length + 1 := by simp
  have e : ixN (xs ++ [v]).length (-1) = some xs.length := by
    unfold ixN
    rw [hl, if_neg (by decide), if_pos (by omega)]
    congr 1
    omega
  unfold atI
  rw [e]
  show (xs ++ [v])[xs.length]? = some v
  simp

/-! ### what may be subscripted -/
/-- what stands as an index of a plain subscript -/
def PlainIx (b : Expr) : Prop := ∀ o i, subscripted b false o i = operate [o, i] (getItem o i)
/-- a subscript by values -/
def IxR (X : Cx) (r : R2) : Prop :=
  ∀ (value slice : Expr) (pins : List (Addr × Obj)) (s : Shared) (σ : St) (H : Hp) (x y : V) (v u : Value) (Q : VK), Inv X pins σ H s → RelV x v → RelV y u → r x y H Q →
    subscripted slice false v u = operate [v, u] (getItem v u) → wpAny (model X.prog X.w) X.A (subscriptTail value slice v u) (EP X pins σ Q) X.xe s
/-- a call of a builtin's method by values: the receiver, the arguments -/
def MtR (X : Cx) (id : String) (r : V → List V → Hp → VK → Prop) : Prop :=
  ∀ (pins : List (Addr × Obj)) (s : Shared) (σ : St) (H : Hp) (x : V) (xs : List V) (v : Value) (us : List Value) (Q : VK), Inv X pins σ H s → RelV x v → Vals xs us → r x xs H Q →
    wpAny (model X.prog X.w) X.A (call (.builtin id) (v :: us)) (EP X pins σ Q) X.xe s
section
variable {X : Cx} {a b : Expr} {ta tb : TE} {pos : Pos}
theorem IxR.or {r r' : R2} (h : IxR X r) (h' : IxR X r') : IxR X (fun x y H Q => r x y H Q ∨ r' x y H Q) := by
  intro value slice pins s σ H x y v u Q I rx ry q hs
  rcases q with q | q
  · exact h value slice pins s σ H x y v u Q I rx ry q hs
  · exact h' value slice pins s σ H x y v u Q I rx ry q hs
theorem MtR.or {id : String} {r r' : V → List V → Hp → VK → Prop} (h : MtR X id r) (h' : MtR X id r') : MtR X id (fun x xs H Q => r x xs H Q ∨ r' x xs H Q) := by
  intro pins s σ H x xs v us Q I rx rs q
  rcases q with q | q
  · exact h pins s σ H x xs v us Q I rx rs q
  · exact h' pins s σ H x xs v us Q I rx rs q
/-- a[b] -/
theorem pe_ix {r : R2} (hr : IxR X r) (ha : PE X a ta) (hb : PE X b tb) (hs : PlainIx b) : PE X (.Subscript a b pos) (tOp r ta tb) := by
  intro pins s σ H Q I h
  exact Subscript_ (binT ha hb I h fun v u s2 x y H2 I2 rx ry q => hr a b pins s2 σ H2 x y v u Q I2 rx ry q (hs _ _))

def rIxL (K : PySem.W.Frag) : R2 := fun x y H Q => ∃ p xs i v, x = .ref p ∧ y = .int i ∧ SqL K H p xs ∧ atI xs i = some v ∧ Q v H
def rIxT (K : PySem.W.Frag) : R2 := fun x y H Q => ∃ p xs i v, x = .ref p ∧ y = .int i ∧ SqT K H p xs ∧ atI xs i = some v ∧ Q v H
def rIxS : R2 := fun x y H Q => ∃ z i c, x = .str z ∧ y = .int i ∧ z.length ≤ sizeLine ∧ atI z.cps.toList i = some c ∧ Q (.str ⟨#[c]⟩) H
theorem ix_list : IxR X (rIxL X.K) := by
  intro value slice pins s σ H x y v u Q I rx ry h hs
  obtain ⟨p, xs, i, z, rfl, rfl, hq, he, q⟩ := h
  cases rx
  obtain ⟨t, rfl⟩ := ry
  obtain ⟨its, r, pl, hz⟩ := I.list hq
  obtain ⟨j, h1, h2, h3, h4, h5⟩ := atI_get he
  obtain ⟨w, ew, rw'⟩ := r.get h2
  have hl := r.length
  have hn := line63
  have fin : EP X pins σ Q w s := ⟨z, H, I, rw', q⟩
  by_cases h0 : 0 ≤ i
  · have hj : i.toNat = j := by
      rw [seqIndex_of h0 h5] at h1
      exact Option.some.inj h1
    exact item_listR pl.isList h0 (by omega) (by rw [hj]; simpa using ew) fin hs
  · have hj : (i + (its.toArray.size : Int)).toNat = j := by
      rw [seqIndex_neg (by omega) h4] at h1
      rw [List.size_toArray, ← hl]
      exact Option.some.inj h1
    exact subscriptTail_builtinR (x := w) pl.isList.typeIs slot_list_getitem.lookup
      (wpAny_getItem_list_neg (Q := fun r s' => r = w ∧ EP X pins σ Q r s') pl.isList (by omega) (by rw [List.size_toArray] <;> omega) (by omega) (by rw [hj]; simpa using ew) ⟨rfl, fin⟩) hs
theorem ix_tup : IxR X (rIxT X.K) := by
  intro value slice pins s σ H x y v u Q I rx ry h hs
  obtain ⟨p, xs, i, z, rfl, rfl, hq, he, q⟩ := h
  cases rx
  obtain ⟨t, rfl⟩ := ry
  obtain ⟨its, r, pl, hz⟩ := I.tuple hq
  obtain ⟨j, h1, h2, h3, h4, h5⟩ := atI_get he
  obtain ⟨w, ew, rw'⟩ := r.get h2
  have hl := r.length
  have hn := line63
  have fin : EP X pins σ Q w s := ⟨z, H, I, rw', q⟩
  exact subscriptTail_builtinR (x := w) pl.typeIs slot_tuple_getitem.lookup
    (getItem_tuple (j := j) (Q := fun r s' => r = w ∧ EP X pins σ Q r s') pl (by omega) (by omega) (by rw [List.size_toArray, ← hl]; exact h1) (by simpa using ew) ⟨rfl, fin⟩) hs
theorem ix_str : IxR X rIxS := by
  intro value slice pins s σ H x y v u Q I rx ry h hs
  obtain ⟨z, i, c, rfl, rfl, hz, he, q⟩ := h
  obtain ⟨t, rfl⟩ := rx
  obtain ⟨t', rfl⟩ := ry
  obtain ⟨j, h1, h2, h3, h4, h5⟩ := atI_get he
  have hl : z.cps.toList.length = z.length := by simp [Str.length]
  rw [hl] at h1 h4 h5
  have hn := line63
  exact tail_any (typeIs_str s z t) slot_str_getitem.lookup (getItem_str (c := c) (by
    have e1 : decide (i < -(2 ^ 63 : Int)) = false := decide_eq_false (by omega)
    have e2 : decide (i ≥ 2 ^ 63) = false := decide_eq_false (by omega)
    rw [e1, e2, Bool.or_false]) (by rw [h1]; simpa using h2) ⟨.str ⟨#[c]⟩, H, I.tok _, ⟨_, rfl⟩, q⟩) hs
/-- list, tuple or str -/
def rIx (K : PySem.W.Frag) : R2 := fun x y H Q => rIxL K x y H Q ∨ rIxT K x y H Q ∨ rIxS x y H Q
theorem ix_seq : IxR X (rIx X.K) := ix_list.or (ix_tup.or ix_str)

/-! ### xs[i] = v, any sign -/
/-- the list's object behind a store -/
theorem mapSeq_set (its : List Value) (n j : Nat) (u : Value) : Obj.mapSeq (·.setIfInBounds j u) { cls := .type "list", data := .seq its.toArray n } = { cls := .type "list", data := .seq (its.set j u).toArray n } := by
  simp [Obj.mapSeq]
theorem Inv.lst {pins : List (Addr × Obj)} {σ : St} {H : Hp} {s : Shared} {p : Addr} {xs : List V} (I : Inv X pins σ H s) (h : H p = some (.lst xs)) :
    ∃ (its : List Value) (n : Nat), Vals xs its ∧ s.heap.get? p = some { cls := .type "list", data := .seq its.toArray n } ∧ xs.length ≤ sizeLine := by
  obtain ⟨z, its, n, r, e⟩ := I.hok p _ h
  exact ⟨its, n, r, e, z⟩
/-- the list at p is written by an update of its object -/
theorem Inv.lstUpd {pins : List (Addr × Obj)} {σ : St} {H : Hp} {s : Shared} {p : Addr} {xs ys : List V} {its its' : List Value} {n n' : Nat} {f : Obj → Obj} (I : Inv X pins σ H s) (h : H p = some (.lst xs))
    (ho : s.heap.get? p = some { cls := .type "list", data := .seq its.toArray n }) (hf : f { cls := .type "list", data := .seq its.toArray n } = { cls := .type "list", data := .seq its'.toArray n' }) (r : Vals ys its') (hz : ys.length ≤ sizeLine) (t : Nat) :
    Inv X pins σ (upd H p (.lst ys)) { s with heap := s.heap.update p f, toks := t } := by
  have e : (s.heap.update p f).get? p = some { cls := .type "list", data := .seq its'.toArray n' } := by
    rw [Heap.get?_update_self f ho (by rw [hf] <;> rfl), hf]
  refine I.write (x := p) (e := p) (by rw [h]; trivial) (.inl rfl) (fun b u hb q => (Heap.get?_update_other _ _ (Ne.symm hb)).trans q) ⟨_, e⟩ ?_
  exact ⟨hz, its', n', r, e⟩
def rSetL : V → V → V → Hp → (Hp → Prop) → Prop := fun o i v H Q => ∃ p xs k j, o = .ref p ∧ i = .int k ∧ H p = some (.lst xs) ∧ ixN xs.length k = some j ∧ Q (upd H p (.lst (xs.set j v)))
theorem set_list : PSet X rSetL := by
  intro pins s σ H o i v ov iv u Q I ro ri rv h
  obtain ⟨p, xs, k, j, rfl, rfl, hp, hj, q⟩ := h
  cases ro
  obtain ⟨t, rfl⟩ := ri
  obtain ⟨its, n, r, ho, hz⟩ := I.lst hp
  obtain ⟨h1, h2, h3, h4⟩ := ixN_seq hj
  have hl := r.length
  have hn := line63
  have I' : Inv X pins σ (upd H p (.lst (xs.set j v))) { s with heap := s.heap.update p (Obj.mapSeq (·.setIfInBounds j u)) } :=
    I.lstUpd hp ho (mapSeq_set its n j u) (r.set rv j) (by rw [List.length_set]; exact hz) s.toks
  by_cases h0 : 0 ≤ k
  · have hk : k.toNat = j := by
      rw [seqIndex_of h0 h4] at h1
      exact Option.some.inj h1
    exact PySem.W.ki_setAt ho h0 (by omega) (by rw [List.size_toArray, ← hl]; exact h4) (by rw [hk]; exact ⟨_, I', q⟩)
  · have hk : (k + (its.toArray.size : Int)).toNat = j := by
      rw [seqIndex_neg (by omega) h3] at h1
      rw [List.size_toArray, ← hl]
      exact Option.some.inj h1
    exact PySem.W.ki_setBack ho (by omega) (by rw [List.size_toArray, ← hl]; exact h3) (by omega) (by rw [hk]; exact ⟨_, I', q⟩)

/-! ### slices -/
theorem slice_bounds (lo hi : Option Int) (n : Nat) : (sliceBounds lo hi none n).1 = ((HT.sIx n 0 lo : Nat) : Int) ∧ (sliceBounds lo hi none n).2.1 = ((HT.sIx n n hi : Nat) : Int) ∧ (sliceBounds lo hi none n).2.2 = 1 := by
  refine ⟨?_, ?_, rfl⟩
  · cases lo with
    | none => simp [sliceBounds, HT.sIx]
    | some i =>
      simp only [sliceBounds, HT.sIx, Option.getD_none, show (1 : Int) > 0 by decide, if_true]
      by_cases h : i < 0
      · simp only [h, if_true] <;> omega
      · simp only [h, if_false] <;> omega
  · cases hi with
    | none => simp [sliceBounds, HT.sIx]
    | some i =>
      simp only [sliceBounds, HT.sIx, Option.getD_none, show (1 : Int) > 0 by decide, if_true]
      by_cases h : i < 0
      · simp only [h, if_true] <;> omega
      · simp only [h, if_false] <;> omega
theorem slicePick_cut (its : List Value) (lo hi : Option Int) : slicePick its.toArray lo hi none = ((its.drop (HT.sIx its.length 0 lo)).take (HT.sIx its.length its.length hi - HT.sIx its.length 0 lo)).toArray := by
  obtain ⟨h1, h2, h3⟩ := slice_bounds lo hi its.toArray.size
  unfold slicePick
  rw [h1, h2, h3]
  simp only [sliceRange_one, pick_run, List.size_toArray] <;> rfl
/-- xs[lo:hi] of a list: a new list -/
def rSlL (K : PySem.W.Frag) : V → Option Int → Option Int → Hp → VK → Prop := fun x lo hi H Q => ∃ a xs, x = .ref a ∧ SqL K H a xs ∧ ∀ p, H p = none → Q (.ref p) (upd H p (.lst (cutV xs lo hi)))
theorem sl_list : SlR X (rSlL X.K) := by
  intro pins s σ H x v vl vu lo hi sl Q I rx hs pl pu h
  obtain ⟨a, xs, rfl, hx, q⟩ := h
  cases rx
  obtain ⟨its, r, ht, hz⟩ := I.list hx
  have hlen := r.length
  refine ⟨"list", _, slot_list_getitem.lookup, ht.isList.typeIs, ?_⟩
  refine wpAny_getItem_list_slice ht.isList hs pl pu .none (by simp) ?_ (by rw [List.size_toArray] <;> omega)
  rw [slicePick_cut, ← hlen]
  refine ⟨.ref s.heap.objs.size, _, I.laid (t' := s.toks) (o := .lst (cutV xs lo hi)) (fun b ob q => Heap.get?_push_of_some _ q) (Nat.le_refl _) ?_, rfl, q _ (I.hok.fresh (Nat.le_refl _))⟩
  exact ⟨Nat.le_trans (cutV_length xs lo hi) hz, _, 0, (r.drop (HT.sIx xs.length 0 lo)).take (HT.sIx xs.length xs.length hi - HT.sIx xs.length 0 lo), Heap.get?_push_size _ rfl⟩

/-! ### in, not in: flat items -/
def flatV : V → Bool
  | .non => true
  | .bl _ => true
  | .int _ => true
  | .str _ => true
  | _ => false
/-- == of flat values -/
def eqV : V → V → Bool
  | .non, .non => true
  | .bl a, .bl b => a == b
  | .bl a, .int b => (if a then 1 else 0) == b
  | .int a, .bl b => a == (if b then 1 else 0)
  | .int a, .int b => a == b
  | .str a, .str b => a == b
  | _, _ => false
theorem eqAt_V {A : Around} {s : Shared} {y x : V} {u v : Value} (ry : RelV y u) (rx : RelV x v) (fy : flatV y = true) (fx : flatV x = true) : SeqAt.EqAt A s u v (eqV y x) := by
  cases y with
  | non =>
    cases ry
    cases x with
    | non => cases rx; exact SeqAt.EqAt.same _
    | bl b => cases rx; exact SeqAt.EqAt.none_bool b
    | int b => obtain ⟨t, rfl⟩ := rx; exact SeqAt.EqAt.none_int b t
    | str b => obtain ⟨t, rfl⟩ := rx; exact SeqAt.EqAt.none_str b t
    | _ => exact absurd (show false = true from fx) Bool.false_ne_true
  | bl a =>
    cases ry
    cases x with
    | non => cases rx; exact SeqAt.EqAt.bool_none a
    | bl b => cases rx; exact SeqAt.EqAt.bool_bool a b
    | int b => obtain ⟨t, rfl⟩ := rx; exact SeqAt.EqAt.bool_int a b t
    | str b => obtain ⟨t, rfl⟩ := rx; exact SeqAt.EqAt.bool_str a b t
    | _ => exact absurd (show false = true from fx) Bool.false_ne_true
  | int a =>
    obtain ⟨t', rfl⟩ := ry
    cases x with
    | non => cases rx; exact SeqAt.EqAt.int_none a t'
    | bl b => cases rx; exact SeqAt.EqAt.int_bool a t' b
    | int b => obtain ⟨t, rfl⟩ := rx; exact SeqAt.EqAt.int_int a t' b t
    | str b => obtain ⟨t, rfl⟩ := rx; exact SeqAt.EqAt.int_str a t' b t
    | _ => exact absurd (show false = true from fx) Bool.false_ne_true
  | str a =>
    obtain ⟨t', rfl⟩ := ry
    cases x with
    | non => cases rx; exact SeqAt.EqAt.str_none a t'
    | bl b => cases rx; exact SeqAt.EqAt.str_bool a t' b
    | int b => obtain ⟨t, rfl⟩ := rx; exact SeqAt.EqAt.str_int a t' b t
    | str b => obtain ⟨t, rfl⟩ := rx; exact SeqAt.EqAt.str_str a t' b t
    | _ => exact absurd (show false = true from fx) Bool.false_ne_true
  | _ => exact absurd (show false = true from fy) Bool.false_ne_true
/-- the items' answers, read off the values (a value's own answer does not lean on its token) -/
def eqU (x : V) (u : Value) : Bool := match u with
  | .none => eqV .non x
  | .bool b => eqV (.bl b) x
  | .int i _ => eqV (.int i) x
  | .str z _ => eqV (.str z) x
  | _ => false
theorem eqU_of {x y : V} {u : Value} (r : RelV y u) (f : flatV y = true) : eqU x u = eqV y x := by
  cases y with
  | non => cases r; rfl
  | bl b => cases r; rfl
  | int i => obtain ⟨t, rfl⟩ := r; rfl
  | str z => obtain ⟨t, rfl⟩ := r; rfl
  | _ => exact absurd (show false = true from f) Bool.false_ne_true
theorem any_eqU {x : V} : ∀ {xs : List V} {us : List Value}, Vals xs us → xs.all flatV = true → us.any (eqU x) = xs.any fun y => eqV y x
  | _, _, .nil, _ => rfl
  | y :: xs, u :: us, .cons r t, f => by
    rw [List.all_cons, Bool.and_eq_true] at f
    rw [List.any_cons, List.any_cons, eqU_of r f.1, any_eqU t f.2]
theorem mem_eqAt {A : Around} {s : Shared} {x : V} {v : Value} (rx : RelV x v) (fx : flatV x = true) : ∀ {xs : List V} {us : List Value}, Vals xs us → xs.all flatV = true → ∀ u ∈ us, SeqAt.EqAt A s u v (eqU x u)
  | _, _, .nil, _ => fun u hu => by cases hu
  | y :: xs, u :: us, .cons r t, f => fun u' hu => by
    rw [List.all_cons, Bool.and_eq_true] at f
    rcases List.mem_cons.mp hu with rfl | hu
    · rw [eqU_of r f.1]; exact eqAt_V r rx f.1 fx
    · exact mem_eqAt rx fx t f.2 u' hu
def inV (x : V) (xs : List V) : Bool := xs.any fun y => eqV y x
/-- x in a list or tuple of flat items -/
def rIn (K : PySem.W.Frag) (neg : Bool) : R2 := fun x y H Q => ∃ p xs, y = .ref p ∧ (SqL K H p xs ∨ SqT K H p xs) ∧ flatV x = true ∧ xs.all flatV = true ∧ Q (.bl (if neg then !inV x xs else inV x xs)) H
theorem op_in_seq : OpR X (compareOp .In) (rIn X.K false) := by
  intro pins s σ H x y v u Q I rx ry h
  obtain ⟨p, xs, rfl, hq, fx, fs, q⟩ := h
  cases ry
  rcases hq with hq | hq
  · obtain ⟨its, r, pl, hz⟩ := I.list hq
    refine SeqAt.in_listAt (eqU x) pl.isList (fun w hw => mem_eqAt rx fx r fs w (by simpa using hw)) ⟨.bl _, H, I, rfl, ?_⟩
    rw [show its.toArray.any (eqU x) = its.any (eqU x) by simp, any_eqU r fs]
    exact q
  · obtain ⟨its, r, pl, hz⟩ := I.tuple hq
    refine SeqAt.in_tupleAt (eqU x) pl (fun w hw => mem_eqAt rx fx r fs w (by simpa using hw)) ⟨.bl _, H, I, rfl, ?_⟩
    rw [show its.toArray.any (eqU x) = its.any (eqU x) by simp, any_eqU r fs]
    exact q
theorem op_notIn_seq : OpR X (compareOp .NotIn) (rIn X.K true) := by
  intro pins s σ H x y v u Q I rx ry h
  obtain ⟨p, xs, rfl, hq, fx, fs, q⟩ := h
  cases ry
  rcases hq with hq | hq
  · obtain ⟨its, r, pl, hz⟩ := I.list hq
    refine SeqAt.notIn_listAt (eqU x) pl.isList (fun w hw => mem_eqAt rx fx r fs w (by simpa using hw)) ⟨.bl _, H, I, rfl, ?_⟩
    rw [show its.toArray.any (eqU x) = its.any (eqU x) by simp, any_eqU r fs]
    exact q
  · obtain ⟨its, r, pl, hz⟩ := I.tuple hq
    refine SeqAt.notIn_tupleAt (eqU x) pl (fun w hw => mem_eqAt rx fx r fs w (by simpa using hw)) ⟨.bl _, H, I, rfl, ?_⟩
    rw [show its.toArray.any (eqU x) = its.any (eqU x) by simp, any_eqU r fs]
    exact q
theorem op_notIn_str : OpR X (compareOp .NotIn) (fun x y H Q => ∃ i j, x = .str i ∧ y = .str j ∧ Q (.bl (!(!(Builtin.Str.occurrences j i 0 j.length 1).isEmpty))) H) := by
  intro pins s σ H x y v u Q I rx ry h
  obtain ⟨i, j, rfl, rfl, q⟩ := h
  obtain ⟨t, rfl⟩ := rx
  obtain ⟨t', rfl⟩ := ry
  exact notIn_str ⟨.bl _, H, I, rfl, q⟩

/-! ### len, list(x), tuple(x) of any list or tuple that is read -/
theorem call_len_seq : CallR X (.builtin "len") (fun xs H Q => ∃ p ys, xs = [.ref p] ∧ (SqL X.K H p ys ∨ SqT X.K H p ys) ∧ Q (.int ys.length) H) := by
  intro pins s σ H xs us Q I r h
  obtain ⟨p, ys, rfl, hq, q⟩ := h
  obtain ⟨u, rfl, rx⟩ := vals1 r
  cases rx
  have hn := line63
  rcases hq with hq | hq
  · obtain ⟨its, r', pl, hz⟩ := I.list hq
    have hlen := r'.length
    exact Calls.call_len_list pl.isList (by simp only [List.size_toArray] <;> omega) ⟨.int ys.length, H, I.tok _, ⟨s.toks + 1, by rw [List.size_toArray, hlen]⟩, q⟩
  · obtain ⟨its, r', pl, hz⟩ := I.tuple hq
    have hlen := r'.length
    exact len_tuple pl (by simp only [List.size_toArray] <;> omega) ⟨.int ys.length, H, I.tok _, ⟨s.toks + 1, by rw [List.size_toArray, hlen]⟩, q⟩
theorem call_len_str : CallR X (.builtin "len") (fun xs H Q => ∃ z, xs = [.str z] ∧ z.length ≤ sizeLine ∧ Q (.int z.length) H) := by
  intro pins s σ H xs us Q I r h
  obtain ⟨z, rfl, hz, q⟩ := h
  obtain ⟨u, rfl, t, rfl⟩ := vals1 r
  have hn := line63
  exact len_str (by omega) ⟨.int z.length, H, I.tok _, ⟨_, rfl⟩, q⟩
theorem CallR.or {f : Value} {r r' : List V → Hp → VK → Prop} (h : CallR X f r) (h' : CallR X f r') : CallR X f (fun xs H Q => r xs H Q ∨ r' xs H Q) := by
  intro pins s σ H xs us Q I rs q
  rcases q with q | q
  · exact h pins s σ H xs us Q I rs q
  · exact h' pins s σ H xs us Q I rs q
theorem call_list_of : CallR X (.type "list") (fun xs H Q => ∃ p ys, xs = [.ref p] ∧ (SqL X.K H p ys ∨ SqT X.K H p ys) ∧ ∀ l, H l = none → Q (.ref l) (upd H l (.lst ys))) := by
  intro pins s σ H xs us Q I r h
  obtain ⟨p, ys, rfl, hq, q⟩ := h
  obtain ⟨u, rfl, rx⟩ := vals1 r
  cases rx
  have fin : ∀ (its : List Value), Vals ys its → ys.length ≤ sizeLine → ∀ (h' : Heap) (c' : Nat), (∀ b o', s.heap.get? b = some o' → h'.get? b = some o') →
      h'.get? s.heap.objs.size = some { cls := .type "list", dict := none, data := .seq its.toArray c', slots := #[] } → EP X pins σ Q (.ref s.heap.objs.size) { s with heap := h' } := fun its r' hz h' c' kp e =>
    ⟨.ref s.heap.objs.size, _, I.laid (t' := s.toks) kp (Nat.le_refl _) (show ObjOk X.prog X.w _ h' _ (.lst ys) from ⟨hz, its, c', r', e⟩), rfl, q _ (I.hok.fresh (Nat.le_refl _))⟩
  rcases hq with hq | hq
  · obtain ⟨its, r', pl, hz⟩ := I.list hq
    have hlen := r'.length
    obtain ⟨o, ho, hc, n, hd⟩ := pl.isList
    exact call_list_seq p (.inl rfl) ho hc hd (fun h' c' kp e => fin its r' hz h' c' kp e) (by simp only [List.size_toArray] <;> omega)
  · obtain ⟨its, r', pl, hz⟩ := I.tuple hq
    have hlen := r'.length
    obtain ⟨o, ho, hc, n, hd⟩ := pl
    exact call_list_seq p (.inr rfl) ho hc hd (fun h' c' kp e => fin its r' hz h' c' kp e) (by simp only [List.size_toArray] <;> omega)
theorem call_tuple_of : CallR X (.type "tuple") (fun xs H Q => ∃ p ys, xs = [.ref p] ∧ ((SqL X.K H p ys ∧ ∀ l, H l = none → Q (.ref l) (upd H l (.tup ys))) ∨ (SqT X.K H p ys ∧ Q (.ref p) H))) := by
  intro pins s σ H xs us Q I r h
  obtain ⟨p, ys, rfl, h⟩ := h
  obtain ⟨u, rfl, rx⟩ := vals1 r
  cases rx
  rcases h with ⟨hq, q⟩ | ⟨hq, q⟩
  · obtain ⟨its, r', pl, hz⟩ := I.list hq
    have hlen := r'.length
    refine call_tuple_list pl.isList (fun h' kp => ?_) (by simp only [List.size_toArray] <;> omega)
    have I1 : Inv X pins σ H { s with heap := h' } := I.kept (t' := s.toks) kp
    have I2 : Inv X pins σ (upd H h'.objs.size (.tup ys)) { s with heap := h'.push { cls := .type "tuple", data := .seq its.toArray } } :=
      I1.laid (t' := s.toks) (fun b o e => Heap.get?_push_of_some _ e) (Nat.le_refl _) (show ObjOk X.prog X.w _ _ _ (.tup ys) from ⟨hz, its, r', IsTup.new _ _⟩)
    exact ⟨.ref h'.objs.size, _, I2, rfl, q _ (I1.hok.fresh (Nat.le_refl _))⟩
  · obtain ⟨its, r', pl, hz⟩ := I.tuple hq
    exact call_tuple_same pl ⟨.ref p, H, I, rfl, q⟩

/-! ### the call of a builtin's method: o.m(..) -/
/-- the value is of that builtin type -/
def tyV (K : PySem.W.Frag) (T : String) (x : V) (H : Hp) : Prop := match x with
  | .str _ => T = "str"
  | .int _ => T = "int"
  | .ref p => (T = "list" ∧ ∃ xs, SqL K H p xs) ∨ (T = "tuple" ∧ ∃ o, K.lookup p = some o ∧ o.cls = .type "tuple" ∧ o.dict = none) ∨
      (T = "dict" ∧ ((∃ kvs, H p = some (.dK kvs)) ∨ ∃ kvs, H p = some (.dT kvs))) ∨ (T = "set" ∧ ∃ S n, H p = some (.set S n))
  | _ => False
theorem tyV_is {pins : List (Addr × Obj)} {σ : St} {H : Hp} {s : Shared} {T : String} {x : V} {v : Value} (I : Inv X pins σ H s) (r : RelV x v) (ty : tyV X.K T x H) :
    s.TypeIs v T ∧ ∀ a, v = .ref a → ∃ ob, s.heap.get? a = some ob ∧ ob.dict = none := by
  cases x with
  | str z =>
    obtain ⟨t, rfl⟩ := r
    cases (show T = "str" from ty)
    exact ⟨typeIs_str s z t, fun _ e => nomatch e⟩
  | int i =>
    obtain ⟨t, rfl⟩ := r
    cases (show T = "int" from ty)
    exact ⟨typeIs_int s i t, fun _ e => nomatch e⟩
  | ref p =>
    cases r
    rcases ty with ⟨rfl, xs, hq⟩ | ⟨rfl, o, hk, hc, hd⟩ | ⟨rfl, hk⟩ | ⟨rfl, S, n, hk⟩
    · obtain ⟨its, _, pl, _⟩ := I.list hq
      refine ⟨pl.isList.typeIs, fun a e => ?_⟩
      cases e
      obtain ⟨o, n, e, c, hd, _⟩ := pl
      exact ⟨o, e, hd⟩
    · refine ⟨⟨o, I.kIn p o hk, hc⟩, fun a e => ?_⟩
      cases e
      exact ⟨o, I.kIn _ o hk, hd⟩
    · have z : ∃ o, s.heap.get? p = some o ∧ o.ExactDict := by
        rcases hk with ⟨kvs, hk⟩ | ⟨kvs, hk⟩
        · obtain ⟨_, _, _, _, o, _, _, e, ex, _⟩ := I.hok p _ hk
          exact ⟨o, e, ex⟩
        · obtain ⟨_, _, _, _, o, _, _, e, ex, _⟩ := I.hok p _ hk
          exact ⟨o, e, ex⟩
      obtain ⟨o, e, ex⟩ := z
      refine ⟨⟨o, e, ex.1⟩, fun a e2 => ?_⟩
      cases e2
      exact ⟨o, e, ex.2.1⟩
    · obtain ⟨o, _, _, _, e, ex, _⟩ := I.hok p _ hk
      refine ⟨⟨o, e, ex.1⟩, fun a e2 => ?_⟩
      cases e2
      exact ⟨o, e, ex.2.1⟩
  | _ => exact False.elim ty
def tBM0 (K : PySem.W.Frag) (T : String) (r : V → List V → Hp → VK → Prop) (to : TE) : TE := fun σ H Q => to σ H fun x H1 => tyV K T x H1 ∧ r x [] H1 Q
def tBM (K : PySem.W.Frag) (T : String) (r : V → List V → Hp → VK → Prop) (to : TE) (t : TA) : TE := fun σ H Q => to σ H fun x H1 => tyV K T x H1 ∧ t σ H1 fun xs H2 => r x xs H2 Q
variable {o e : Expr} {es : List Expr} {to : TE} {t : TA} {name : Str} {apos cpos : Pos} {T id : String} {r : V → List V → Hp → VK → Prop}
theorem pe_bm0 (pa : PlainAttrs T) (slot : Slot T name id) (hty : typeOf (.builtin id) = pure (.type "method_descriptor")) (hm : MtR X id r) (ho : PE X o to)
    (hbase : attributeBase o name X.env (eval o X.env) = eval o X.env := by rfl) (hline : (apos.endLine == cpos.line) = true := by rfl) : PE X (.Call (.Attribute o name apos) [] [] cpos) (tBM0 X.K T r to) := by
  intro pins s σ H Q I h
  refine wpAny_Call_method0_late hbase hline (thn (ho pins s σ H _ I h) fun v s1 ⟨x, H1, I1, r1, ty, q1⟩ => ?_)
  obtain ⟨h1, h2⟩ := tyV_is I1 r1 ty
  exact ⟨T, id, pa, slot, hty, h1, h2, Calls.callWith_builtin rfl (PySem.evalArgs_none (hm pins s1 σ H1 x [] v [] Q I1 r1 .nil q1))⟩
theorem pe_bm (pa : PlainAttrs T) (slot : Slot T name id) (hty : typeOf (.builtin id) = pure (.type "method_descriptor")) (hm : MtR X id r) (ho : PE X o to) (ha : PA X (e :: es) t)
    (hbase : attributeBase o name X.env (eval o X.env) = eval o X.env := by rfl)
    (hfew : ((backTo cpos (starEach (e :: es) X.env)).all (fun x => !x.1) && (backToKw cpos (keywordEach [] X.env)).all (fun x => x.1.isSome)
      && decide ((e :: es).length + ([] : List Keyword).length + (if ([] : List Keyword).isEmpty then 0 else 1) < 30)) = true := by rfl)
    (hline : (apos.endLine == cpos.line) = true := by rfl) (hs : starEach (e :: es) X.env = (false, eval e X.env) :: starEach es X.env := by rfl) (hplain : (backTo cpos (starEach es X.env)).any (·.1) = false := by rfl) :
    PE X (.Call (.Attribute o name apos) (e :: es) [] cpos) (tBM X.K T r to t) := by
  intro pins s σ H Q I h
  refine wpAny_Call_method_late hbase hfew hline rfl (thn (ho pins s σ H _ I h) fun v s1 ⟨x, H1, I1, r1, ty, q1⟩ => ?_)
  obtain ⟨h1, h2⟩ := tyV_is I1 r1 ty
  refine ⟨T, id, pa, slot, hty, h1, h2, ?_⟩
  have hA := ha cpos pins s1 σ H1 _ I1 q1
  rw [hs] at hA ⊢
  refine Calls.callWith_builtin (by show (false || (backTo cpos (starEach es X.env)).any (·.1)) = false; rw [hplain] <;> rfl) (Calls.evalArgs_plain ?_)
  exact thn hA fun us s2 ⟨vs, H2, I2, r2, q2⟩ => hm pins s2 σ H2 x vs v us Q I2 r1 r2 q2
/- xs.append(e), list.index on a module's tuple .. are MtR facts of 06m -/
end
end L2

namespace L2
open PySem PySem.Spec PyProof.Rows

def MtM (X : Cx) (id : String) (r : V → List V → Hp → VK → Prop) : Prop :=
  ∀ (pins : List (Addr × Obj)) (s : Shared) (σ : St) (H : Hp) (x : V) (xs : List V) (v : Value) (us : List Value) (Q : VK), Inv X pins σ H s → RelV x v → Vals xs us → r x xs H Q →
    wpAny (model X.prog X.w) X.A (call (.builtin id) (v :: us)) (EP X pins σ Q) X.xe s

/-! ### lists of values -/
theorem Vals.one : ∀ {x : V} {us : List Value}, Vals [x] us → ∃ u, us = [u] ∧ RelV x u
  | _, _, .cons r .nil => ⟨_, rfl, r⟩
theorem Vals.two : ∀ {x y : V} {us : List Value}, Vals [x, y] us → ∃ u v, us = [u, v] ∧ RelV x u ∧ RelV y v
  | _, _, _, .cons r (.cons q .nil) => ⟨_, _, rfl, r, q⟩
theorem Vals.zero : ∀ {us : List Value}, Vals [] us → us = []
  | _, .nil => rfl
theorem Vals.dropLast {xs : List V} {us : List Value} (h : Vals xs us) : Vals xs.dropLast us.dropLast := by
  induction h with
  | nil => exact .nil
  | cons r t ih =>
    cases t with
    | nil => exact .nil
    | cons q t' => exact .cons r ih
theorem Vals.eraseIdx : ∀ {xs : List V} {us : List Value} (i : Nat), Vals xs us → Vals (xs.eraseIdx i) (us.eraseIdx i)
  | _, _, _, .nil => .nil
  | _, _, 0, .cons _ t => t
  | _, _, i + 1, .cons r t => .cons r (Vals.eraseIdx i t)
theorem Vals.reverse {xs : List V} {us : List Value} (h : Vals xs us) : Vals xs.reverse us.reverse := by
  induction h with
  | nil => exact .nil
  | cons r t ih => rw [List.reverse_cons, List.reverse_cons]; exact Vals.append ih (.cons r .nil)
theorem Vals.rep {xs : List V} {us : List Value} (h : Vals xs us) : ∀ k : Nat, Vals (List.replicate k xs).flatten (List.replicate k us).flatten
  | 0 => .nil
  | k + 1 => by
    rw [List.replicate_succ, List.replicate_succ, List.flatten_cons, List.flatten_cons]
    exact Vals.append h (Vals.rep h k)
theorem erase_last {α : Type} (l : List α) : l.eraseIdx (l.length - 1) = l.dropLast := by
  induction l with
  | nil => rfl
  | cons a r ih =>
    cases r with
    | nil => rfl
    | cons b r =>
      have e : (a :: b :: r).length - 1 = ((b :: r).length - 1) + 1 := by
        have h1 : (a :: b :: r).length = r.length + 2 := rfl
        have h2 : (b :: r).length = r.length + 1 := rfl
        omega
      rw [e, List.eraseIdx_cons_succ, ih]
      all_goals rfl
theorem len_erase {α : Type} : ∀ (l : List α) (i : Nat), (l.eraseIdx i).length ≤ l.length
  | [], _ => Nat.le_refl _
  | _ :: _, 0 => Nat.le_succ _
  | _ :: r, i + 1 => Nat.succ_le_succ (len_erase r i)
theorem foldl_rep (its : List Value) : ∀ (k : Nat) (acc : List Value),
    List.foldl (fun x1 x2 => x1 ++ x2) acc.toArray (List.replicate k its.toArray) = (acc ++ (List.replicate k its).flatten).toArray
  | 0, acc => by simp
  | k + 1, acc => by
    have e : acc.toArray ++ its.toArray = (acc ++ its).toArray := by simp
    have e2 : (acc ++ its) ++ (List.replicate k its).flatten = acc ++ (List.replicate (k + 1) its).flatten := by
      rw [List.replicate_succ, List.flatten_cons, List.append_assoc]
    rw [← e2, ← foldl_rep its k (acc ++ its), ← e, List.replicate_succ, List.foldl_cons]

section
variable {X : Cx} {pins : List (Addr × Obj)} {σ : St} {H : Hp} {s : Shared} {l b : Addr} {xs ys zs : List V}

/-! ### the two steps: a tracked list is rewritten, a new list is laid -/
theorem Inv.lset {its its' : List Value} {n : Nat} {f : Array Value → Array Value} {t' : Nat} (I : Inv X pins σ H s) (hH : H l = some (.lst xs))
    (e : s.heap.get? l = some { cls := .type "list", data := .seq its.toArray n }) (hf : f its.toArray = its'.toArray) (hv : Vals ys its') (hz : ys.length ≤ sizeLine) :
    Inv X pins σ (upd H l (.lst ys)) { s with heap := s.heap.update l (Obj.mapSeq f), toks := t' } := by
  have q := PySem.IsL.update e f
  rw [hf] at q
  refine I.write (x := l) (e := l) (by rw [hH]; exact trivial) (.inl rfl) (fun b' u hb hu => (Heap.get?_update_other s.heap (Obj.mapSeq f) (Ne.symm hb)).trans hu) ⟨_, q⟩ ?_
  exact ⟨hz, its', _, hv, q⟩
theorem Inv.lnew {its : List Value} {t' : Nat} (I : Inv X pins σ H s) (hv : Vals ys its) (hz : ys.length ≤ sizeLine) :
    Inv X pins σ (upd H s.heap.objs.size (.lst ys)) { s with heap := s.heap.push { cls := .type "list", data := .seq its.toArray }, toks := t' } :=
  I.laid (fun _ _ q => Heap.get?_push_of_some _ q) (Nat.le_refl _) ⟨hz, its, 0, hv, Heap.get?_push_size _ rfl⟩
theorem Inv.fresh (I : Inv X pins σ H s) : H s.heap.objs.size = none := I.hok.fresh (Nat.le_refl _)
theorem Inv.lstM (I : Inv X pins σ H s) (hH : H l = some (.lst xs)) : xs.length ≤ sizeLine ∧ ∃ (its : List Value) (n : Nat), Vals xs its ∧ xs.length = its.length ∧ s.heap.get? l = some { cls := .type "list", data := .seq its.toArray n } := by
  obtain ⟨z, its, n, r, e⟩ := I.hok l _ hH
  exact ⟨z, its, n, r, r.length, e⟩

theorem notLongL {n : Nat} (h : n ≤ sizeLine) : Builtin.List.listTooLong n = false := by
  unfold Builtin.List.listTooLong
  exact decide_eq_false (by omega)
end

section
variable {X : Cx}

/-! ### methods -/
def rAppend : V → List V → Hp → VK → Prop := fun x vs H Q => ∃ l xs y, x = .ref l ∧ vs = [y] ∧ H l = some (.lst xs) ∧ xs.length < sizeLine ∧ Q .non (upd H l (.lst (xs ++ [y])))
theorem mt_append : MtM X "list.append" rAppend := by
  intro pins s σ H x vs v us Q I rx rv h
  obtain ⟨l, xs, y, rfl, rfl, hH, hz, q⟩ := h
  cases rx
  obtain ⟨u, rfl, ru⟩ := rv.one
  obtain ⟨z, its, n, r, hl, e⟩ := I.lstM hH
  refine call_meets F.slot_list_append ⟨_, e, rfl⟩ F.entry_list_append (F.args_list_append_2 _ _) (PySem.list_append l its.toArray n u (by rw [List.size_toArray]; omega)) ⟨e, ?_⟩
  refine ⟨.non, _, I.lset (its' := its ++ [u]) hH e (by simp) (r.append (.cons ru .nil)) ?_, rfl, q⟩
  rw [List.length_append, List.length_singleton]
  omega

def rExtend : V → List V → Hp → VK → Prop := fun x vs H Q => ∃ l b xs zs, x = .ref l ∧ vs = [.ref b] ∧ H l = some (.lst xs) ∧ H b = some (.lst zs) ∧ xs.length + zs.length ≤ sizeLine ∧ Q .non (upd H l (.lst (xs ++ zs)))
theorem mt_extend : MtM X "list.extend" rExtend := by
  intro pins s σ H x vs v us Q I rx rv h
  obtain ⟨l, b, xs, zs, rfl, rfl, hH, hB, hz, q⟩ := h
  cases rx
  obtain ⟨u, rfl, ru⟩ := rv.one
  cases ru
  obtain ⟨z, its, n, r, hl, e⟩ := I.lstM hH
  obtain ⟨z2, its2, n2, r2, hl2, e2⟩ := I.lstM hB
  have hsz : its.toArray.size + its2.toArray.size ≤ sizeLine := by rw [List.size_toArray, List.size_toArray]; omega
  have hlong : ¬ (!its.toArray.isEmpty && Builtin.List.listTooLong (its.toArray.size + its2.toArray.size)) = true := by
    rw [notLongL hsz, Bool.and_false]
    exact Bool.false_ne_true
  refine call_meets F.slot_list_extend ⟨_, e, rfl⟩ F.entry_list_extend (F.args_list_extend_2 _ _)
    (AutoSeq1.list_extend_list_list_0 l its.toArray n b its2.toArray n2 hlong (by rw [List.size_toArray]; omega) (by omega)) ⟨e, e2, ?_⟩
  refine ⟨.non, _, I.lset (its' := its ++ its2) hH e (by simp) (r.append r2) ?_, rfl, q⟩
  rw [List.length_append]
  omega

def rPop : V → List V → Hp → VK → Prop := fun x vs H Q => ∃ l xs y, x = .ref l ∧ vs = [] ∧ H l = some (.lst xs) ∧ xs[xs.length - 1]? = some y ∧ Q y (upd H l (.lst xs.dropLast))
theorem mt_pop : MtM X "list.pop" rPop := by
  intro pins s σ H x vs v us Q I rx rv h
  obtain ⟨l, xs, y, rfl, rfl, hH, hy, q⟩ := h
  cases rx
  have hus := rv.zero
  subst hus
  obtain ⟨z, its, n, r, hl, e⟩ := I.lstM hH
  obtain ⟨u, hu, ru⟩ := r.get hy
  have hy' : its.toArray[its.toArray.size - 1]? = some u := by
    show its.toArray[its.length - 1]? = some u
    rw [← Array.getElem?_toList, ← hl]
    exact hu
  refine call_meets F.slot_list_pop ⟨_, e, rfl⟩ F.entry_list_pop (F.args_list_pop_1 _) (MeetsSeq.list_pop_last l its.toArray n u hy' (by rw [List.size_toArray]; omega)) ⟨e, ?_⟩
  refine ⟨y, _, I.lset (its' := its.dropLast) hH e ?_ r.dropLast ?_, ru, q⟩
  · show its.toArray.eraseIdxIfInBounds (its.toArray.size - 1) = its.dropLast.toArray
    rw [List.size_toArray, List.eraseIdxIfInBounds_toArray, erase_last]
  · rw [List.length_dropLast]
    omega

def rPopAt : V → List V → Hp → VK → Prop := fun x vs H Q => ∃ l xs i k y, x = .ref l ∧ vs = [.int i] ∧ H l = some (.lst xs) ∧ -(2 ^ 63) ≤ i ∧ i < 2 ^ 63 ∧ seqIndex? i xs.length = some k ∧ xs[k]? = some y ∧ Q y (upd H l (.lst (xs.eraseIdx k)))
theorem mt_popAt : MtM X "list.pop" rPopAt := by
  intro pins s σ H x vs v us Q I rx rv h
  obtain ⟨l, xs, i, k, y, rfl, rfl, hH, h1, h2, hk, hy, q⟩ := h
  cases rx
  obtain ⟨u, rfl, ru⟩ := rv.one
  obtain ⟨t, rfl⟩ := ru
  obtain ⟨z, its, n, r, hl, e⟩ := I.lstM hH
  obtain ⟨w, hw, rw'⟩ := r.get hy
  refine call_meets F.slot_list_pop ⟨_, e, rfl⟩ F.entry_list_pop (F.args_list_pop_2 _ _)
    (MeetsSeq.list_pop_at l its.toArray n i t k w (fitsIndex_both h1 h2) (by rw [List.size_toArray, ← hl]; exact hk) (by rw [← Array.getElem?_toList]; exact hw) (by rw [List.size_toArray]; omega)) ⟨e, ?_⟩
  refine ⟨y, _, I.lset (its' := its.eraseIdx k) hH e ?_ (r.eraseIdx k) ?_, rw', q⟩
  · show its.toArray.eraseIdxIfInBounds k = (its.eraseIdx k).toArray
    rw [List.eraseIdxIfInBounds_toArray]
  · have := len_erase xs k
    omega

def rReverse : V → List V → Hp → VK → Prop := fun x vs H Q => ∃ l xs, x = .ref l ∧ vs = [] ∧ H l = some (.lst xs) ∧ Q .non (upd H l (.lst xs.reverse))
theorem mt_reverse : MtM X "list.reverse" rReverse := by
  intro pins s σ H x vs v us Q I rx rv h
  obtain ⟨l, xs, rfl, rfl, hH, q⟩ := h
  cases rx
  have hus := rv.zero
  subst hus
  obtain ⟨z, its, n, r, hl, e⟩ := I.lstM hH
  refine call_meets F.slot_list_reverse ⟨_, e, rfl⟩ F.entry_list_reverse (F.args_list_reverse_1 _) (AutoSeq1.list_reverse_list_0 l its.toArray n (by rw [List.size_toArray]; omega)) ⟨e, ?_⟩
  refine ⟨.non, _, I.lset (its' := its.reverse) hH e (by simp) r.reverse ?_, rfl, q⟩
  rw [List.length_reverse]
  omega

def rClear : V → List V → Hp → VK → Prop := fun x vs H Q => ∃ l xs, x = .ref l ∧ vs = [] ∧ H l = some (.lst xs) ∧ Q .non (upd H l (.lst []))
theorem mt_clear : MtM X "list.clear" rClear := by
  intro pins s σ H x vs v us Q I rx rv h
  obtain ⟨l, xs, rfl, rfl, hH, q⟩ := h
  cases rx
  have hus := rv.zero
  subst hus
  obtain ⟨z, its, n, r, hl, e⟩ := I.lstM hH
  refine call_meets F.slot_list_clear ⟨_, e, rfl⟩ F.entry_list_clear (F.args_list_clear_1 _) (AutoSeq1.list_clear_list_0 l its.toArray n (by rw [List.size_toArray]; omega)) ⟨e, ?_⟩
  exact ⟨.non, _, I.lset (its' := []) (ys := []) hH e rfl .nil (Nat.zero_le _), rfl, q⟩

/-! ### list + list, list += list, list * int -/
def rCat : R2 := fun x y H Q => ∃ l b xs zs, x = .ref l ∧ y = .ref b ∧ H l = some (.lst xs) ∧ H b = some (.lst zs) ∧ xs.length + zs.length ≤ sizeLine ∧ ∀ p, H p = none → Q (.ref p) (upd H p (.lst (xs ++ zs)))
theorem op_cat : OpR X (binaryOp .Add) rCat := by
  intro pins s σ H x y v u Q I rx ry h
  obtain ⟨l, b, xs, zs, rfl, rfl, hH, hB, hz, q⟩ := h
  cases rx
  cases ry
  obtain ⟨z, its, n, r, hl, e⟩ := I.lstM hH
  obtain ⟨z2, its2, n2, r2, hl2, e2⟩ := I.lstM hB
  refine PySem.P.add_list e e2 ?_ (by rw [List.size_toArray, List.size_toArray]; omega)
  have ea : its.toArray ++ its2.toArray = (its ++ its2).toArray := by simp
  rw [ea]
  exact ⟨.ref _, _, I.lnew (t' := s.toks) (r.append r2) (by rw [List.length_append]; omega), rfl, q _ I.fresh⟩
/-- a list times an int (a negative one is nothing) -/
def rRep : R2 := fun x y H Q => ∃ l k xs, x = .ref l ∧ y = .int k ∧ H l = some (.lst xs) ∧ -(2 ^ 63) ≤ k ∧ k < 2 ^ 63 ∧ xs.length * k.toNat ≤ sizeLine ∧
  ∀ p, H p = none → Q (.ref p) (upd H p (.lst (List.replicate k.toNat xs).flatten))
theorem len_rep {α : Type} (xs : List α) (k : Nat) : (List.replicate k xs).flatten.length = k * xs.length := by
  induction k with
  | zero => simp
  | succ k ih => rw [List.replicate_succ, List.flatten_cons, List.length_append, ih, Nat.succ_mul, Nat.add_comm]
theorem op_rep : OpR X (binaryOp .Mult) rRep := by
  intro pins s σ H x y v u Q I rx ry h
  obtain ⟨l, k, xs, rfl, rfl, hH, h1, h2, hz, q⟩ := h
  cases rx
  obtain ⟨t, rfl⟩ := ry
  obtain ⟨z, its, n, r, hl, e⟩ := I.lstM hH
  have hlen : its.toArray.size * k.toNat ≤ sizeLine := by rw [List.size_toArray, ← hl]; exact hz
  have hcap : ¬ its.toArray.size * k.toNat > (2 ^ 63 - 1) / 8 := by
    have : (sizeLine : Nat) ≤ (2 ^ 63 - 1) / 8 := by decide
    omega
  have hfit : ¬ (!Builtin.List.listFitsIndex k) = true := by
    rw [fitsIndex_both h1 h2]
    exact Bool.false_ne_true
  have hlong : ¬ Builtin.List.listTooLong (its.toArray.size * k.toNat) = true := by
    rw [notLongL hlen]
    exact Bool.false_ne_true
  have hnew : List.foldl (fun x1 x2 => x1 ++ x2) #[] (List.replicate (if its.toArray.isEmpty = true then 0 else k.toNat) its.toArray) = (List.replicate k.toNat its).flatten.toArray := by
    have f0 : ∀ m : Nat, List.foldl (fun x1 x2 => x1 ++ x2) #[] (List.replicate m its.toArray) = (List.replicate m its).flatten.toArray := fun m => by
      have := foldl_rep its m []
      rw [List.nil_append] at this
      exact this
    rw [f0]
    cases its with
    | nil => simp
    | cons a r' => rw [if_neg (by simp)]
  refine wpAny_binaryOp_repeat_ref (T := "list") (U := "int") (by decide) ⟨_, e, rfl⟩ (fun s' => typeIs_int s' k t) noFill_list_mul F.fills_int_mul F.slot_int_rmul repeat_list F.slot_int_index.lookup
    (call_meets F.slot_int_rmul (typeIs_int s k t) F.entry_int_rmul (F.args_int_rmul_2 _ _) (int___rmul___int_list k t l its.toArray n)
      ⟨e, rfl, ⟨_, e, rfl⟩, call_meets F.slot_list_mul ⟨_, e, rfl⟩ F.entry_list_mul (F.args_list_mul_2 _ _) (AutoListH.list___mul___list_int_3 l its.toArray n k t hfit hcap hlong) ⟨e, ?_⟩⟩)
  rw [hnew]
  exact ⟨.ref _, _, I.lnew (t' := s.toks) (r.rep k.toNat) (by rw [len_rep, Nat.mul_comm]; exact hz), rfl, q _ I.fresh⟩

/-! ### del xs[i] -/
theorem del_list {pins : List (Addr × Obj)} {s : Shared} {σ : St} {H : Hp} {l : Addr} {xs : List V} {i : Int} {t : Tok} {k : Nat} {Q : Unit → Shared → Prop} (I : Inv X pins σ H s) (hH : H l = some (.lst xs))
    (h1 : -(2 ^ 63) ≤ i) (h2 : i < 2 ^ 63) (hk : seqIndex? i xs.length = some k) (h : ∀ s', Inv X pins σ (upd H l (.lst (xs.eraseIdx k))) s' → Q () s') :
    wpAny (model X.prog X.w) X.A (delItem (.ref l) (.int i t)) Q X.xe s := by
  obtain ⟨z, its, n, r, hl, e⟩ := I.lstM hH
  refine PySem.P.delItem_list (k := k) e (fitsIndex_both h1 h2) (by rw [List.size_toArray, ← hl]; exact hk) (h _ ?_) (by rw [List.size_toArray]; omega)
  refine I.lset (its' := its.eraseIdx k) (t' := s.toks) hH e ?_ (r.eraseIdx k) ?_
  · show its.toArray.eraseIdxIfInBounds k = (its.eraseIdx k).toArray
    rw [List.eraseIdxIfInBounds_toArray]
  · have := len_erase xs k
    omega
end

/-! ### xs[a:b] = ys -/
section
variable {prog : Program} {w : World} {A : Around} {E : Value → Shared → Prop} {s : Shared}
theorem splice_eq (its its2 : List Value) (a c : Nat) : its.toArray.extract 0 a ++ its2.toArray ++ its.toArray.extract c its.toArray.size = (its.take a ++ its2 ++ its.drop c).toArray := by
  apply Array.toList_inj.mp
  first
    | (simp
       exact List.take_of_length_le (by simp))
    | simp [List.take_of_length_le]
    | simp
theorem bounds_run {a c n : Nat} (hac : a ≤ c) (hc : c ≤ n) : sliceBounds (some (a : Int)) (some (c : Int)) none n = ((a : Int), (c : Int), 1) := by
  simp only [sliceBounds, Option.getD_none]
  have h1 : ¬ ((a : Int) < 0) := by omega
  have h2 : ¬ ((c : Int) < 0) := by omega
  simp only [h1, h2, if_false, show (1 : Int) > 0 by decide, if_true]
  congr 1
  · omega
  · congr 1; omega
set_option maxRecDepth 100000 in
/-- list.__setitem__ with a slice of step one and another list -/
theorem setItem_slice {l b sl : Addr} {items new : Array Value} {n n2 : Nat} {vl vu : Value} {a c : Nat} {Q : Unit → Shared → Prop}
    (e : s.heap.get? l = some { cls := .type "list", data := .seq items n }) (e2 : s.heap.get? b = some { cls := .type "list", data := .seq new n2 }) (hne : l ≠ b)
    (hs : s.heap.IsSliceOf sl vl vu .none) (pl : IsPart vl (some (a : Int))) (pu : IsPart vu (some (c : Int))) (hac : a ≤ c) (hc : c ≤ items.size)
    (hsz : items.size + new.size ≤ sizeLine) (h : Q () { s with heap := s.heap.update l (Obj.mapSeq fun xs => xs.extract 0 a ++ new ++ xs.extract c xs.size) }) :
    wpAny (model prog w) A (setItem (.ref l) (.ref sl) (.ref b)) Q E s := by
  have hl : s.heap.IsList l items := PySem.IsL.isList e
  have hb : s.heap.IsList b new := PySem.IsL.isList e2
  obtain ⟨os, hos, hcs, hds⟩ := id hs
  have hTs : s.TypeIs (.ref sl) "slice" := ⟨os, hos, hcs⟩
  have hstep : ¬ ((rawPart none == rawInt 0) = true) := Bool.false_ne_true
  have hsame : Builtin.List.listSameRef (.ref l) (.ref b) = false := by
    unfold Builtin.List.listSameRef
    exact beq_eq_false_iff_ne.mpr hne
  have hmax : (max (a : Int) (c : Int)).toNat = c := by omega
  have hz' : ((fun xs : Array Value => xs.extract 0 a ++ new ++ xs.extract c xs.size) items).size ≤ sizeLine + 1 := by
    simp only [Array.size_append, Array.size_extract]
    omega
  unfold setItem
  try with_reducible refine wpAny_holding ?_
  first | refine wpAny_bind (wpAny_pure ?_) | skip
  refine wpAny_bind (wpAny_sequenceKey hl.typeIs (by decide) ?_)
  refine wpAny_bind (wpAny_callSpecial?_slot (name := Str.ofString "__setitem__") hl.typeIs slot_list_setitem
    (wpAny_call_entry slot_list_setitem hl.typeIs entry_list_setitem ?_ (args_list_setitem _ _ _)))
  show wpAny _ _ (Builtin.List.listSubscript? (.ref sl) >>= _) _ _ s
  refine wpAny_bind ?_
  unfold Builtin.List.listSubscript?
  refine wpAny_bind (wpAny_specialOf hTs slice_no_index ?_)
  simp only [Option.isNone_none, if_true]
  refine wpAny_pure ?_
  show wpAny _ _ (typeOf (.ref sl) >>= _) _ _ s
  refine wpAny_bind (wpAny_typeOf hTs ?_)
  first
    | rw [if_neg (by decide)]
    | refine PySem.W.KFB.if_not (by decide) ?_
  rw [listSliceParts_eq]
  refine wpAny_bind (wpAny_bind (wpAny_field hos hds (x := .none) rfl (wpAny_bind (wpAny_listPart .none ?_))))
  rw [if_neg hstep]
  refine wpAny_bind (wpAny_field hos hds (x := vl) rfl (wpAny_bind (wpAny_listPart pl ?_)))
  refine wpAny_bind (wpAny_field hos hds (x := vu) rfl (wpAny_bind (wpAny_listPart pu (wpAny_pure ?_))))
  first
    | simp only [hsame, Bool.false_eq_true, if_false]
    | refine PySem.W.KFB.if_not hsame ?_
    | (dsimp only
       rw [if_neg (by rw [hsame]; exact Bool.false_ne_true)])
  refine wpAny_bind (m := Builtin.List.listAllItems (.ref b) "must assign iterable to extended slice") ?_
  unfold Builtin.List.listAllItems
  refine wpAny_bind (wpAny_typeOf hb.typeIs ?_)
  first
    | refine PySem.W.KFB.if_so (by decide) ?_
    | rw [if_pos (by decide)]
    | simp only [beq_self_eq_true, Bool.true_or, if_true]
  unfold Builtin.List.listItems
  refine wpAny_bind (wpAny_seqItems e2 rfl (wpAny_pure ?_))
  refine wpAny_bind (wpAny_bind (wpAny_seqItems e rfl (wpAny_pure ?_)))
  refine wpAny_bind (wpAny_of_eq ((sliceIndices_raw (some (a : Int)) (some (c : Int)) none items.size (by simp)).trans (congrArg (pure : Int × Int × Int → Sem (Int × Int × Int)) (bounds_run hac hc))) ?_)
  show wpAny _ _ (if ((1 : Int) == 1) = true then _ else _) _ _ s
  rw [if_pos (by decide)]
  refine wpAny_bind (wpAny_rule ?_)
  first
    | simp only [notLongL hsz, Bool.false_eq_true, if_false]
    | refine PySem.W.KFB.if_not (notLongL hsz) ?_
  first | refine wpAny_bind (wpAny_pure ?_) | skip
  show wpAny _ _ (updateSeq l (fun xs => xs.extract 0 ((a : Int)).toNat ++ new ++ xs.extract (max (a : Int) (c : Int)).toNat xs.size) >>= _) _ _ s
  rw [hmax, Int.toNat_natCast]
  refine wpAny_bind (wpAny_updateSeq (hz := Nat.le_trans (Nat.le_add_right _ _) hsz) (_hz' := hz') e rfl ?_)
  refine wpAny_bind (wpAny_letGo ?_)
  first
    | exact wpAny_bind (wpAny_pure (wpAny_pure ⟨.none, rfl, wpAny_pure h⟩))
    | exact wpAny_pure ⟨.none, rfl, wpAny_pure h⟩
end

section
variable {X : Cx}
/-- xs[a:c] = ys of another list, at the value level: sl is the slice object that was just made -/
theorem set_slice {pins : List (Addr × Obj)} {s : Shared} {σ : St} {H : Hp} {l b sl : Addr} {xs ys : List V} {a c : Int} {vl vu : Value} {Q : Unit → Shared → Prop} (I : Inv X pins σ H s)
    (hH : H l = some (.lst xs)) (hB : H b = some (.lst ys)) (hne : l ≠ b) (hs : s.heap.IsSliceOf sl vl vu .none) (ra : RelV (.int a) vl) (rc : RelV (.int c) vu) (h0 : 0 ≤ a) (hac : a ≤ c) (hc : c ≤ xs.length)
    (hz : xs.length + ys.length ≤ sizeLine) (h : ∀ s', Inv X pins σ (upd H l (.lst (xs.take a.toNat ++ ys ++ xs.drop c.toNat))) s' → Q () s') :
    wpAny (model X.prog X.w) X.A (setItem (.ref l) (.ref sl) (.ref b)) Q X.xe s := by
  obtain ⟨ta, rfl⟩ := ra
  obtain ⟨tc, rfl⟩ := rc
  obtain ⟨z, its, n, r, hl, e⟩ := I.lstM hH
  obtain ⟨z2, its2, n2, r2, hl2, e2⟩ := I.lstM hB
  obtain ⟨a', rfl⟩ := Int.eq_ofNat_of_zero_le h0
  obtain ⟨c', rfl⟩ := Int.eq_ofNat_of_zero_le (Int.le_trans h0 hac)
  simp only [Int.toNat_natCast] at h
  refine setItem_slice (a := a') (c := c') e e2 hne hs (.int _ _) (.int _ _) (by omega) (by rw [List.size_toArray]; omega) (by rw [List.size_toArray, List.size_toArray]; omega) (h _ ?_)
  refine I.lset (its' := its.take a' ++ its2 ++ its.drop c') (t' := s.toks) hH e ?_ (Vals.append (Vals.append (r.take _) r2) (r.drop _)) ?_
  · exact splice_eq its its2 a' c'
  · rw [List.length_append, List.length_append, List.length_take, List.length_drop]
    omega
end
end L2

namespace Att
open PySem PySem.W PySem.Calls PyProof.Rows

/-! ### the script -/
theorem ints_of_wellAll {P : Params} {h : Heap} : ∀ (ns : List Int) (vs : List Value), WellAll P h vs (ns.map WData.int) → IntsAre vs ns := by
  intro ns
  induction ns with
  | nil =>
    intro vs w
    rw [List.map_nil] at w
    cases w
    exact .nil
  | cons n ns ih =>
    intro vs w
    rw [List.map_cons] at w
    cases w with
    | cons a b =>
      cases a
      exact .cons _ _ (ih _ b)

theorem script_of {l : OpenLaw} {n : Nat} (hn : l.most = some n) {P : Params} {h : Heap} {args : List WData} {vals : List Value}
    (hpre : l.row.toRowW.claim.pre args = true) (hwl : WellAll P h vals args) :
    ∃ a vs ns, vals = [Value.ref a] ∧ args = [WData.list (ns.map WData.int)] ∧ h.get? a = some { cls := .type "list", data := .seq vs.toArray } ∧ IntsAre vs ns ∧ ns.length ≤ n := by
  have hsh : WShape.hasAll [] args [.list .int] = true := (pre_splitW hpre).1
  have hc : l.pre.holds [] { args := args } = true := (pre_splitW hpre).2
  obtain ⟨d, r, rfl, h1, h2⟩ := hasAllW_cons hsh
  obtain rfl := hasAllW_nil h2
  obtain ⟨xs, rfl, h3⟩ := hasW_list h1
  obtain ⟨ns, rfl⟩ := items_int h3
  have hlen : ns.length ≤ n := by
    unfold OpenLaw.pre at hc
    have h4 : (WTm.not (.lt (.lit (.int (n : Int))) (.len (.arg 0)))).holds [] { args := [.list (ns.map .int)] } = true := by
      have h4 := (holds_andW hc).1
      rw [hn] at h4
      exact h4
    have h5 := condW_of h4 (w_not (w_lt w_lit (w_len_list (w_arg rfl))))
    rw [List.length_map] at h5
    refine Nat.le_of_not_lt fun q => ?_
    have q' : (n : Int) < ((ns.length : Nat) : Int) := by omega
    first
      | (rw [decide_eq_true q'] at h5; exact absurd h5 (by decide))
      | (simp at h5; omega)
  cases hwl with
  | cons w1 w2 =>
    cases w2
    cases w1 with
    | list ho hall => exact ⟨_, _, ns, rfl, rfl, ho, ints_of_wellAll ns _ hall, hlen⟩

theorem post_true (l : OpenLaw) (args : List WData) : l.row.toRowW.claim.post args (.bool true) args = true :=
  postW_of (r := l.row.toRowW) (X := (true == true))
    (show WShape.has [] (.bool true) .bool = true by first | rfl | decide | simp [WShape.has, WShape.arms, WShape.armsAll])
    (show (WTm.eq .res (.lit (.bool true))).value [] { args := args, res := some (.bool true), after := args } = some (.bool (true == true)) from w_eq_bool (w_res rfl) w_lit) rfl

/-! ### the attachment: holds_open's last premise (the goal 'hc' behind k_head) from a wpAny of the law's body -/
theorem attach {l : OpenLaw} {n : Nat} {q : Program} {loose : List Str} {XP : (Str → Option Value) → Heap → Prop} {YP : World → Heap → Prop} {d : DefRec} {x : Str}
    (hn : l.most = some n) (hdf : d.params.defaults = [])
    (hbind : ∀ pm cd doc v : Value, bindArgs (docDef d.name d.params d.body d.scope pm cd doc) ⟨[v], []⟩ = pure [(x, v)])
    (hx : d.scope.names.lookup x = some .local ∨ d.scope.names.lookup x = some .cell)
    (hk : d.scope.kind = .function) (hco : d.scope.isCoroutine = false) (hgen : d.scope.isGenerator = false)
    (body : ∀ (w : World) (s₀ s₁ s : Shared) (mg mb : Str → Option Value) (fa : Addr) (o : Obj) (pm cd doc : Value) (a : Addr) (vs : List Value) (ns : List Int),
      Ground q loose [] XP w s₀ mg mb s₁.heap → YP w s₁.heap →
      s₁.heap.get? fa = some o → o.data = .func (docDef d.name d.params d.body d.scope pm cd doc) → s₁.heap.CodeRec cd d.name → mg d.name = some (.ref fa) →
      s₁.heap.get? a = some { cls := .type "list", data := .seq vs.toArray } → IntsAre vs ns → ns.length ≤ n →
      s.gens = #[] → s.os = s₁.os →
      Fr s₁.heap s₁.heap.objs.size s.heap (bindL (envOfC d.name d.scope s₁.heap.objs.size fa cd).kindOf [(x, .ref a)] fun _ => none) →
      Cl s₁.heap.objs.size (cellsFrom (s₁.heap.objs.size + 1) d.scope.names []) s.heap (bindC (envOfC d.name d.scope s₁.heap.objs.size fa cd).kindOf [(x, .ref a)] fun _ => none) →
      wpAny (model l.prog w) (callerA.deeper (envOfC d.name d.scope s₁.heap.objs.size fa cd)) (execs d.body (envOfC d.name d.scope s₁.heap.objs.size fa cd))
        (fun f s' => f = .ret (.bool true) ∧ OldK s₁.heap s'.heap ∧ s'.os = s₁.os ∧ AllBare s'.gens) (fun _ _ => False) s) :
    WalkO q loose XP YP l.row.toRowW d [] (fun f vs => PySem.call f vs) := by
  intro w s₀ s₁ mg mb G Y fa o pm cd doc dV kV ho hd hcd hD hmg hg args vals as hpre hlay hrd hwl hlo
  obtain rfl : dV = .none := Dflts.none hD hdf
  obtain rfl : kV = .none := Dflts.noKw hD
  obtain ⟨a, vs, ns, rfl, rfl, hobj, hints, hlen⟩ := script_of hn hpre hwl
  refine enter_call ?_
  refine call_cells_ret (o := o) (by rw [depth_caller]; decide) ho (fd_plain hd) G.T.nolimit hcd (hbind pm cd doc (.ref a)) (fun y hy => ?_) (fun h₁ tk F X => ?_) hco hgen hk
  · obtain rfl : y = (x, Value.ref a) := List.mem_singleton.mp hy
    rcases hx with e | e
    · exact .inl e
    · exact .inr ⟨e, cellsFrom_some _ _ _ (.inl e)⟩
  · refine wpAny_mono (body w s₀ s₁ { s₁ with heap := h₁, toks := tk } mg mb fa o pm cd doc a vs ns G Y ho (fd_plain hd) hcd hmg hobj hints hlen hg rfl F X) (fun f s' hq => ?_) (fun _ _ hq => hq)
    obtain ⟨rfl, h2, h3, h4⟩ := hq
    exact ⟨.inl ⟨.bool true, .bool true, [], rfl, fun _ => rfl, .bool true, post_true l _, fun _ => ⟨List.Pairwise.nil, fun _ hm => (nomatch hm)⟩⟩, h2, h3, h4⟩

/-- the same from a codeAny of the CALL (for a layer whose function contracts speak of calls) -/
theorem attach_call {l : OpenLaw} {n : Nat} {q : Program} {loose : List Str} {XP : (Str → Option Value) → Heap → Prop} {YP : World → Heap → Prop} {d : DefRec}
    (hn : l.most = some n) (hdf : d.params.defaults = [])
    (call : ∀ (w : World) (s₀ s₁ : Shared) (mg mb : Str → Option Value) (fa : Addr) (o : Obj) (pm cd doc : Value) (a : Addr) (vs : List Value) (ns : List Int),
      Ground q loose [] XP w s₀ mg mb s₁.heap → YP w s₁.heap →
      s₁.heap.get? fa = some o → o.data = .func (docDef d.name d.params d.body d.scope pm cd doc) → s₁.heap.CodeRec cd d.name → mg d.name = some (.ref fa) →
      s₁.heap.get? a = some { cls := .type "list", data := .seq vs.toArray } → IntsAre vs ns → ns.length ≤ n → s₁.gens = #[] →
      codeAny (model l.prog w) callerA (.call (.ref fa) ⟨[.ref a], []⟩) (fun r s' => r = .ok (.ret (.bool true)) ∧ OldK s₁.heap s'.heap ∧ s'.os = s₁.os ∧ AllBare s'.gens) s₁) :
    WalkO q loose XP YP l.row.toRowW d [] (fun f vs => PySem.call f vs) := by
  intro w s₀ s₁ mg mb G Y fa o pm cd doc dV kV ho hd hcd hD hmg hg args vals as hpre hlay hrd hwl hlo
  obtain rfl : dV = .none := Dflts.none hD hdf
  obtain rfl : kV = .none := Dflts.noKw hD
  obtain ⟨a, vs, ns, rfl, rfl, hobj, hints, hlen⟩ := script_of hn hpre hwl
  refine enter_call (codeAny_mono (call w s₀ s₁ mg mb fa o pm cd doc a vs ns G Y ho (fd_plain hd) hcd hmg hobj hints hlen hg) fun r s' hq => ?_)
  obtain ⟨rfl, h2, h3, h4⟩ := hq
  exact ⟨.inl ⟨.bool true, .bool true, [], rfl, fun _ => rfl, .bool true, post_true l _, fun _ => ⟨List.Pairwise.nil, fun _ hm => (nomatch hm)⟩⟩, h2, h3, h4⟩

/-- the same where the top left finished generators (o_head chose holds_openN): nothing may have changed at all and no generator may be left -/
theorem attachN {l : OpenLaw} {n : Nat} {q : Program} {loose : List Str} {XP : (Str → Option Value) → Heap → Prop} {YP : World → Heap → Prop} {d : DefRec} {x : Str}
    (hn : l.most = some n) (hdf : d.params.defaults = [])
    (hbind : ∀ pm cd doc v : Value, bindArgs (docDef d.name d.params d.body d.scope pm cd doc) ⟨[v], []⟩ = pure [(x, v)])
    (hx : d.scope.names.lookup x = some .local ∨ d.scope.names.lookup x = some .cell)
    (hk : d.scope.kind = .function) (hco : d.scope.isCoroutine = false) (hgen : d.scope.isGenerator = false)
    (body : ∀ (w : World) (s₀ s₁ s : Shared) (mg mb : Str → Option Value) (fa : Addr) (o : Obj) (pm cd doc : Value) (a : Addr) (vs : List Value) (ns : List Int),
      Ground q loose [] XP w s₀ mg mb s₁.heap → YP w s₁.heap →
      s₁.heap.get? fa = some o → o.data = .func (docDef d.name d.params d.body d.scope pm cd doc) → s₁.heap.CodeRec cd d.name → mg d.name = some (.ref fa) →
      s₁.heap.get? a = some { cls := .type "list", data := .seq vs.toArray } → IntsAre vs ns → ns.length ≤ n →
      s.gens = #[] → s.os = s₁.os →
      Fr s₁.heap s₁.heap.objs.size s.heap (bindL (envOfC d.name d.scope s₁.heap.objs.size fa cd).kindOf [(x, .ref a)] fun _ => none) →
      Cl s₁.heap.objs.size (cellsFrom (s₁.heap.objs.size + 1) d.scope.names []) s.heap (bindC (envOfC d.name d.scope s₁.heap.objs.size fa cd).kindOf [(x, .ref a)] fun _ => none) →
      wpAny (model l.prog w) (callerA.deeper (envOfC d.name d.scope s₁.heap.objs.size fa cd)) (execs d.body (envOfC d.name d.scope s₁.heap.objs.size fa cd))
        (fun f s' => f = .ret (.bool true) ∧ (∀ b o, s₁.heap.get? b = some o → s'.heap.get? b = some o) ∧ s'.os = s₁.os ∧ s'.gens = #[]) (fun _ _ => False) s) :
    WalkN q loose XP YP l.row.toRowW d [] (fun f vs => PySem.call f vs) := by
  intro w s₀ s₁ mg mb G Y fa o pm cd doc dV kV ho hd hcd hD hmg hg args vals as hpre hlay hrd hwl hlo
  obtain rfl : dV = .none := Dflts.none hD hdf
  obtain rfl : kV = .none := Dflts.noKw hD
  obtain ⟨a, vs, ns, rfl, rfl, hobj, hints, hlen⟩ := script_of hn hpre hwl
  refine enter_callW ?_
  refine call_cells_ret (o := o) (by rw [depth_caller]; decide) ho (fd_plain hd) G.T.nolimit hcd (hbind pm cd doc (.ref a)) (fun y hy => ?_) (fun h₁ tk F X => ?_) hco hgen hk
  · obtain rfl : y = (x, Value.ref a) := List.mem_singleton.mp hy
    rcases hx with e | e
    · exact .inl e
    · exact .inr ⟨e, cellsFrom_some _ _ _ (.inl e)⟩
  · refine wpAny_mono (body w s₀ s₁ { s₁ with heap := h₁, toks := tk } mg mb fa o pm cd doc a vs ns G Y ho (fd_plain hd) hcd hmg hobj hints hlen hg rfl F X) (fun f s' hq => ?_) (fun _ _ hq => hq)
    obtain ⟨rfl, h2, h3, h4⟩ := hq
    exact ⟨.inl ⟨.bool true, .bool true, [], rfl, fun _ => rfl, .bool true, post_true l _, fun _ => ⟨List.Pairwise.nil, fun _ hm => (nomatch hm)⟩⟩, h2, h3, h4⟩

/-! ### rules over ANY heap (no ledger) from facts about the written part K: the library's own take a ledger (News) for what they write -/
section
variable {prog : Program} {w : World} {A : Around} {E : Value → Shared → Prop} {s : Shared} {K : Frag}

/-- a def of the module, or a method (qual 'C.m'), entered: the frame is the next address; cells behind it -/
theorem call_fn {R : Result → Shared → Prop} {name qual : Str} {params : Arguments} {body : List Stmt} {scope : Scope} {dV kV doc pm cdv ct oc : Value} {an od : Option Addr} {osl : Array (Option Value)} {f : Addr} {args : Args} {binds : List (Str × Value)}
    (X : K.In s.heap) (hlim : s.heap.NoLimit) (ho : K.lookup f = some ⟨oc, od, .func (fnOf name qual params body scope dV kV doc pm an cdv ct), osl⟩) (hcd : codeIn K cdv qual = true) (hroom : A.depth < recursionLimit)
    (hbind : BindsTo s (fnOf name qual params body scope dV kV doc pm an cdv ct) args binds)
    (hkind : (binds.all fun y => scope.names.lookup y.1 == some .local || scope.names.lookup y.1 == some .cell) = true)
    (h : ∀ s₁, InCallC s s.heap.objs.size (bindL (envOfC qual scope s.heap.objs.size f cdv).kindOf binds fun _ => none) (cellsFrom (s.heap.objs.size + 1) scope.names [])
        (bindC (envOfC qual scope s.heap.objs.size f cdv).kindOf binds fun _ => none) s₁ →
      wpAny (model prog w) (A.deeper (envOfC qual scope s.heap.objs.size f cdv)) (execs body (envOfC qual scope s.heap.objs.size f cdv))
        (fun fl s' => R (.ok (.ret (match fl with | .ret v => v | _ => .none))) s')
        (fun e s' => wpAny (model prog w) (A.deeper (envOfC qual scope s.heap.objs.size f cdv)) (leaving (envOfC qual scope s.heap.objs.size f cdv) e) (fun _ s'' => R (.error e) s'') (fun e' s'' => R (.error e') s'') s') s₁)
    (hco : scope.isCoroutine = false) (hgen : scope.isGenerator = false) (hk : scope.kind = .function) : codeAny (model prog w) A (.call (.ref f) args) R s := by
  refine codeAny_call_function hroom (X _ _ ho) rfl hco hgen rfl (codeRec_of X hcd) (hbind _ _ _ _ ?_)
  refine wpAny_newFunctionEnv_cells hk (kindsX hkind _) fun env he s₁ x => ?_
  subst he
  exact ⟨hlim.keeps x.toInCall.keep, codeAny_func (h s₁ x)⟩

/-- C(..): dict at size, instance at size + 1, then __init__ -/
theorem make_obj {R : Result → Shared → Prop} {C fI : Addr} {rest : List Value} {kw : List (Str × Value)}
    (X : K.In s.heap) (hm : makesIn K C = true) (hi : findIn K (.ref C) "__init__" = some (some (.ref fI))) (hf : isFn K (.ref fI) = true)
    (h : codeAny (model prog w) (A.under (.builtin "type.__call__" ⟨.ref C :: rest, kw⟩)) (.call (.ref fI) ⟨.ref (s.heap.objs.size + 1) :: rest, kw⟩) (InitBack (s.heap.objs.size + 1) R)
      { s with heap := (s.heap.push emptyDict).push (instObj C s.heap.objs.size) }) : codeAny (model prog w) A (.call (.ref C) ⟨rest, kw⟩) R s := by
  obtain ⟨hh, g, d, t, os⟩ := s
  exact make_core (makes_of X hm) (looks_findIn X hi) (fun self => bind_fn X self (beq_iff_eq.mp hf)) (.inl rfl) h

/-- x.name where the instance's dict holds the name and the class does not -/
theorem get_field {x C : Addr} {ox : Obj} {es : List DictEntry} {n : Nat} {name : Str} {expr : Bool} {v : Value} {Q : Value → Shared → Prop}
    (X : K.In s.heap) (I : PySem.W.InstAt s.heap x ox C (some (dictOf es n))) (hg : plainGet K C name = true) (hh : hasDictIn K C = true) (ha : findIn K (.ref C) name = some none)
    (hl : getL name es = some (some v)) (hv : handedIn v = true) (h : Q v { s with toks := s.toks + 1 }) : wpAny (model prog w) A (getAttr (.ref x) name expr) Q E s :=
  get_value X I (plainGet_of hg).1 (findObj_own hh ha rfl hl) hv h

/-- x.m(..): the method found in the class -/
theorem get_method {x C f : Addr} {ox : Obj} {es : List DictEntry} {n : Nat} {name : Str} {pl : Sem Bool} {Q : Value × List Value → Shared → Prop}
    (X : K.In s.heap) (I : PySem.W.InstAt s.heap x ox C (some (dictOf es n))) (hg : plainGet K C name = true) (hf : findIn K (.ref C) name = some (some (.ref f))) (ht : isFn K (.ref f) = true)
    (hl : getL name es = some none) (h : Q (.ref f, [.ref x]) s) : wpAny (model prog w) A (getMethod (.ref x) name pl) Q E s :=
  method_fn X I (plainGet_of hg).1 (plainGet_of hg).2 hf (beq_iff_eq.mp ht) (by show (lookIn name (dictOf es n)).map _ = _; rw [lookIn_dict, hl]; rfl) h

/-! the whole heap as the ledger: makes every rule that writes through a ledger a rule over any heap -/
def noObjs (h : Heap) : Heap := { h with objs := #[] }
theorem noObjs_get (h : Heap) (b : Addr) : (noObjs h).get? b = none := by
  cases e : (noObjs h).get? b with
  | none => rfl
  | some o => exact absurd (Heap.lt_size e) (Nat.not_lt_zero _)
def ledger (h : Heap) (L d : Addr) : List (Addr × Obj) := (List.range h.objs.size).filterMap fun a => if a = L ∨ a = d then none else (h.get? a).map fun o => (a, o)
theorem mem_ledger {h : Heap} {L d a : Addr} {o : Obj} : (a, o) ∈ ledger h L d ↔ a ≠ L ∧ a ≠ d ∧ h.get? a = some o := by
  unfold ledger
  rw [List.mem_filterMap]
  constructor
  · rintro ⟨b, _, e⟩
    split at e
    · cases e
    · rename_i hb
      obtain ⟨o', ho, e'⟩ := Option.map_eq_some_iff.mp e
      cases e'
      exact ⟨fun q => hb (.inl q), fun q => hb (.inr q), ho⟩
  · rintro ⟨n1, n2, ho⟩
    refine ⟨a, List.mem_range.mpr (Heap.lt_size ho), ?_⟩
    rw [if_neg (show ¬ (a = L ∨ a = d) from fun q => q.elim n1 n2), ho] <;> rfl
theorem news_ledger {h : Heap} {L d : Addr} {od : Obj} (hne : d ≠ L) (ho : h.get? d = some od) : News (noObjs h) L h ([] ++ (d, od) :: ledger h L d) := by
  rintro ⟨a, o⟩ hp
  rcases List.mem_cons.mp hp with e | hp
  · cases e
    exact ⟨ho, hne, noObjs_get _ _⟩
  · obtain ⟨n1, n2, e⟩ := mem_ledger.mp hp
    exact ⟨e, n1, noObjs_get _ _⟩
theorem fr_all {h : Heap} {L : Addr} {m : Str → Option Value} (n : h.Ns L m) : Fr (noObjs h) L h m :=
  ⟨n, fun b o e => (by rw [noObjs_get] at e; cases e), Nat.zero_le _⟩
/-- Upd of the head entry (for append_K, setItem_K ..) -/
theorem upd_ledger {h : Heap} {L d : Addr} {o o' : Obj} : Upd d o o' ((d, o) :: ledger h L d) ((d, o') :: ledger h L d) :=
  .head fun ⟨_, _⟩ hp => (mem_ledger.mp hp).2.1

/-- x.name = v over any heap: L is any namespace of the heap (the frame's, say): its map stays, its object is not told; all else but the dict stays -/
theorem set_field {x C dx L : Addr} {ox : Obj} {m : Str → Option Value} {es es' : List DictEntry} {n n' : Nat} {name : Str} {v : Value} {Q : Unit → Shared → Prop}
    (X : K.In s.heap) (I : PySem.W.InstAt s.heap x ox C (some (dictOf es n))) (hd : ox.dict = some dx) (hL : s.heap.Ns L m) (hne : dx ≠ L)
    (hs : findIn K (.ref C) "__setattr__" = some (some (.builtin "object.__setattr__"))) (hp : plainOver K C = true) (ht : takerIn K C name = some none) (hh : hasDictIn K C = true) (hl : (getL name es).isSome = true)
    (e : (putL name (PyData.keyHash w.params name) (.str name (s.toks + 1)) v es, putN name es n) = (es', n')) (hz : es'.length ≤ 1000)
    (h : ∀ h' : Heap, h'.Ns L m → h'.get? dx = some (dictOf es' n') → (∀ b o, b ≠ dx → b ≠ L → s.heap.get? b = some o → h'.get? b = some o) → Q () { s with heap := h', toks := s.toks + 2 }) :
    wpAny (model prog w) A (setAttr (.ref x) name v) Q E s := by
  obtain ⟨e1, e2⟩ := Prod.mk.inj e
  have hdx : s.heap.get? dx = some (dictOf es n) := by
    have := I.dict
    rw [hd] at this
    exact this
  refine set_plain X I hs (osa_dict (s := { s with toks := s.toks + 1 }) (h₀ := noObjs s.heap) (L := L) (m := m) (od := dictOf es n) (od' := dictOf es' n') (es := es') (n := n') (pre := []) (post := ledger s.heap L dx)
    (fr_all hL) (news_ledger hne hdx) X I hd hp ht hh hl (fun _ q => nomatch q) (fun ⟨_, _⟩ q => (mem_ledger.mp q).2.1) (by rw [putName_dict, e1, e2]) rfl hz fun h' F' N' => ?_)
  exact h h' F'.ns (N'.get (List.Mem.head _)) fun b o n1 n2 ho => N'.get (List.Mem.tail _ (mem_ledger.mpr ⟨n2, n1, ho⟩))
end
end Att

namespace L2
open PySem PySem.Spec PyProof.Rows

theorem vals_ints : ∀ {vs : List Value} {ns : List Int}, IntsAre vs ns → Vals (ns.map V.int) vs
  | _, _, .nil => .nil
  | _, _, .cons n t h => .cons ⟨t, rfl⟩ (vals_ints h)

/-- nothing is tracked but the script, known to the object (or it is an object of the module) -/
def Only (H : Hp) : Prop := ∀ b, H b = none ∨ ∃ o xs, H b = some (.frz o (.lst xs))

/-- THE HEAD: the law's promise, at the heap behind the top. F, the promise of the law's def, may use that base is part of the heap (so K.In base, base.Ns mainGlobals mg stand in Mod) -/
theorem law_call {P : Program} {w : World} {K : PySem.W.Frag} {mg mb : Str → Option Value} {CX : CXT} {k : Nat} {fa a : Addr} {fd : FuncData} {x : Str} {sp : Sp} {s₁ : Shared} {vs : List Value} {ns : List Int}
    (KX : K.In s₁.heap) (hns : s₁.heap.Ns mainGlobals mg) (hb : s₁.heap.Ns builtinsNs mb) (hbb : ∀ x : Str, x ≠ "__name__" → mb x = bootBuiltins x) (hlim : s₁.heap.NoLimit) (hg : s₁.gens = #[])
    (ha : s₁.heap.get? a = some { cls := .type "list", data := .seq vs.toArray }) (hi : IntsAre vs ns) (hl : ns.length ≤ sizeLine) (hr : Room k callerA)
    (F : ∀ base : Heap, K.In base → base.Ns mainGlobals mg → FnOk P w K mg base CX k fa fd [x] sp) (hbind : ∀ (s : Shared) (u : Value), BindsTo s fd ⟨[u], []⟩ [(x, u)])
    (hsp : ∀ H : Hp, Only H → SqL K H a (ns.map V.int) → sp [.ref a] H (fun v _ => v = .bl true) fun _ _ _ => False)
    (hCX : ∀ H e s', CX [] H s₁ (fun _ _ _ => False) e s' → False) :
    codeAny (model P w) callerA (.call (.ref fa) ⟨[.ref a], []⟩) (fun r s' => r = .ok (.ret (.bool true)) ∧ OldK s₁.heap s'.heap ∧ s'.os = s₁.os ∧ AllBare s'.gens) s₁ := by
  have rv := vals_ints hi
  have lenV := hi.length
  -- from an abstract heap in which nothing but the script may be tracked
  have core : ∀ H : Hp, Only H → SqL K H a (ns.map V.int) → HOk P w H s₁.heap → (∀ b, H b ≠ none → b = a) → (H a ≠ none → K.lookup a = none) →
      codeAny (model P w) callerA (.call (.ref fa) ⟨[.ref a], []⟩) (fun r s' => r = .ok (.ret (.bool true)) ∧ OldK s₁.heap s'.heap ∧ s'.os = s₁.os ∧ AllBare s'.gens) s₁ := by
    intro H hO hS hok hA hK
    have base_of : ∀ {b : Addr} {o : Obj}, s₁.heap.get? b = some o → H b = none → (hidT s₁.heap H).get? b = some o := fun e n => hidT_get e n
    have noA : ∀ {b : Addr} {o : Obj} {es : Array DictEntry} {ep : Nat}, s₁.heap.get? b = some o → o.data = .dict es ep → H b = none := fun {b o es ep} e d => by
      cases q : H b with
      | none => rfl
      | some u =>
        have e' : b = a := hA b (by rw [q]; simp)
        subst e'
        rw [ha] at e; cases e
        have d' : Data.seq vs.toArray _ = Data.dict es ep := d
        cases d'
    have nsK : ∀ {b : Addr} {m : Str → Option Value}, s₁.heap.Ns b m → (hidT s₁.heap H).Ns b m := fun {b m} ⟨o, es, ep, e, d, r⟩ => ⟨o, es, ep, base_of e (noA e d), d, r⟩
    have hKb : K.In (hidT s₁.heap H) := fun b o e => base_of (KX b o e) (by
      cases q : H b with
      | none => rfl
      | some u =>
        have e' : b = a := hA b (by rw [q]; simp)
        subst e'
        rw [hK (by rw [q]; simp)] at e; cases e)
    have hM : Mod K mg (hidT s₁.heap H) := ⟨hKb, nsK hns, ⟨mb, nsK hb, hbb⟩, let ⟨mc, h1, h2⟩ := hlim; ⟨mc, nsK h1, h2⟩⟩
    have e0 : Env0 P w K mg (hidT s₁.heap H) callerA [] s₁ H := ⟨rfl, hM, fun b o e => of_hidT e, Nat.le_of_eq (hidT_size _ _), trivial, fun b hb => absurd (show b ∈ ([] : List Addr) from hb) (by simp), hok, .of_eq hg⟩
    refine codeAny_mono ((F _ hKb (nsK hns)).run callerA [] s₁ H ⟨[.ref a], []⟩ [.ref a] [.ref a] _ _ hr e0 (hbind s₁ (.ref a)) (.cons rfl .nil) (hsp H hO hS)) fun r s' h => ?_
    cases r with
    | error e => exact (hCX H e s' h).elim
    | ok fl =>
      cases fl with
      | next => exact False.elim h
      | brk => exact False.elim h
      | cont => exact False.elim h
      | ret u =>
        obtain ⟨v, H', os, bare, un, hok', r', q⟩ := h
        have q' : v = .bl true := q
        subst q'
        obtain rfl : u = Value.bool true := r'
        refine ⟨rfl, OldK.of_keep fun b o e => ?_, os, bare⟩
        cases q : H b with
        | none => exact un.keep b o e q (by intro z; exact absurd (show b ∈ ([] : List Addr) from z) (by simp)) (by simp)
        | some u =>
          rcases hO b with z | ⟨ob, xs, z⟩
          · rw [q] at z; cases z
          · have z2 := un.frzs b ob _ z
            obtain ⟨e1, _⟩ := hok b _ z
            obtain ⟨e2, _⟩ := hok' b _ z2
            rw [e] at e1; cases e1
            exact e2
  cases hk : K.lookup a with
  | some o =>
    -- the script is one of the module's own objects
    have e := KX a o hk
    rw [ha] at e
    cases e
    refine core (fun _ => none) (fun _ => .inl rfl) (.inr ⟨_, vs.toArray, _, hk, rfl, rfl, rfl, by rw [List.size_toArray, lenV]; exact hl, by simpa using rv⟩) (fun b u z => by have z' : (none : Option HO) = some u := z; cases z') (fun b z => absurd rfl z) fun z => absurd rfl z
  | none =>
    refine core (fun b => if b = a then some (.frz { cls := .type "list", data := .seq vs.toArray } (.lst (ns.map V.int))) else none) (fun b => ?_) (.inl (.inr ⟨{ cls := .type "list", data := .seq vs.toArray }, if_pos rfl⟩)) (fun b u z => ?_) (fun b z => ?_) fun _ => hk
    · by_cases hb : b = a
      · exact .inr ⟨_, _, if_pos hb⟩
      · exact .inl (if_neg hb)
    · by_cases hb : b = a
      · have z' := (if_pos hb).symm.trans z
        cases z'
        subst hb
        exact ⟨ha, by rw [List.length_map]; exact hl, vs, _, rv, ha⟩
      · have z' := (if_neg hb).symm.trans z
        cases z'
    · by_cases hb : b = a
      · exact hb
      · exact absurd (if_neg hb) z
end L2

namespace L2
open PySem PySem.Spec PyProof.Rows

abbrev KOf {K : PySem.W.Frag} {h : Heap} (_ : K.In h) : PySem.W.Frag := K

/-- the goal that k_head leaves (case hc), from the law's promise. F gives the function object fd (K's own) once, then the promise over every base -/
theorem walk_of {l : PySem.W.OpenLaw} {n k : Nat} {q : Program} {loose : List Str} {XP : (Str → Option Value) → Heap → Prop} {YP : World → Heap → Prop} {d : DefRec} {K : Params → PySem.W.Frag} {CX : World → CXT} {sp : World → Sp} {x : Str}
    (hn : l.most = some n) (hn2 : n ≤ sizeLine) (hdf : d.params.defaults = []) (hr : Room k callerA)
    (hY : ∀ (w : World) (h : Heap), YP w h → (K w.params).In h)
    (F : ∀ (w : World) (mg : Str → Option Value) (fa : Addr) (h : Heap), (K w.params).In h → h.Ns mainGlobals mg → mg d.name = some (.ref fa) →
      ∃ fd : FuncData, (∀ (s : Shared) (u : Value), BindsTo s fd ⟨[u], []⟩ [(x, u)]) ∧
        ∀ base : Heap, (K w.params).In base → base.Ns mainGlobals mg → FnOk l.prog w (K w.params) mg base (CX w) k fa fd [x] (sp w))
    (hsp : ∀ (w : World) (H : Hp) (a : Addr) (ns : List Int), ns.length ≤ n → Only H → SqL (K w.params) H a (ns.map V.int) → sp w [.ref a] H (fun v _ => v = .bl true) fun _ _ _ => False)
    (hCX : ∀ (w : World) (H : Hp) (s : Shared) (e : Value) (s' : Shared), CX w [] H s (fun _ _ _ => False) e s' → False) :
    PySem.W.WalkO q loose XP YP l.row.toRowW d [] (fun f vs => PySem.call f vs) := by
  refine Att.attach_call hn hdf fun w s₀ s₁ mg mb fa o pm cd doc a vs ns G Y ho hd hcd hmg hobj hints hlen hg => ?_
  have KX := hY w _ Y
  obtain ⟨fd, hb, hF⟩ := F w mg fa _ KX G.T.g hmg
  exact law_call KX G.T.g G.T.b G.T.builtins G.T.nolimit hg hobj hints (Nat.le_trans hlen hn2) hr hF hb (fun H hO hS => hsp w H a ns hlen hO hS) fun H e s' => hCX w H s₁ e s'
/-- the same where the promise hangs on the written part alone: (sp := My.sp_law), no hole under a binder -/
theorem walk_ofK {l : PySem.W.OpenLaw} {n k : Nat} {q : Program} {loose : List Str} {XP : (Str → Option Value) → Heap → Prop} {YP : World → Heap → Prop} {d : DefRec} {K : Params → PySem.W.Frag} {CX : CXT} {sp : PySem.W.Frag → Sp} {x : Str}
    (hn : l.most = some n) (hn2 : n ≤ sizeLine) (hdf : d.params.defaults = []) (hr : Room k callerA)
    (hY : ∀ (w : World) (h : Heap), YP w h → (K w.params).In h)
    (F : ∀ (w : World) (mg : Str → Option Value) (fa : Addr) (h : Heap), (K w.params).In h → h.Ns mainGlobals mg → mg d.name = some (.ref fa) →
      ∃ fd : FuncData, (∀ (s : Shared) (u : Value), BindsTo s fd ⟨[u], []⟩ [(x, u)]) ∧
        ∀ base : Heap, (K w.params).In base → base.Ns mainGlobals mg → FnOk l.prog w (K w.params) mg base CX k fa fd [x] (sp (K w.params)))
    (hsp : ∀ (K : PySem.W.Frag) (H : Hp) (a : Addr) (ns : List Int), ns.length ≤ n → Only H → SqL K H a (ns.map V.int) → sp K [.ref a] H (fun v _ => v = .bl true) fun _ _ _ => False)
    (hCX : ∀ (H : Hp) (s : Shared) (e : Value) (s' : Shared), CX [] H s (fun _ _ _ => False) e s' → False) :
    PySem.W.WalkO q loose XP YP l.row.toRowW d [] (fun f vs => PySem.call f vs) :=
  walk_of (K := K) (CX := fun _ => CX) (sp := fun w => sp (K w.params)) hn hn2 hdf hr hY F (fun w H a ns h1 h2 h3 => hsp (K w.params) H a ns h1 h2 h3) fun _ H s e s' => hCX H s e s'
end L2

/- THE LAST THEOREM (shape; LID, My.* are yours):
   My.Adr: a structure of the addresses that your layer names (classes, functions); My.Txt K t: a structure (Prop) of the equations over K;
   My.txt_mk : {K} {implicit addresses ..} (e1 : nsIn K mainGlobals "law" = some (some (.ref f))) (e2 : K.lookup f = some ⟨oc, od, .func (fnOf "law" "law" params body scope dV kV doc pm an cdv ct), sl⟩) (e3 : codeIn K cdv "law" = true) .. : ∃ t, My.Txt K t

set_option maxRecDepth 100000 in
set_option maxHeartbeats 0 in
theorem PySem.Challenge.cw_LID_holds : PySem.Challenge.rw_LID.Holds := by
  w_on; o_law; k_head; (case hw => w_witness2)
  k_fill
  refine L2.walk_of (l := PySem.Challenge.rw_LID) (n := 63) (k := 40) (x := "script") (CX := fun w => ..) (sp := fun _ => My.sp_law) rfl (by decide) rfl ⟨rfl, by decide, by decide⟩ (fun w h Y => PySem.W.kIn_of Y) ?F ?S ?C
  case F =>
    intro w mg fa h KX G hmg
    have T : ∃ t, My.Txt (L2.KOf KX) t := by
      dsimp only [L2.KOf]                          -- K must stand as «<heap const> w.params» for k_is
      refine' My.txt_mk ?e1 ?e2 ?e3 ..
      (case e1 => PySem.W.k_is)                    -- in the order: a name -> its address -> its object -> its parts
      (case e2 => PySem.W.k_is)
      ..
    obtain ⟨t, T⟩ := T
    have e0 := hmg.symm.trans (PySem.W.mg_of KX G T.law)
    cases e0                                       -- fa is the law's own address
    exact ⟨_, fun s u => .of_eq rfl, fun base kb nb => My.law_fn T kb nb⟩     -- if «.of_eq rfl» comes too early: refine' ⟨_, ?b, fun base kb nb => My.law_fn T kb nb⟩; exact fun s u => .of_eq rfl
  case S => exact fun w H a ns hl hO hS => ..
  case C => exact ..
(the tactic k_is has no namespace: write k_is) -/

/-! SHORT WORDS over the layer: a def of the text, its body, what a loop and a test want. -/
namespace L2
open PySem PySem.Spec PyProof.Rows

/-! ### the text by places -/
/-- the j-th statement of a class's body -/
def inClass (s : Stmt) (j : Nat) : Stmt := match s with
  | .ClassDef _ _ _ body _ _ _ _ _ _ _ => body.getD j (.Pass ⟨0, 0, 0, 0⟩)
  | _ => .Pass ⟨0, 0, 0, 0⟩
def defArgs (s : Stmt) : Arguments := match s with
  | .FunctionDef _ a _ _ _ _ _ _ _ _ => a
  | _ => { posonlyargs := [], args := [], vararg := none, kwonlyargs := [], kw_defaults := [], kwarg := none, defaults := [] }
def defBody (s : Stmt) : List Stmt := match s with
  | .FunctionDef _ _ b _ _ _ _ _ _ _ => b
  | _ => []
def defScope (s : Stmt) : Scope := match s with
  | .FunctionDef _ _ _ _ _ _ sc _ _ _ => sc
  | _ => { kind := .function, names := [], isGenerator := false, isCoroutine := false }

/-! ### no exception leaves a def -/
abbrev CX0 : CXT := fun _ _ _ _ _ _ => False
abbrev E0 : XK := fun _ _ _ => False
theorem pass0 {X : Cx} : Passes CX0 X E0 := fun _ _ _ _ _ _ _ h => h.elim

/-! ### a def (or method) of the text as it stands behind the top -/
structure Fun (K : PySem.W.Frag) (x qual : Str) (st : Stmt) (f : Addr) (fd : FuncData) : Prop where
  ex : ∃ (oc : Value) (od : Option Addr) (kV doc pm : Value) (an : Option Addr) (cdv ct : Value) (osl : Array (Option Value)),
    fd = PySem.W.fnOf x qual (defArgs st) (defBody st) (defScope st) .none kV doc pm an cdv ct ∧ K.lookup f = some ⟨oc, od, .func fd, osl⟩ ∧ PySem.W.codeIn K cdv qual = true
  kp : PySem.W.keepIn K (.ref f) = true
section
variable {P : Program} {w : World} {K : PySem.W.Frag} {mg : Str → Option Value} {base : Heap}
/-- THE RULE for a def: its body as a term of rules, and the reading of that term -/
theorem Fun.ok {x qual : Str} {st : Stmt} {f : Addr} {fd : FuncData} {N ps : List Str} {k : Nat} {sp : Sp} (F : Fun K x qual st f fd) (S : FnScope N ps (defScope st)) (len : ∀ vs H Q E, sp vs H Q E → vs.length = ps.length)
    (hbody : ∀ (cdv : Value) (A : Around) (outer : List Env) (s : Shared) (H : Hp) (vs : List V) (Q : VK) (E : XK), Room k (A.deeper (envOfC qual (defScope st) s.heap.objs.size f cdv)) → sp vs H Q E →
      ∃ t, PSs (cxOf CX0 P w K mg base N qual (defScope st) f cdv A outer s H E).nox (defBody st) t ∧ t { nx := fun _ H' => Q .non H', rt := Q } (start N vs) H) : FnOk P w K mg base CX0 (k + 1) f fd ps sp := by
  obtain ⟨oc, od, kV, doc, pm, an, cdv, ct, osl, rfl, lk, hcd⟩ := F.ex
  refine fn_of lk hcd S len fun A outer s H vs Q E hr hsp => ?_
  obtain ⟨t, h, q⟩ := hbody cdv A outer s H vs Q E hr hsp
  exact ⟨t, h.nox, q⟩
/-- how its arguments bind (no defaults): h is «fun _ _ _ _ _ _ us hl => match us, hl with | [_, _], _ => rfl», one _ a parameter -/
theorem Fun.binds {x qual : Str} {st : Stmt} {f : Addr} {fd : FuncData} {ps : List Str} (F : Fun K x qual st f fd)
    (h : ∀ (kV doc pm : Value) (an : Option Addr) (cdv ct : Value) (us : List Value), us.length = ps.length → bindArgs (PySem.W.fnOf x qual (defArgs st) (defBody st) (defScope st) .none kV doc pm an cdv ct) ⟨us, []⟩ = pure (ps.zip us)) : Binds K fd ps [] := by
  obtain ⟨oc, od, kV, doc, pm, an, cdv, ct, osl, rfl, lk, hcd⟩ := F.ex
  exact .all (h kV doc pm an cdv ct)
theorem fun_mk {x qual : Str} {st : Stmt} {f : Addr} {oc : Value} {od an : Option Addr} {osl : Array (Option Value)} {kV doc pm cdv ct : Value} (l : K.lookup f = some ⟨oc, od, .func (PySem.W.fnOf x qual (defArgs st) (defBody st) (defScope st) .none kV doc pm an cdv ct), osl⟩)
    (c : PySem.W.codeIn K cdv qual = true) (k : PySem.W.keepIn K (.ref f) = true) : Fun K x qual st f (PySem.W.fnOf x qual (defArgs st) (defBody st) (defScope st) .none kV doc pm an cdv ct) := ⟨⟨oc, od, kV, doc, pm, an, cdv, ct, osl, rfl, l, c⟩, k⟩
end
theorem hu_of {A : Around} {k : Nat} (hr : Room k A) : A.units + 1 < cLine := Nat.lt_of_le_of_lt (Nat.add_le_add_left (by decide : 1 ≤ 64) _) hr.units
theorem small1000 {n : Nat} (h : n ≤ 1000) : n < sizeLine := Nat.lt_of_le_of_lt h (by decide)

/-! ### expressions in short: the name that stands in the i-th slot -/
section
variable {X : Cx}
theorem pv (i : Nat) {x : Str} {pos : Pos} (hN : X.N[i]? = some x := by rfl) (hv : Vis X.env.scope x := by first | exact Or.inl rfl | exact Or.inr (Or.inl rfl) | exact Or.inr (Or.inr rfl)) (hd : (x == ("__debug__" : Str)) = false := by decide)
    (hcd : (x == ("__classdict__" : Str)) = false := by decide) : PE X (.Name x pos) (tVar i) := pe_var hN hv hd hcd
end

/-! ### tests -/
theorem iteF {A B : Prop} (h : B) : if false = true then A else B := by
  rw [if_neg Bool.false_ne_true]
  exact h
theorem iteT {A B : Prop} (h : A) : if true = true then A else B := by
  rw [if_pos rfl]
  exact h
theorem ite2 {c A B : Prop} [Decidable c] (h1 : c → A) (h2 : ¬ c → B) : if c then A else B := by
  by_cases h : c
  · rw [if_pos h]
    exact h1 h
  · rw [if_neg h]
    exact h2 h
theorem iteNS {c A B : Prop} [Decidable c] (hc : c) (h : B) : if (!decide c) = true then A else B := by
  rw [decide_eq_true hc]
  exact iteF h

/-! ### heaps -/
/-- all that was tracked is as it was -/
def Same (H H' : Hp) : Prop := ∀ b o, H b = some o → H' b = some o
theorem Same.refl (H : Hp) : Same H H := fun _ _ h => h
theorem Same.trans {H H1 H2 : Hp} (a : Same H H1) (b : Same H1 H2) : Same H H2 := fun c o h => b c o (a c o h)
theorem Same.free {H H' : Hp} (e : Same H H') {l : Addr} (h : H' l = Option.none) : H l = Option.none := by
  cases q : H l with
  | none => rfl
  | some o =>
    rw [e l o q] at h
    cases h
theorem Same.seq {K : PySem.W.Frag} {H H' : Hp} {a : Addr} {xs : List V} (e : Same H H') (h : SqL K H a xs) : SqL K H' a xs := by
  rcases h with (h | ⟨o, h⟩) | h
  · exact .inl (.inl (e _ _ h))
  · exact .inl (.inr ⟨o, e _ _ h⟩)
  · exact .inr h

end L2

namespace L2
open PySem PySem.Spec PyProof.Rows

/-! ### a comprehension of one clause (nothing of it raises) -/
/-- the cells that its block takes from around it -/
def clOf (env : Env) : List (Str × NameKind) → List (Str × Addr) → List (Str × Addr)
  | [], acc => acc
  | (n, k) :: r, acc => clOf env r (if k == .free then (n, (env.cells.lookup n).getD 0) :: acc else acc)
theorem closureFor_clOf {scope : Scope} {env : Env} (h : ∀ y ∈ scope.names, y.2 = .free → ∃ c, env.cells.lookup y.1 = some c) : closureFor scope env = pure (clOf env scope.names []) := by
  have all : ∀ (l : List (Str × NameKind)) (acc : List (Str × Addr)), (∀ y ∈ l, y.2 = .free → ∃ c, env.cells.lookup y.1 = some c) →
      (forIn l acc fun (x : Str × NameKind) (r : List (Str × Addr)) => match x with
        | (name, kind) => if (kind == NameKind.free) = true then (do let a ← cellOf env name; pure (ForInStep.yield ((name, a) :: r))) else pure (ForInStep.yield r) : Sem (List (Str × Addr))) = pure (clOf env l acc) := by
    intro l
    induction l with
    | nil => intro acc _; rfl
    | cons y r ih =>
      intro acc hl
      obtain ⟨n, k⟩ := y
      have hr : ∀ y ∈ r, y.2 = .free → ∃ c, env.cells.lookup y.1 = some c := fun y hy => hl y (List.mem_cons_of_mem _ hy)
      rw [List.forIn_cons]
      by_cases hk : k = .free
      · subst hk
        obtain ⟨c, hc⟩ := hl _ List.mem_cons_self rfl
        have e : cellOf env n = pure c := by unfold cellOf; rw [show env.cells.lookup n = some c from hc]
        simp only [beq_self_eq_true, if_true, e, pure_bind]
        rw [ih _ hr]
        simp only [clOf, beq_self_eq_true, if_true, show env.cells.lookup n = some c from hc, Option.getD_some]
      · have hb : (k == NameKind.free) = false := by simpa using hk
        simp only [hb, Bool.false_eq_true, if_false, pure_bind]
        rw [ih _ hr]
        simp only [clOf, hb, Bool.false_eq_true, if_false]
  have q := all scope.names [] h
  unfold closureFor
  simp only [bind_pure] at q ⊢
  exact q
theorem clOf_mem {env : Env} : ∀ {l : List (Str × NameKind)} {acc : List (Str × Addr)} {x : Str} {c : Addr}, (∀ y ∈ l, y.2 = .free → ∃ c, env.cells.lookup y.1 = some c) →
    (∀ x c, (x, c) ∈ acc → env.cells.lookup x = some c) → (x, c) ∈ clOf env l acc → env.cells.lookup x = some c
  | [], _, _, _, _, ha, h => ha _ _ h
  | (n, k) :: r, acc, x, c, hl, ha, h => by
    refine clOf_mem (l := r) (fun y hy => hl y (List.mem_cons_of_mem _ hy)) (fun x c hm => ?_) h
    by_cases hk : (k == NameKind.free) = true
    · rw [if_pos hk] at hm
      rcases List.mem_cons.mp hm with e | e
      · cases e
        obtain ⟨c', hc⟩ := hl _ List.mem_cons_self (by simpa using hk)
        have hc' : env.cells.lookup n = some c' := hc
        rw [hc']; rfl
      · exact ha _ _ e
    · rw [if_neg hk] at hm; exact ha _ _ hm
theorem clOf_look {env : Env} {l : List (Str × NameKind)} {x : Str} {c : Addr} (hl : ∀ y ∈ l, y.2 = .free → ∃ c, env.cells.lookup y.1 = some c) (h : (clOf env l []).lookup x = some c) : env.cells.lookup x = some c :=
  clOf_mem hl (fun _ _ z => absurd z (by simp)) (PySem.mem_of_lookup h)
theorem clOf_has {env : Env} : ∀ {l : List (Str × NameKind)} {acc : List (Str × Addr)} {x : Str}, ((x, NameKind.free) ∈ l ∨ ∃ c, (x, c) ∈ acc) → ∃ c, (x, c) ∈ clOf env l acc
  | [], _, _, h => h.elim (fun z => absurd z (by simp)) fun z => z
  | (n, k) :: r, acc, x, h => by
    refine clOf_has (l := r) ?_
    rcases h with h | ⟨c, h⟩
    · rcases List.mem_cons.mp h with e | e
      · cases e
        exact .inr ⟨_, by rw [if_pos (by simp)]; exact List.mem_cons_self⟩
      · exact .inl e
    · by_cases hk : (k == NameKind.free) = true
      · exact .inr ⟨c, by rw [if_pos hk]; exact List.mem_cons_of_mem _ h⟩
      · exact .inr ⟨c, by rw [if_neg hk]; exact h⟩
theorem lookup_of_mem_fst {β : Type} : ∀ {l : List (Str × β)} {x : Str} {c : β}, (x, c) ∈ l → ∃ c', l.lookup x = some c'
  | [], _, _, h => nomatch h
  | (n, d) :: r, x, c, h => by
    rw [List.lookup_cons]
    cases e : x == n with
    | true => exact ⟨d, rfl⟩
    | false =>
      rcases List.mem_cons.mp h with q | q
      · cases q; simp at e
      · exact lookup_of_mem_fst q

/-- its block's context: the own names stand ahead of the names around it -/
def cxLC (X : Cx) (scope : Scope) (N : List Str) (C : Addr) (s : Shared) (H : Hp) (fp : List Addr) : Cx :=
  { X with N := N, s₀ := s, H₀ := H, env := compEnvC scope (clOf X.env scope.names []) C X.env, outer := X.stack, ex := fp, fn := fun _ => false, pn := [], xe := fun _ _ => False }
/-- what is asked of the block's scope; esc, EN: the scope and the names around it -/
structure LCScope (esc scope : Scope) (EN N : List Str) (k : Nat) : Prop where
  kind : scope.kind = .function
  nocell : ∀ y ∈ scope.names, y.2 ≠ .cell
  names : ∀ y ∈ scope.names, y.2 = .local → scope.names.lookup y.1 = some .local
  frees : ∀ y ∈ scope.names, y.2 = .free → esc.names.lookup y.1 = some .cell ∨ esc.names.lookup y.1 = some .free
  len : N.length = k + EN.length
  nm : (((N.drop k).zip EN).all fun p => (decide (p.1 = p.2) && decide (scope.names.lookup p.1 = some .free)) || decide (scope.names.lookup p.1 = none)) = true
theorem relabel_lookup {scope : Scope} {env : Env} {x : Str} {k : NameKind} : ∀ {l : List (Str × NameKind)},
    (l.map fun (n, k) => if (k == NameKind.free && env.scope.kind == .function && env.kindOf n == some .cell) then (n, NameKind.cell) else (n, k)).lookup x = some k →
    l.lookup x = some k ∨ (l.lookup x = some .free ∧ k = .cell ∧ env.kindOf x = some .cell)
  | [], h => by simp at h
  | (n, k') :: r, h => by
    have ih := @relabel_lookup scope env x k r
    cases hx : x == n with
    | true =>
      have e : x = n := by simpa using hx
      subst e
      by_cases hc : (k' == NameKind.free && env.scope.kind == .function && env.kindOf x == some .cell) = true
      · simp only [List.map_cons, if_pos hc, List.lookup_cons, hx] at h
        cases h
        have hc2 : (k' = .free ∧ env.scope.kind = .function) ∧ env.kindOf x = some .cell := by simpa using hc
        exact .inr ⟨by simp [List.lookup_cons, hc2.1.1], rfl, hc2.2⟩
      · simp only [List.map_cons, if_neg hc, List.lookup_cons, hx] at h
        exact .inl (by simpa [List.lookup_cons] using h)
    | false =>
      have h' : (r.map fun (n, k) => if (k == NameKind.free && env.scope.kind == .function && env.kindOf n == some .cell) then (n, NameKind.cell) else (n, k)).lookup x = some k := by
        by_cases hc : (k' == NameKind.free && env.scope.kind == .function && env.kindOf n == some .cell) = true
        · simpa only [List.map_cons, if_pos hc, List.lookup_cons, hx] using h
        · simpa only [List.map_cons, if_neg hc, List.lookup_cons, hx] using h
      rw [List.lookup_cons, hx]
      exact ih h'
theorem relabel_free {scope : Scope} {env : Env} {x : Str} : ∀ {l : List (Str × NameKind)}, l.lookup x = some .free →
    (l.map fun (n, k) => if (k == NameKind.free && env.scope.kind == .function && env.kindOf n == some .cell) then (n, NameKind.cell) else (n, k)).lookup x = some .cell ∨
    (l.map fun (n, k) => if (k == NameKind.free && env.scope.kind == .function && env.kindOf n == some .cell) then (n, NameKind.cell) else (n, k)).lookup x = some .free
  | [], h => by simp at h
  | (n, k') :: r, h => by
    have ih := @relabel_free scope env x r
    cases hx : x == n with
    | true =>
      by_cases hc : (k' == NameKind.free && env.scope.kind == .function && env.kindOf n == some .cell) = true
      · exact .inl (by simp only [List.map_cons, if_pos hc, List.lookup_cons, hx])
      · refine .inr ?_
        simp only [List.map_cons, if_neg hc, List.lookup_cons, hx]
        simpa only [List.lookup_cons, hx] using h
    | false =>
      have h' : r.lookup x = some .free := by simpa only [List.lookup_cons, hx] using h
      by_cases hc : (k' == NameKind.free && env.scope.kind == .function && env.kindOf n == some .cell) = true
      · simpa only [List.map_cons, if_pos hc, List.lookup_cons, hx] using ih h'
      · simpa only [List.map_cons, if_neg hc, List.lookup_cons, hx] using ih h'

section
variable {X : Cx} {pins : List (Addr × Obj)} {σ : St} {H : Hp} {s : Shared} {scope : Scope} {N : List Str} {k : Nat} {fp : List Addr}
theorem LCScope.cells (S : LCScope X.env.scope scope X.N N k) (ok : X.Ok) : ∀ y ∈ scope.names, y.2 = .free → ∃ c, X.env.cells.lookup y.1 = some c := fun y hy hf => ok.has y.1 (S.frees y hy hf)
/-- the block begins: the heap is s's with the block's own dict at C -/
theorem Inv.lcStart {h4 : Heap} {tk : Nat} (I : Inv X pins σ H s) (S : LCScope X.env.scope scope X.N N k) (hf : ∀ b ∈ fp, FpOk X pins H b) (hlt : ∀ b ∈ fp, b < s.heap.objs.size) (hn : h4.Ns s.heap.objs.size fun _ => none) (hk : ∀ b o, s.heap.get? b = some o → h4.get? b = some o) :
    Inv (cxLC X scope N s.heap.objs.size s H fp) [] (List.replicate k none ++ σ) H { s with heap := h4, toks := tk } := by
  have hcells := S.cells I.ok
  have noA : ∀ p : Addr × Obj, p ∈ (cxLC X scope N s.heap.objs.size s H fp).pn ++ [] → False := fun p hp => absurd (show p ∈ ([] : List (Addr × Obj)) from hp) (by simp)
  refine ⟨⟨I.ok.mod, S.kind, I.ok.glob, I.ok.blt, Nat.le_refl _, fun y z c h1 h2 => ?_, fun y hy => ?_, fun y c h => ?_, I.ok.hd, I.ok.frames, .inl rfl, fun b hb => ?_, I.bs, Nat.le_trans I.ok.bsz I.sz, fun b o e hb => ?_, fun b hb hz => ?_, I.stack, I.stkFree⟩,
    rfl, I.bare, Un.kept hk, ⟨_, hn, fun i y v h1 h2 h3 => ?_⟩, fun y c h => ?_, I.hok.fresh (Nat.le_refl _), fun y c h => ?_, fun p hp => (noA p hp).elim, I.hok.kept hk, ?_⟩
  · exact I.ok.inj y z c (clOf_look hcells h1) (clOf_look hcells h2)
  · have hy : (relabel scope X.env).names.lookup y = some .cell ∨ (relabel scope X.env).names.lookup y = some .free := hy
    have hfree : scope.names.lookup y = some .free := by
      rcases hy with q | q
      · rcases relabel_lookup (scope := scope) q with q | ⟨q, _⟩
        · exact absurd rfl (S.nocell _ (PySem.mem_of_lookup q))
        · exact q
      · rcases relabel_lookup (scope := scope) q with q | ⟨q, z, _⟩
        · exact q
        · cases z
    obtain ⟨c, hc⟩ := clOf_has (env := X.env) (l := scope.names) (acc := []) (.inl (PySem.mem_of_lookup hfree))
    exact lookup_of_mem_fst hc
  · exact absurd h (by show ¬ (false = true); decide)
  · obtain ⟨f0, f1, f2, f3, f4, f5⟩ := hf b hb
    exact ⟨Nat.ne_of_lt (hlt b hb), fun x c h => f4 x c (clOf_look hcells h)⟩
  · obtain ⟨f0, f1, f2, f3, f4, f5⟩ := hf b hb
    rcases f3 with q | q
    · exact I.ok.noex b o e q
    · exact absurd (Nat.lt_of_lt_of_le (Heap.lt_size (I.ok.bs b o e).1) q) (Nat.lt_irrefl _)
  · obtain ⟨f0, f1, f2, f3, f4, f5⟩ := hf b hb
    rcases List.mem_cons.mp (I.stkSub b hz) with z | z
    · exact f1 z
    · exact f2 z
  · -- a name that is seen here and has a value stands in a cell around
    have hi : k ≤ i := by
      refine Nat.le_of_not_lt fun q => ?_
      rw [List.getElem?_append_left (by simpa using q), List.getElem?_replicate] at h2
      split at h2 <;> cases h2
    obtain ⟨j, rfl⟩ := Nat.exists_eq_add_of_le hi
    have h2' : σ[j]? = some (some v) := by
      rw [List.getElem?_append_right (by simp)] at h2
      simpa using h2
    have hy : (relabel scope X.env).names.lookup y = some .local ∨ (relabel scope X.env).names.lookup y = some .cell ∨ (relabel scope X.env).names.lookup y = some .free := h3
    have hjn : j < X.N.length := by
      have := (List.getElem?_eq_some_iff.mp h2').1
      rw [I.len] at this
      exact this
    have hyn : N[k + j]? = some y := h1
    have hnm := List.all_eq_true.mp S.nm (y, X.N[j]) (by
      refine List.mem_iff_getElem?.mpr ⟨j, ?_⟩
      rw [List.getElem?_zip_eq_some]
      exact ⟨by rw [List.getElem?_drop]; exact hyn, by simp [hjn]⟩)
    have hvis : scope.names.lookup y ≠ none := by
      rcases hy with q | q | q
      · rcases relabel_lookup (scope := scope) q with q | ⟨q, _⟩ <;> rw [q] <;> simp
      · rcases relabel_lookup (scope := scope) q with q | ⟨q, _⟩ <;> rw [q] <;> simp
      · rcases relabel_lookup (scope := scope) q with q | ⟨q, _⟩ <;> rw [q] <;> simp
    have hnm2 : y = X.N[j] ∧ scope.names.lookup y = some .free := by
      rcases (Bool.or_eq_true _ _).mp hnm with q | q
      · exact ⟨of_decide_eq_true ((Bool.and_eq_true _ _).mp q).1, of_decide_eq_true ((Bool.and_eq_true _ _).mp q).2⟩
      · exact absurd (of_decide_eq_true q) hvis
    obtain ⟨hyj, hfree⟩ := hnm2
    have hk2 := S.frees _ (PySem.mem_of_lookup hfree) rfl
    have hvis2 : Vis X.env.scope y := .inr hk2
    obtain ⟨m, hm, hl⟩ := I.loc
    obtain ⟨u, ru, lk⟩ := hl j y v (by rw [hyj]; simp [hjn]) h2' hvis2
    refine ⟨u, ru, ?_⟩
    rcases lk with ⟨q, _⟩ | ⟨_, c, hc, hcell⟩
    · rcases hk2 with z | z
      · exact absurd (q.symm.trans (show X.env.kindOf y = some .cell from z)) (by simp)
      · exact absurd (q.symm.trans (show X.env.kindOf y = some .free from z)) (by simp)
    · refine .inr ⟨relabel_free (scope := scope) hfree, c, ?_, hcell.keeps hk⟩
      obtain ⟨c', hc'⟩ := clOf_has (env := X.env) (l := scope.names) (acc := []) (.inl (PySem.mem_of_lookup hfree))
      obtain ⟨c2, hc2⟩ := lookup_of_mem_fst hc'
      have q := clOf_look hcells hc2
      rw [hc] at q; cases q
      exact hc2
  · obtain ⟨v, q⟩ := I.cell y c (clOf_look hcells h)
    exact ⟨v, q.keeps hk⟩
  · exact I.freeC y c (clOf_look hcells h)
  · show (List.replicate k none ++ σ).length = N.length
    rw [List.length_append, List.length_replicate, S.len, I.len]
end
end L2

namespace L2
open PySem PySem.Spec PyProof.Rows
section
variable {prog : Program} {w : World} {A : Around} {R : Result → Shared → Prop} {s : Shared}
theorem notedNo {env : Env} {R : Value → Shared → Prop} : ∀ (x : Value) (s' : Shared), False → notedBy (model prog w) A env R x s' := fun _ _ h => h.elim
/-- the loop of a list comprehension whose turns never raise -/
theorem compLoop_any {elt target iter : Expr} {ifs : List Expr} {scope : Scope} {pos : Pos} {it acc : Value} {env : Env} (I : Nat → Shared → Prop)
    (turn : ∀ n s, I n s → wpAny (model prog w) A (pyNext it) (fun r s₁ => match r with
      | none => R (.ok .next) s₁
      | some v => wpAny (model prog w) A (letOwnedTupleGo target it v) (fun _ s₁' => wpAny (model prog w) A (assign target env v) (fun _ s₂ =>
          wpAny (model prog w) A (forIn ifs true fun c r => if r = true then do let ok ← isTrue c env (eval c env); pure (ForInStep.yield ok) else pure (ForInStep.yield r)) (fun ok s₃ =>
            if ok = true then wpAny (model prog w) A (eval elt env) (fun x s₄ =>
              wpAny (model prog w) A (call (.builtin "list.append") [acc, x]) (fun _ s₅ => ∃ m, m < n ∧ I m s₅) (fun _ _ => False) s₄) (fun _ _ => False) s₃
            else ∃ m, m < n ∧ I m s₃) (fun _ _ => False) s₂) (fun _ _ => False) s₁') (fun _ _ => False) s₁) (fun _ _ => False) s)
    (n : Nat) (h : I n s) :
    codeAny (model prog w) A (.compLoop (.ListComp elt [⟨target, iter, ifs, 0⟩] scope pos) 0 it acc env) R s := by
  refine codeAny_loop rfl I (fun n s hI => ?_) n h
  show wpAny _ A ((compTurn (.ListComp elt [⟨target, iter, ifs, 0⟩] scope pos) 0 it acc env).onRaise (fun x => do noteFrame x env; theTreesLotGoes x)) _ _ s
  refine wpAny_noted ?_
  rw [compTurn_list]
  refine wpAny_bind (wpAny_standAt (wpAny_bind (wpAny_mono (turn n s hI) (fun r s₁ h₁ => ?_) notedNo)))
  cases r with
  | none => exact wpAny_pure h₁
  | some v =>
    refine wpAny_bind (wpAny_mono h₁ (fun _ s₁' h₁' => ?_) notedNo)
    refine wpAny_bind (wpAny_mono h₁' (fun _ s₂ h₂ => wpAny_bind (wpAny_mono h₂ (fun ok s₃ h₃ => ?_) notedNo)) notedNo)
    cases ok with
    | false => exact wpAny_pure ⟨rfl, h₃⟩
    | true =>
      exact wpAny_bind (wpAny_bind (wpAny_mono h₃ (fun x s₄ h₄ => wpAny_bind (wpAny_mono h₄ (fun _ s₅ h₅ => wpAny_pure (wpAny_pure ⟨rfl, h₅⟩)) notedNo)) notedNo))
end
/-- the tests of a clause -/
def PTs (X : Cx) (ifs : List Expr) (t : TT) : Prop :=
  ∀ (pins : List (Addr × Obj)) (s : Shared) (σ : St) (H : Hp) (Q : Bool → Hp → Prop), Inv X pins σ H s → t σ H Q →
    wpAny (model X.prog X.w) X.A (forIn ifs true fun c r => if r = true then do let ok ← isTrue c X.env (eval c X.env); pure (ForInStep.yield ok) else pure (ForInStep.yield r)) (TP X pins σ Q) X.xe s
def tYes : TT := fun _ H Q => Q true H
theorem pts_nil {X : Cx} : PTs X [] tYes := fun _ _ _ H _ I h => wpAny_tests_nil ⟨H, I, h⟩
theorem pts_one {X : Cx} {c : Expr} {t : TT} (h : PT X c t) : PTs X [c] t := fun pins s σ H Q I q => wpAny_tests_one (h pins s σ H Q I q)
/-- what a list comprehension reads: W the invariant by the turn and a measure, the list at D -/
def LCW (J : It) (g : TG) (tt : TT) (te : TE) (k : Nat) (D : Addr) (σ : St) (H1 : Hp) (Q : Hp → Prop) : Prop :=
  ∃ W : Nat → Nat → St → Hp → Prop, (∃ m, W 0 m (List.replicate k none ++ σ) (upd H1 D (.lst []))) ∧ ∀ i m σ' H', W i m σ' H' →
    (J.stop i H' ∧ Q H') ∨ (J.go i H' ∧ ∃ N : St → Hp → Prop, (∀ σ2 H2, N σ2 H2 → ∃ m', m' < m ∧ W (i + 1) m' σ2 H2) ∧
      ∀ x H2, J.yld i H' x H2 → g x σ' H2 fun σ3 H3 => tt σ3 H3 fun b H4 => if b = true then te σ3 H4 fun v H5 => ∃ xs, H5 D = some (.lst xs) ∧ xs.length < sizeLine ∧ N σ3 (upd H5 D (.lst (xs ++ [v]))) else N σ3 H4)
def tLC (wi : TI) (g : TG) (tt : TT) (te : TE) (k : Nat) : TE := fun σ H Q => wi σ H fun J H1 => ∀ D, H1 D = none → LCW J g tt te k D σ H1 fun H2 => Q (.ref D) H2

section
variable {X : Cx} {tg elt iter : Expr} {ifs : List Expr} {scope : Scope} {pos : Pos} {wi : TI} {g : TG} {tt : TT} {te : TE} {N : List Str} {k : Nat}
/-- the block: RR is what is wanted of the block's end -/
theorem lc_block {pins : List (Addr × Obj)} {σ : St} {H2 : Hp} {s2 : Shared} {it : Addr} {fp : List Addr} {tn : Nat → Heap → Prop} {J : It} {E : Value → Shared → Prop} {QD : Addr → Hp → Prop} {RR : Value → Addr → Result → Shared → Prop}
    (hc : X.calm = true) (S : LCScope X.env.scope scope X.N N k) (hg : ∀ C s H fp, PG (cxLC X scope N C s H fp) tg g) (ht : ∀ C s H fp, PTs (cxLC X scope N C s H fp) ifs tt) (he : ∀ C s H fp, PE (cxLC X scope N C s H fp) elt te)
    (I2 : Inv X pins σ H2 s2) (T : Turn X.prog X.w X.K tg J fp it tn) (st2 : tn 0 s2.heap) (f2 : ∀ b ∈ fp, FpOk X pins H2 b) (q : ∀ D, H2 D = none → LCW J g tt te k D σ H2 (QD D))
    (hRR : ∀ (D C : Addr) (s' : Shared) (H' : Hp) (m : Str → Option Value), s2.heap.objs.size < C → Inv X pins σ H' s' → s'.heap.Ns C m → H' C = none → C ≠ X.env.locals → C ∉ X.fs → X.s₀.heap.objs.size ≤ C → (∀ x c, X.env.cells.lookup x = some c → c ≠ C) → (∀ p ∈ X.pn ++ pins, p.1 ≠ C) → QD D H' → RR (.ref D) C (.ok .next) s') :
    wpAny (model X.prog X.w) X.A (newList []) (fun acc s₃ => wpAny (model X.prog X.w) X.A (newFunctionEnv scope X.env.globals (clOf X.env scope.names []) [] X.env.qual none .none (some X.env)) (fun cenv s₄ =>
      codeAny (model X.prog X.w) X.A (.compStart (.ListComp elt [⟨tg, iter, ifs, 0⟩] scope pos) 0 (.ref it) acc { cenv with scope := relabel scope X.env }) (RR acc cenv.locals) s₄) E s₃) E s2 := by
  have hD : H2 s2.heap.objs.size = none := I2.hok.fresh (Nat.le_refl _)
  obtain ⟨W, ⟨m0, w0⟩, turn⟩ := q _ hD
  refine wpAny_newObj_type ?_
  have I3 : Inv X pins σ (upd H2 s2.heap.objs.size (.lst [])) { s2 with heap := s2.heap.push { cls := .type "list", dict := none, data := .seq ([] : List Value).toArray } } := by
    refine I2.laid (t' := s2.toks) (fun b u e => Heap.get?_push_of_some _ e) (Nat.le_refl _) ?_
    exact ⟨Nat.zero_le _, [], 0, .nil, Heap.get?_push_size _ rfl⟩
  have k3 : ∀ b o, s2.heap.get? b = some o → (s2.heap.push { cls := .type "list", dict := none, data := .seq ([] : List Value).toArray }).get? b = some o := fun b o e => Heap.get?_push_of_some _ e
  generalize hs3 : ({ s2 with heap := s2.heap.push { cls := .type "list", dict := none, data := .seq ([] : List Value).toArray } } : Shared) = s3 at I3 ⊢
  have hsz : s3.heap.objs.size = s2.heap.objs.size + 1 := by rw [← hs3]; exact Heap.size_push ..
  have k3' : ∀ b o, s2.heap.get? b = some o → s3.heap.get? b = some o := by rw [← hs3]; exact k3
  generalize hDe : s2.heap.objs.size = D at *
  have fpD : ∀ b ∈ fp, b < D := fun b hb => by
    obtain ⟨o, e, _⟩ := T.obj _ _ st2 b hb
    rw [← hDe]; exact Heap.lt_size e
  have f3 : ∀ b ∈ fp, FpOk X pins (upd H2 D (.lst [])) b := fun b hb => by
    refine ⟨?_, (f2 b hb).2⟩
    rw [upd_ne (Nat.ne_of_lt (fpD b hb))]
    exact (f2 b hb).1
  refine wpAny_newFunctionEnv S.nocell (by intro y hy; simp at hy) (fun h4 hn4 hs4 => ?_) S.kind
  try dsimp only at hn4 hs4 ⊢
  have k4 : ∀ b o, s3.heap.get? b = some o → h4.get? b = some o := fun b o e => hs4.extBut b o (Nat.ne_of_lt (Heap.lt_size e)) (Heap.get?_push_of_some _ e)
  have I4 := I3.lcStart (h4 := h4) (tk := s3.toks + 0) S f3 (fun b hb => by rw [hsz]; exact Nat.lt_succ_of_lt (fpD b hb)) hn4 k4
  have st4 : tn 0 h4 := T.keep _ _ _ st2 fun b hb o e => k4 b o (k3' b o e)
  have fr4 : ∀ b ∈ fp, (upd H2 D (.lst [])) b = none := fun b hb => (f3 b hb).1
  generalize hC : s3.heap.objs.size = C at *
  have hX : ∀ (H' : Hp), (∀ b ∈ fp, H' b = none) → ∀ b ∈ fp, FpOk (cxLC X scope N C s3 (upd H2 D (.lst [])) fp) [] H' b := fun H' hn b hb => by
    obtain ⟨g0, g1, g2, g3, g4, g5⟩ := f3 b hb
    refine ⟨hn b hb, ?_, ?_, .inl hb, ?_, fun p hp => absurd (show p ∈ ([] : List (Addr × Obj)) from hp) (by simp)⟩
    · exact Nat.ne_of_lt (Nat.lt_of_lt_of_eq (Nat.lt_succ_of_lt (fpD b hb)) hsz.symm)
    · intro z
      rcases List.mem_cons.mp (I3.stkSub b z) with z | z
      · exact g1 z
      · exact g2 z
    · intro x c h
      exact g4 x c (clOf_look (S.cells I3.ok) h)
  have fin : ∀ (s' : Shared) (σ' : St) (H' : Hp), Inv (cxLC X scope N C s3 (upd H2 D (.lst [])) fp) [] σ' H' s' → QD D H' → RR (.ref D) C (.ok .next) s' := by
    intro s' σ' H' I' qd
    obtain ⟨m, hm, _⟩ := id I'.loc
    have IX : Inv X pins σ H' s' := by
      refine I3.call' (s' := s') (ch := fp) I'.os I'.base I'.hok I'.bare fun b hb => ?_
      obtain ⟨g0, g1, g2, g3, g4, g5⟩ := f3 b hb
      exact ⟨g3, g1, g4, g5⟩
    have hlt := I3.lt
    rw [hC] at hlt
    refine hRR D C s' H' m (Nat.lt_of_lt_of_eq (Nat.lt_succ_self D) hsz.symm) IX hm I'.free (Nat.ne_of_gt hlt) (I3.nofs (Nat.le_of_eq hC)) (Nat.le_trans I3.sz (Nat.le_of_eq hC)) (fun x c e z => ?_) (fun p hp z => ?_) qd
    · obtain ⟨v, hv⟩ := I3.cell x c e
      have q := hv.lt
      rw [hC, z] at q
      exact Nat.lt_irrefl _ q
    · have q := Heap.lt_size (I3.pin p hp).1
      rw [hC, z] at q
      exact Nat.lt_irrefl _ q
  have loop : ∀ s₀ : Shared, s₀ = { s3 with heap := h4, toks := s3.toks + ([] : List (Str × Value)).length } →
      codeAny (model X.prog X.w) X.A (.compLoop (.ListComp elt [⟨tg, iter, ifs, 0⟩] scope pos) 0 (.ref it) (.ref D) (compEnvC scope (clOf X.env scope.names []) C X.env)) (RR (.ref D) C) s₀ := by
    rintro s₀ rfl
    refine compLoop_any (fun n s' => ∃ i σ' H', Inv (cxLC X scope N C s3 (upd H2 D (.lst [])) fp) [] σ' H' s' ∧ tn i s'.heap ∧ (∀ b ∈ fp, H' b = none) ∧ W i n σ' H') ?_ m0 ⟨0, _, _, I4, st4, fr4, w0⟩
    rintro n s5 ⟨i, σ5, H5, I5, st5, fr5, w5⟩
    rcases turn i n σ5 H5 w5 with ⟨stop, qn⟩ | ⟨go, NN, hN, step⟩
    · refine thn (T.done (cxLC X scope N C s3 (upd H2 D (.lst [])) fp) rfl rfl rfl hc i [] s5 σ5 H5 _ I5 (hX _ fr5) st5 stop) fun r s6 ⟨hr, I6⟩ => ?_
      subst hr
      exact fin s6 σ5 H5 I6 qn
    · refine thn (T.item (cxLC X scope N C s3 (upd H2 D (.lst [])) fp) rfl rfl rfl hc i [] s5 σ5 H5 _ I5 (hX _ fr5) st5 go) fun r s6 ⟨u, hr, h6⟩ => ?_
      subst hr
      refine thn h6 fun _ s7 ⟨x, H7, I7, r7, y7, st7, fr7⟩ => ?_
      have I7' := I7.pinned (hX _ fr7) (T.obj _ _ st7)
      have back : ∀ {s9 : Shared} {σ9 : St} {H9 : Hp}, Inv (cxLC X scope N C s3 (upd H2 D (.lst [])) fp) ([] ++ pinsAt fp s7.heap) σ9 H9 s9 → NN σ9 H9 → ∃ m, m < n ∧ ∃ i σ' H', Inv (cxLC X scope N C s3 (upd H2 D (.lst [])) fp) [] σ' H' s9 ∧ tn i s9.heap ∧ (∀ b ∈ fp, H' b = none) ∧ W i m σ' H' := fun {s9 σ9 H9} I9 n9 => by
        obtain ⟨m', hm, w9⟩ := hN σ9 H9 n9
        refine ⟨m', hm, i + 1, σ9, H9, I9.unpinned, T.keep _ _ _ st7 fun b hb o e => (I9.pin (b, o) (List.mem_append_right _ (List.mem_append_right _ (mem_pinsAt hb e)))).1, fun b hb => ?_, w9⟩
        obtain ⟨o, e, d⟩ := T.obj _ _ st7 b hb
        exact (I9.pin (b, o) (List.mem_append_right _ (List.mem_append_right _ (mem_pinsAt hb e)))).2.1
      refine thn (hg C s3 _ fp _ s7 σ5 H7 x u _ I7' r7 (step x H7 y7)) fun _ s8 ⟨σ8, H8, I8, q8⟩ => ?_
      refine thn (ht C s3 _ fp _ s8 σ8 H8 _ I8 q8) fun ok s9 ⟨H9, I9, q9⟩ => ?_
      cases ok with
      | false =>
        rw [if_neg Bool.false_ne_true] at q9
        rw [if_neg Bool.false_ne_true]
        exact back I9 q9
      | true =>
        rw [if_pos rfl] at q9
        rw [if_pos rfl]
        refine thn (he C s3 _ fp _ s9 σ8 H9 _ I9 q9) fun y s10 ⟨v, H10, I10, r10, q10⟩ => ?_
        obtain ⟨xs, hD10, hz, qN⟩ := q10
        refine thn (mt_append (X := cxLC X scope N C s3 (upd H2 D (.lst [])) fp) _ s10 σ8 H10 (.ref D) [v] (.ref D) [y] (fun _ H' => NN σ8 H') I10 rfl (.cons r10 .nil) ⟨D, xs, v, rfl, rfl, hD10, hz, qN⟩) fun _ s11 ⟨_, H11, I11, _, q11⟩ => ?_
        exact back I11 q11
  exact codeAny_compStart_list (loop _ rfl) (T.self _ 0 _ _ _ st4 (loop _ rfl))
/-- [elt for tg in iter if ..] -/
theorem pe_lc {esc : Scope} {EN : List Str} (hc : X.calm = true) (S : LCScope esc scope EN N k) (h1 : X.env.scope = esc) (h2 : X.N = EN) (hi : PI X tg iter wi) (hg : ∀ C s H fp, PG (cxLC X scope N C s H fp) tg g) (ht : ∀ C s H fp, PTs (cxLC X scope N C s H fp) ifs tt) (he : ∀ C s H fp, PE (cxLC X scope N C s H fp) elt te)
    (hs : ∀ x, foldedSetIterable iter X.env x = pure x := by intro _; rfl) : PE X (.ListComp elt [⟨tg, iter, ifs, 0⟩] scope pos) (tLC wi g tt te k) := by
  subst h1 h2
  intro pins s σ H Q I h
  rw [eval_ListComp]
  refine wpAny_comprehension_free (use := none) rfl hs (closureFor_clOf (S.cells I.ok)) S.kind S.names (thn (hi pins s σ H _ I h) fun v s1 h1 => thn h1 fun itv s2 h2 => ?_)
  obtain ⟨it, fp, tn, J, H2, e, I2, T, st2, f2, q⟩ := h2
  subst e
  refine lc_block (RR := fun acc C => compPost (model X.prog X.w) X.A X.xe none (EP X pins σ Q) acc C) hc S hg ht he I2 T st2 f2 q ?_
  intro D C s' H' m hC IX hm hn hL hF hS hcell hp qd
  refine ⟨m, hm, fun h' sb => ?_⟩
  exact ⟨.ref D, H', IX.turned (t' := s'.toks) (fun b o hb e => sb.extBut b o hb e) hn hL (.inr hS) hcell hp, rfl, qd⟩
/-- name = [elt for tg in iter if ..] -/
def sLC (wi : TI) (g : TG) (tt : TT) (te : TE) (k i : Nat) : TS := fun D σ H => tLC wi g tt te k σ H fun v H1 => D.nx (σ.set i (some v)) H1
theorem ps_lc {esc : Scope} {EN : List Str} {i : Nat} {y : Str} {py spos : Pos} (hN : X.N.Nodup) (hi' : X.N[i]? = some y) (hy : Loc X.env.scope y) (hc : X.calm = true) (S : LCScope esc scope EN N k) (h1 : X.env.scope = esc) (h2 : X.N = EN) (hi : PI X tg iter wi) (hg : ∀ C s H fp, PG (cxLC X scope N C s H fp) tg g) (ht : ∀ C s H fp, PTs (cxLC X scope N C s H fp) ifs tt) (he : ∀ C s H fp, PE (cxLC X scope N C s H fp) elt te)
    (hsw : swapsWith (.ListComp elt [⟨tg, iter, ifs, 0⟩] scope pos) (some (.Name y py)) spos.line X.env = pure true := by rfl)
    (hs : ∀ x, foldedSetIterable iter X.env x = pure x := by intro _; rfl) (hf : X.fn y = true ∨ X.env.scope.names.lookup y = some .local := by first | exact .inl rfl | exact .inr rfl | assumption) :
    PS X (.Assign [.Name y py] (.ListComp elt [⟨tg, iter, ifs, 0⟩] scope pos) spos) (sLC wi g tt te k i) := by
  subst h1 h2
  intro pins s σ H D0 I h
  rw [exec_Assign_Name_used _ _ _ _ hsw]
  refine wpAny_bind (wpAny_standAt (wpAny_bind ?_))
  show wpAny _ X.A (do let _ ← comprehension (.ListComp elt [⟨tg, iter, ifs, 0⟩] scope pos) scope X.env _ (newList []) false (eval iter X.env) (some (assign (.Name y py) X.env))) _ _ s
  refine wpAny_bind (wpAny_mono (wpAny_comprehension_free (use := some (assign (.Name y py) X.env)) (Q := fun _ s' => SP X pins D0 .next s') rfl hs (closureFor_clOf (S.cells I.ok)) S.kind S.names
    (thn (hi pins s σ H _ I h) fun v s1 h1 => thn h1 fun itv s2 h2 => ?_)) (fun _ s' hq => wpAny_pure (wpAny_pure hq)) fun _ _ e => e)
  obtain ⟨it, fp, tn, J, H2, e, I2, T, st2, f2, q⟩ := h2
  subst e
  refine lc_block (RR := fun acc C => compPost (model X.prog X.w) X.A X.xe (some (assign (.Name y py) X.env)) (fun _ s' => SP X pins D0 .next s') acc C) hc S hg ht he I2 T st2 f2 q ?_
  intro D C s' H' m hC IX hm hn hL hF hS hcell hp qd
  show wpAny _ X.A (assign (.Name y py) X.env (.ref D)) _ _ _
  obtain ⟨o, es, ep, ho, hd, hr⟩ := id hm
  have IP : Inv X (pins ++ [(C, o)]) σ H' s' := IX.pins_of fun p hp => by
    rcases List.mem_append.mp hp with z | z
    · exact IX.pin p (List.mem_append_right _ z)
    · obtain rfl : p = (C, o) := List.mem_singleton.mp z
      exact ⟨ho, hn, hL, hF, fun v z => by rw [hd] at z; cases z⟩
  refine wpAny_assign_Name (store_ok IP hN hi' hy (v := .ref D) (u := .ref D) rfl (fun s'' I'' => ?_) hf)
  have hC2 := (I''.pin (C, o) (List.mem_append_right _ (List.mem_append_right _ (List.mem_singleton.mpr rfl)))).1
  refine ⟨m, ⟨o, es, ep, hC2, hd, hr⟩, fun h' sb => ?_⟩
  exact ⟨_, H', (I''.unpinned).turned (t' := s''.toks) (fun b o hb e => sb.extBut b o hb e) hn hL (.inr hS) hcell hp, qd⟩
end
end L2

namespace L2
open PySem PySem.Spec PyProof.Rows

/-! ### data: what is made of None, truths, numbers, texts, tuples and lists -/
inductive D where
  | non | bl (b : Bool) | int (i : Int) | str (x : Str) | tup (xs : List D) | lst (xs : List D)
mutual
/-- == of data -/
def D.eqv : D → D → Bool
  | .non, .non => true
  | .bl a, .bl b => a == b
  | .bl a, .int b => (if a then 1 else 0) == b
  | .int a, .bl b => a == (if b then 1 else 0)
  | .int a, .int b => a == b
  | .str a, .str b => a == b
  | .tup xs, .tup ys => D.eqvs xs ys
  | .lst xs, .lst ys => D.eqvs xs ys
  | _, _ => false
def D.eqvs : List D → List D → Bool
  | [], [] => true
  | x :: xs, y :: ys => D.eqv x y && D.eqvs xs ys
  | _, _ => false
end
mutual
theorem D.eqv_refl : ∀ d : D, D.eqv d d = true
  | .non => rfl
  | .bl a => by simp [D.eqv]
  | .int a => by simp [D.eqv]
  | .str a => by simp [D.eqv]
  | .tup xs => by simp only [D.eqv]; exact D.eqvs_refl xs
  | .lst xs => by simp only [D.eqv]; exact D.eqvs_refl xs
theorem D.eqvs_refl : ∀ ds : List D, D.eqvs ds ds = true
  | [] => rfl
  | d :: ds => by simp only [D.eqvs, D.eqv_refl d, D.eqvs_refl ds, Bool.and_self]
end
mutual
def D.depth : D → Nat
  | .tup xs => D.depths xs + 1
  | .lst xs => D.depths xs + 1
  | _ => 0
def D.depths : List D → Nat
  | [] => 0
  | x :: xs => max (D.depth x) (D.depths xs)
end
mutual
/-- v stands for d in the abstract heap -/
inductive Rep (H : Hp) : V → D → Prop
  | non : Rep H .non .non
  | bl (b : Bool) : Rep H (.bl b) (.bl b)
  | int (i : Int) : Rep H (.int i) (.int i)
  | str (x : Str) : Rep H (.str x) (.str x)
  | tup {a : Addr} {vs : List V} {ds : List D} : H a = some (.tup vs) → Reps H vs ds → Rep H (.ref a) (.tup ds)
  | lst {a : Addr} {vs : List V} {ds : List D} : H a = some (.lst vs) → Reps H vs ds → Rep H (.ref a) (.lst ds)
inductive Reps (H : Hp) : List V → List D → Prop
  | nil : Reps H [] []
  | cons {v : V} {d : D} {vs : List V} {ds : List D} : Rep H v d → Reps H vs ds → Reps H (v :: vs) (d :: ds)
end
theorem Reps.length {H : Hp} : ∀ {vs : List V} {ds : List D}, Reps H vs ds → vs.length = ds.length
  | _, _, .nil => rfl
  | _, _, .cons _ t => by simp [Reps.length t]
theorem Reps.get {H : Hp} : ∀ {vs : List V} {ds : List D} {i : Nat} {v : V}, Reps H vs ds → vs[i]? = some v → ∃ d, ds[i]? = some d ∧ Rep H v d
  | _, _, _, _, .nil, e => by simp at e
  | _, _, 0, _, .cons r _, e => by simp at e; subst e; exact ⟨_, rfl, r⟩
  | _, _, i + 1, v, .cons _ t, e => by
    obtain ⟨d, h1, h2⟩ := Reps.get (i := i) (v := v) t (by simpa using e)
    exact ⟨d, by simpa using h1, h2⟩
theorem Reps.get' {H : Hp} : ∀ {vs : List V} {ds : List D} {i : Nat} {d : D}, Reps H vs ds → ds[i]? = some d → ∃ v, vs[i]? = some v ∧ Rep H v d
  | _, _, _, _, .nil, e => by simp at e
  | _, _, 0, _, .cons r _, e => by simp at e; subst e; exact ⟨_, rfl, r⟩
  | _, _, i + 1, v, .cons _ t, e => by
    obtain ⟨d, h1, h2⟩ := Reps.get' (i := i) (d := v) t (by simpa using e)
    exact ⟨d, by simpa using h1, h2⟩
theorem Reps.append {H : Hp} : ∀ {vs us : List V} {ds es : List D}, Reps H vs ds → Reps H us es → Reps H (vs ++ us) (ds ++ es)
  | _, _, _, _, .nil, s => s
  | _, _, _, _, .cons r t, s => .cons r (Reps.append t s)
theorem Reps.take {H : Hp} : ∀ {vs : List V} {ds : List D} (n : Nat), Reps H vs ds → Reps H (vs.take n) (ds.take n)
  | _, _, 0, _ => .nil
  | _, _, _ + 1, .nil => .nil
  | _, _, n + 1, .cons r t => .cons r (Reps.take n t)
theorem Reps.drop {H : Hp} : ∀ {vs : List V} {ds : List D} (n : Nat), Reps H vs ds → Reps H (vs.drop n) (ds.drop n)
  | _, _, 0, r => r
  | _, _, _ + 1, .nil => .nil
  | _, _, n + 1, .cons _ t => Reps.drop n t
theorem Reps.reverse {H : Hp} : ∀ {vs : List V} {ds : List D}, Reps H vs ds → Reps H vs.reverse ds.reverse
  | _, _, .nil => .nil
  | _, _, .cons r t => by rw [List.reverse_cons, List.reverse_cons]; exact (Reps.reverse t).append (.cons r .nil)
mutual
theorem Rep.mono {H H' : Hp} (e : Same H H') : ∀ {v : V} {d : D}, Rep H v d → Rep H' v d
  | _, _, .non => .non
  | _, _, .bl b => .bl b
  | _, _, .int i => .int i
  | _, _, .str x => .str x
  | _, _, .tup h r => .tup (e _ _ h) (Reps.mono e r)
  | _, _, .lst h r => .lst (e _ _ h) (Reps.mono e r)
theorem Reps.mono {H H' : Hp} (e : Same H H') : ∀ {vs : List V} {ds : List D}, Reps H vs ds → Reps H' vs ds
  | _, _, .nil => .nil
  | _, _, .cons r t => .cons (Rep.mono e r) (Reps.mono e t)
end
mutual
theorem Rep.inj {H : Hp} : ∀ {v : V} {d e : D}, Rep H v d → Rep H v e → d = e
  | _, _, _, .non, .non => rfl
  | _, _, _, .bl _, .bl _ => rfl
  | _, _, _, .int _, .int _ => rfl
  | _, _, _, .str _, .str _ => rfl
  | _, _, _, .tup h r, .tup h' r' => by rw [h] at h'; cases h'; rw [Reps.inj r r']
  | _, _, _, .tup h r, .lst h' r' => by rw [h] at h'; cases h'
  | _, _, _, .lst h r, .tup h' r' => by rw [h] at h'; cases h'
  | _, _, _, .lst h r, .lst h' r' => by rw [h] at h'; cases h'; rw [Reps.inj r r']
theorem Reps.inj {H : Hp} : ∀ {vs : List V} {ds es : List D}, Reps H vs ds → Reps H vs es → ds = es
  | _, _, _, .nil, .nil => rfl
  | _, _, _, .cons r t, .cons r' t' => by rw [Rep.inj r r', Reps.inj t t']
end
theorem Reps.ints {H : Hp} : ∀ (ns : List Int), Reps H (ns.map V.int) (ns.map D.int)
  | [] => .nil
  | n :: ns => .cons (.int n) (Reps.ints ns)
theorem Reps.of_ints {H : Hp} : ∀ {vs : List V} {ns : List Int}, Reps H vs (ns.map D.int) → vs = ns.map V.int
  | [], [], .nil => rfl
  | v :: vs, n :: ns, .cons r t => by
    cases r
    rw [List.map_cons, Reps.of_ints t]
theorem D.eqvs_range : ∀ (ds es : List D), D.eqvs ds es = ((List.range (min ds.length es.length)).all (fun j => D.eqv (ds.getD j .non) (es.getD j .non)) && ds.length == es.length)
  | [], [] => rfl
  | [], e :: es => by simp [D.eqvs]
  | d :: ds, [] => by simp [D.eqvs]
  | d :: ds, e :: es => by
    have ih := D.eqvs_range ds es
    have q : min (d :: ds).length (e :: es).length = min ds.length es.length + 1 := by simp only [List.length_cons]; omega
    rw [q, List.range_succ_eq_map, List.all_cons, List.all_map]
    have z : ((d :: ds).length == (e :: es).length) = (ds.length == es.length) := by
      rw [Bool.eq_iff_iff]; simp
    rw [z, D.eqvs, ih, Bool.and_assoc]
    rfl
theorem D.depths_get : ∀ {ds : List D} {i : Nat} {d : D}, ds[i]? = some d → D.depth d ≤ D.depths ds
  | [], _, _, e => by simp at e
  | x :: xs, 0, d, e => by
    simp at e; subst e
    exact Nat.le_max_left _ _
  | x :: xs, i + 1, d, e => Nat.le_trans (D.depths_get (ds := xs) (i := i) (by simpa using e)) (Nat.le_max_right _ _)

section
variable {X : Cx}
/-- == of two data by the model -/
theorem eqAt_D {pins : List (Addr × Obj)} {σ : St} {H : Hp} {s : Shared} (I : Inv X pins σ H s) : ∀ (n : Nat) (A : Around) (x y : V) (u v : Value) (d e : D), A.units + n < cLine → D.depth d ≤ n → RelV x u → RelV y v → Rep H x d → Rep H y e →
    SeqAt.EqAt A s u v (D.eqv d e) := by
  intro n
  induction n with
  | zero =>
    intro A x y u v d e hu hd ru rv rx ry
    have hu' : A.units < cLine := by omega
    cases rx with
    | tup h r => simp [D.depth] at hd
    | lst h r => simp [D.depth] at hd
    | non =>
      cases ry with
      | tup h r =>
        cases ru; cases rv
        obtain ⟨its, rv, p, hz⟩ := I.tuple (SqT.of h)
        exact SeqAt.EqAt.none_tuple p hu'
      | lst h r =>
        cases ru; cases rv
        obtain ⟨its, rv, p, hz⟩ := I.list (SqL.of h)
        exact SeqAt.EqAt.none_list p.isList hu'
      | _ => simp only [D.eqv]; exact eqAt_V ru rv rfl rfl
    | bl a =>
      cases ry with
      | tup h r =>
        cases ru; cases rv
        obtain ⟨its, rv, p, hz⟩ := I.tuple (SqT.of h)
        exact SeqAt.EqAt.bool_tuple a p hu'
      | lst h r =>
        cases ru; cases rv
        obtain ⟨its, rv, p, hz⟩ := I.list (SqL.of h)
        exact SeqAt.EqAt.bool_list a p.isList hu'
      | _ => simp only [D.eqv]; exact eqAt_V ru rv rfl rfl
    | int a =>
      cases ry with
      | tup h r =>
        obtain ⟨t, rfl⟩ := ru; cases rv
        obtain ⟨its, rv, p, hz⟩ := I.tuple (SqT.of h)
        exact SeqAt.EqAt.int_tuple a t p hu'
      | lst h r =>
        obtain ⟨t, rfl⟩ := ru; cases rv
        obtain ⟨its, rv, p, hz⟩ := I.list (SqL.of h)
        exact SeqAt.EqAt.int_list a t p.isList hu'
      | _ => simp only [D.eqv]; exact eqAt_V ru rv rfl rfl
    | str a =>
      cases ry with
      | tup h r =>
        obtain ⟨t, rfl⟩ := ru; cases rv
        obtain ⟨its, rv, p, hz⟩ := I.tuple (SqT.of h)
        exact SeqAt.EqAt.str_tuple a t p hu'
      | lst h r =>
        obtain ⟨t, rfl⟩ := ru; cases rv
        obtain ⟨its, rv, p, hz⟩ := I.list (SqL.of h)
        exact SeqAt.EqAt.str_list a t p.isList hu'
      | _ => simp only [D.eqv]; exact eqAt_V ru rv rfl rfl
  | succ n ih =>
    intro A x y u v d e hu hd ru rv rx ry
    have hu' : A.units < cLine := by omega
    have items : ∀ {vs us : List V} {ds es : List D} {its its2 : List Value}, D.depths ds ≤ n → Vals vs its → Vals us its2 → Reps H vs ds → Reps H us es →
        ∀ j (h1 : j < its.toArray.size) (h2 : j < its2.toArray.size), SeqAt.EqAt A.in1 s its.toArray[j] its2.toArray[j] (D.eqv (ds.getD j .non) (es.getD j .non)) := by
      intro vs us ds es its its2 hdd r1 r2 q1 q2 j h1 h2
      have h1' : j < its.length := by simpa using h1
      have h2' : j < its2.length := by simpa using h2
      have l1 := r1.length
      have l2 := r2.length
      have m1 := q1.length
      have m2 := q2.length
      have e1 : vs[j]? = some (vs[j]'(by omega)) := List.getElem?_eq_getElem _
      have e2 : us[j]? = some (us[j]'(by omega)) := List.getElem?_eq_getElem _
      obtain ⟨a1, b1, c1⟩ := r1.get e1
      obtain ⟨a2, b2, c2⟩ := r2.get e2
      obtain ⟨f1, g1, k1⟩ := q1.get e1
      obtain ⟨f2, g2, k2⟩ := q2.get e2
      have z1 : its.toArray[j] = a1 := by
        have : its[j]? = some its[j] := List.getElem?_eq_getElem h1'
        rw [b1] at this
        simpa using (Option.some.inj this).symm
      have z2 : its2.toArray[j] = a2 := by
        have : its2[j]? = some its2[j] := List.getElem?_eq_getElem h2'
        rw [b2] at this
        simpa using (Option.some.inj this).symm
      rw [z1, z2, List.getD_eq_getElem?_getD, List.getD_eq_getElem?_getD, g1, g2]
      refine ih A.in1 _ _ _ _ _ _ ?_ (Nat.le_trans (D.depths_get g1) hdd) c1 c2 k1 k2
      show A.units + 1 + n < cLine
      omega
    cases rx with
    | @tup a vs ds h r =>
      obtain ⟨its, rv1, p, hz⟩ := I.tuple (SqT.of h)
      cases ry with
      | @tup b us es h' r' =>
        cases ru; cases rv
        obtain ⟨its2, rv2, p2, hz2⟩ := I.tuple (SqT.of h')
        by_cases hab : a = b
        · subst hab
          rw [h] at h'; cases h'
          rw [Reps.inj r' r, D.eqv_refl]
          exact SeqAt.EqAt.same _
        · have hdd : D.depths ds ≤ n := by simp only [D.depth] at hd; omega
          have q := SeqAt.EqAt.of_refs hab (SeqAt.RcAt.tuples (e := fun j => D.eqv (ds.getD j .non) (es.getD j .non)) p p2 hu' (items hdd rv1 rv2 r r'))
          rw [List.size_toArray, List.size_toArray, ← rv1.length, ← rv2.length, r.length, r'.length, ← D.eqvs_range] at q
          simp only [D.eqv]
          exact q
      | @lst b us es h' r' =>
        cases ru; cases rv
        obtain ⟨its2, rv2, p2, hz2⟩ := I.list (SqL.of h')
        simp only [D.eqv]
        exact SeqAt.EqAt.tuple_list p p2.isList hu'
      | non => cases ru; cases rv; simp only [D.eqv]; exact SeqAt.EqAt.tuple_none p hu'
      | bl c => cases ru; cases rv; simp only [D.eqv]; exact SeqAt.EqAt.tuple_bool c p hu'
      | int c => cases ru; obtain ⟨t, rfl⟩ := rv; simp only [D.eqv]; exact SeqAt.EqAt.tuple_int c t p hu'
      | str c => cases ru; obtain ⟨t, rfl⟩ := rv; simp only [D.eqv]; exact SeqAt.EqAt.tuple_str c t p hu'
    | @lst a vs ds h r =>
      obtain ⟨its, rv1, p, hz⟩ := I.list (SqL.of h)
      cases ry with
      | @lst b us es h' r' =>
        cases ru; cases rv
        obtain ⟨its2, rv2, p2, hz2⟩ := I.list (SqL.of h')
        by_cases hab : a = b
        · subst hab
          rw [h] at h'; cases h'
          rw [Reps.inj r' r, D.eqv_refl]
          exact SeqAt.EqAt.same _
        · have hdd : D.depths ds ≤ n := by simp only [D.depth] at hd; omega
          have l1 := rv1.length
          have l2 := rv2.length
          have m1 := r.length
          have m2 := r'.length
          by_cases hl : ds.length = es.length
          · have q := SeqAt.EqAt.of_refs hab (SeqAt.RcAt.lists (e := fun j => D.eqv (ds.getD j .non) (es.getD j .non)) p.isList p2.isList (by simp; omega) hu' (items hdd rv1 rv2 r r'))
            have z : D.eqvs ds es = (List.range its.toArray.size).all fun j => D.eqv (ds.getD j .non) (es.getD j .non) := by
              rw [D.eqvs_range, ← hl, Nat.min_self, List.size_toArray, ← l1, m1]
              simp
            simp only [D.eqv]
            rw [z]
            exact q
          · have q := SeqAt.EqAt.of_refs hab (SeqAt.RcAt.lists_lengths p.isList p2.isList (by simp; omega) hu')
            have z : D.eqvs ds es = false := by
              rw [D.eqvs_range]
              simp [hl]
            simp only [D.eqv]
            rw [z]
            exact q
      | @tup b us es h' r' =>
        cases ru; cases rv
        obtain ⟨its2, rv2, p2, hz2⟩ := I.tuple (SqT.of h')
        simp only [D.eqv]
        exact SeqAt.EqAt.list_tuple p.isList p2 hu'
      | non => cases ru; cases rv; simp only [D.eqv]; exact SeqAt.EqAt.list_none p.isList hu'
      | bl c => cases ru; cases rv; simp only [D.eqv]; exact SeqAt.EqAt.list_bool c p.isList hu'
      | int c => cases ru; obtain ⟨t, rfl⟩ := rv; simp only [D.eqv]; exact SeqAt.EqAt.list_int c t p.isList hu'
      | str c => cases ru; obtain ⟨t, rfl⟩ := rv; simp only [D.eqv]; exact SeqAt.EqAt.list_str c t p.isList hu'
    | non => exact SeqAt.EqAt.of_in1 (ih A.in1 _ y u v _ e (by show A.units + 1 + n < cLine; omega) (by simp [D.depth]) ru rv .non ry)
    | bl c => exact SeqAt.EqAt.of_in1 (ih A.in1 _ y u v _ e (by show A.units + 1 + n < cLine; omega) (by simp [D.depth]) ru rv (.bl c) ry)
    | int c => exact SeqAt.EqAt.of_in1 (ih A.in1 _ y u v _ e (by show A.units + 1 + n < cLine; omega) (by simp [D.depth]) ru rv (.int c) ry)
    | str c => exact SeqAt.EqAt.of_in1 (ih A.in1 _ y u v _ e (by show A.units + 1 + n < cLine; omega) (by simp [D.depth]) ru rv (.str c) ry)
end
end L2

namespace L2
open PySem PySem.Spec PyProof.Rows
section
variable {X : Cx}
/-! ### is, is not, of truths -/
def rIsB : R2 := fun x y H Q => ∃ a b, x = .bl a ∧ y = .bl b ∧ Q (.bl (a == b)) H
def rIsntB : R2 := fun x y H Q => ∃ a b, x = .bl a ∧ y = .bl b ∧ Q (.bl (a != b)) H
theorem op_is_bl : OpR X (compareOp .Is) rIsB := by
  intro pins s σ H x y v u Q I rx ry h
  obtain ⟨a, b, rfl, rfl, q⟩ := h
  cases rx; cases ry
  exact is_bool ⟨.bl _, H, I, rfl, q⟩
theorem op_isnt_bl : OpR X (compareOp .IsNot) rIsntB := by
  intro pins s σ H x y v u Q I rx ry h
  obtain ⟨a, b, rfl, rfl, q⟩ := h
  cases rx; cases ry
  exact isnot_bool ⟨.bl _, H, I, rfl, q⟩

/-! ### isinstance by data -/
def isT (T : String) : D → Bool
  | .non => false
  | .bl _ => T == "bool" || T == "int"
  | .int _ => T == "int"
  | .str _ => T == "str"
  | .tup _ => T == "tuple"
  | .lst _ => T == "list"
def okT (T : String) : Bool := T == "bool" || T == "int" || T == "str" || T == "tuple" || T == "list"
theorem tyRep {K : PySem.W.Frag} {H : Hp} {x : V} {d : D} {T : String} (r : Rep H x d) (h : okT T = true) : ∃ t, TyOf K H x t ∧ PySem.W.kitOne K t (.type T) = some (isT T d) := by
  have h5 : T = "bool" ∨ T = "int" ∨ T = "str" ∨ T = "tuple" ∨ T = "list" := by simpa [okT, or_assoc] using h
  cases r with
  | non => exact ⟨_, .non, by rcases h5 with e | e | e | e | e <;> subst e <;> first | rfl | kernel_rfl⟩
  | bl b => exact ⟨_, .bl b, by rcases h5 with e | e | e | e | e <;> subst e <;> first | rfl | kernel_rfl⟩
  | int i => exact ⟨_, .int i, by rcases h5 with e | e | e | e | e <;> subst e <;> first | rfl | kernel_rfl⟩
  | str x => exact ⟨_, .str x, by rcases h5 with e | e | e | e | e <;> subst e <;> first | rfl | kernel_rfl⟩
  | tup h r => exact ⟨_, .tup h, by rcases h5 with e | e | e | e | e <;> subst e <;> first | rfl | kernel_rfl⟩
  | lst h r => exact ⟨_, .lst h, by rcases h5 with e | e | e | e | e <;> subst e <;> first | rfl | kernel_rfl⟩
def tIsT (T : String) (te : TE) : TE := fun σ H Q => te σ H fun x H1 => ∃ d, Rep H1 x d ∧ Q (.bl (isT T d)) H1
theorem pe_isinst {e : Expr} {te : TE} {nm : Str} {T : String} {p p2 pos : Pos} (hg : Gl X "isinstance") (hm : X.mg "isinstance" = none) (hg2 : Gl X nm) (hm2 : X.mg nm = none) (hv : bootBuiltins nm = some (.type T)) (ho : okT T = true) (ha : PE X e te)
    (hn : nm ≠ "__name__" := by decide) (hd : (nm == ("__debug__" : Str)) = false := by decide) (hb : bootBuiltins "isinstance" = some (.builtin "isinstance") := by decide +kernel)
    (he : starEach [e, .Name nm p2] X.env = (false, eval e X.env) :: starEach [.Name nm p2] X.env := by rfl) (hs2 : starEach [.Name nm p2] X.env = (false, eval (.Name nm p2) X.env) :: starEach [] X.env := by rfl) (hpl : (backTo pos (starEach [.Name nm p2] X.env)).any (·.1) = false := by rfl) :
    PE X (.Call (.Name "isinstance" p) [e, .Name nm p2] [] pos) (tIsT T te) := by
  intro pins s σ H Q I h
  have hT : PE X (.Name nm p2) (tC (.ty T)) := pe_bltn hg2 hm2 hv rfl hn hd
  refine wpAny_Call_Name_kw (ld_blt I hg hm hb ?_ (by decide) (by decide))
  refine PyProof.Rows.callWith_builtin1 (thn ((pa_cons ha (pa_cons hT pa_nil hs2) he) pos pins s σ H (fun vs H1 => ∃ x d, vs = [x, .ty T] ∧ Rep H1 x d ∧ Q (.bl (isT T d)) H1) I ?_) fun us s1 ⟨vs, H1, I1, r1, q1⟩ => ?_) he hpl
  · refine (show te σ H fun x H1 => _ from ?_)
    refine cast (congrArg (te σ H) ?_) h
    funext x H1
    refine propext ⟨fun ⟨d, r, q⟩ => ⟨x, d, rfl, r, q⟩, fun ⟨x', d, e, r, q⟩ => ?_⟩
    cases e
    exact ⟨d, r, q⟩
  · obtain ⟨x, d, e, r, q⟩ := q1
    subst e
    obtain ⟨u, w', rfl, ru, rw'⟩ := r1.two
    obtain ⟨t, ty, k⟩ := tyRep (K := X.K) r ho
    cases (show w' = Value.type T from rw')
    exact isinst_ok I1 ru ty k fun tk => ⟨.bl _, H1, I1.tok tk, rfl, q⟩

/-! ### ==, != of data -/
def rEqD : R2 := fun x y H Q => ∃ d e, Rep H x d ∧ Rep H y e ∧ D.depth d ≤ 50 ∧ Q (.bl (D.eqv d e)) H
def rNeD : R2 := fun x y H Q => ∃ d e, Rep H x d ∧ Rep H y e ∧ D.depth d ≤ 50 ∧ Q (.bl (!D.eqv d e)) H
end
end L2

namespace L2
open PySem PySem.Spec PyProof.Rows
section
variable {X : Cx} {pins : List (Addr × Obj)} {σ : St} {H : Hp} {s : Shared} {h' : Heap} {fp : List Addr}
/-- records of ours have turned, and a new object is laid and tracked -/
theorem Inv.turnLaid {a : Addr} {o : HO} {t' : Nat} (I : Inv X pins σ H s) (ha : s.heap.objs.size ≤ a) (hk : ∀ b u, b ∉ fp → s.heap.get? b = some u → h'.get? b = some u) (hf : ∀ b ∈ fp, FpOk X pins H b) (new : ObjOk X.prog X.w (upd H a o) h' a o) :
    Inv X pins σ (upd H a o) { s with heap := h', toks := t' } := by
  have hn : H a = none := I.hok.fresh ha
  have nfp : ∀ b u, H b = some u → b ∉ fp := fun b u e z => by
    have q := (hf b z).1
    rw [e] at q
    cases q
  have hne : ∀ b (u : Obj), s.heap.get? b = some u → b ≠ a := fun b u e => Nat.ne_of_lt (Nat.lt_of_lt_of_le (Heap.lt_size e) ha)
  refine I.step (g' := s.gens) (d' := s.drawn) (ch := fp) (fun b hb => ?_) (fun b u _ _ hc e _ => hk b u hc e) (fun b u _ _ hc e _ => ⟨u.slots, hk b u hc e⟩) (fun b u _ e n => ?_)
    (fun b u hc e => ⟨u, hk b u hc e⟩) (fun b xs e => ?_) (fun b u xs e => ?_) (fun b ps e => ⟨#[], ?_⟩) (fun m hm => ?_) (fun b u e => ?_) I.bare
  · obtain ⟨f0, f1, f2, f3, f4, f5⟩ := hf b hb
    exact ⟨f3, f1, f4, f5⟩
  · rw [upd_ne (hne b u e)]; exact n
  · rw [upd_ne (ne_of_none e hn)]; exact e
  · rw [upd_ne (ne_of_none e hn)]; exact e
  · rw [upd_ne (ne_of_none e hn), e]; simp
  · obtain ⟨u, es, ep, ho, r⟩ := hm
    exact ⟨u, es, ep, hk _ u (fun z => (hf _ z).2.1 rfl) ho, r⟩
  · by_cases hb : b = a
    · subst hb; rw [upd_same] at e; cases e; exact new
    · rw [upd_ne hb] at e
      refine (I.hok b u e).stay (fun c v hc q => hk c v ?_ q) (fun c q => by rw [upd_ne (ne_of_none q hn)]; exact q) fun c xs q => by rw [upd_ne (ne_of_none q hn)]; exact q
      rcases hc with z | z
      · rw [z]; exact nfp b u e
      · exact nfp c _ z
/-- records of ours have turned -/
theorem Inv.turnedN {t' : Nat} (I : Inv X pins σ H s) (hk : ∀ b u, b ∉ fp → s.heap.get? b = some u → h'.get? b = some u) (hf : ∀ b ∈ fp, FpOk X pins H b) : Inv X pins σ H { s with heap := h', toks := t' } := by
  have nfp : ∀ b u, H b = some u → b ∉ fp := fun b u e z => by
    have q := (hf b z).1
    rw [e] at q
    cases q
  refine I.step (g' := s.gens) (d' := s.drawn) (ch := fp) (fun b hb => ?_) (fun b u _ _ hc e _ => hk b u hc e) (fun b u _ _ hc e _ => ⟨u.slots, hk b u hc e⟩) (fun b u _ e n => n)
    (fun b u hc e => ⟨u, hk b u hc e⟩) (fun b xs e => e) (fun b u xs e => e) (fun b ps e => ⟨#[], ?_⟩) (fun m hm => ?_) (fun b u e => ?_) I.bare
  · obtain ⟨f0, f1, f2, f3, f4, f5⟩ := hf b hb
    exact ⟨f3, f1, f4, f5⟩
  · rw [e]; simp
  · obtain ⟨u, es, ep, ho, r⟩ := hm
    exact ⟨u, es, ep, hk _ u (fun z => (hf _ z).2.1 rfl) ho, r⟩
  · refine (I.hok b u e).stay (fun c v hc q => hk c v ?_ q) (fun _ q => q) fun _ _ q => q
    rcases hc with z | z
    · rw [z]; exact nfp b u e
    · exact nfp c _ z
end

/-! ### enumerate(xs), xs a list, taken apart by the target -/
def Ite (K : PySem.W.Frag) (l : Addr) : It :=
  ⟨fun i H => ∃ xs x, SqL K H l xs ∧ xs[i]? = some x, fun i H x H' => ∃ p y, H p = none ∧ x = .ref p ∧ H' = upd H p (.tup [.int i, y]) ∧ ∀ xs, SqL K H l xs → xs[i]? = some y, fun i H => ∃ xs, SqL K H l xs ∧ xs.length ≤ i⟩
theorem turn_enum {P : Program} {w : World} {K : PySem.W.Frag} {es : List Expr} {kk : Nat} {tp : Pos} (l e it : Addr) (hne : e ≠ it) :
    Turn P w K (.Tuple es kk tp) (Ite K l) [e, it] e (fun i h => (∃ old, IsEnum h e it ((i : Nat) : Int) old) ∧ h.IsListIter it l i) where
  mem := by simp
  obj := fun i h st b hb => by
    obtain ⟨⟨old, he⟩, hit⟩ := st
    rcases List.mem_cons.mp hb with z | z
    · subst z; exact ⟨_, he, fun v z => by
        have z' : Data.fields _ = Data.cell v := z
        cases z'⟩
    · have z : b = it := List.mem_singleton.mp z
      subst z
      obtain ⟨o, q, _, d⟩ := hit
      exact ⟨o, q, fun v z => by rw [d] at z; cases z⟩
  keep := fun i h h' st k => by
    obtain ⟨⟨old, he⟩, hit⟩ := st
    exact ⟨⟨old, k e (by simp) _ he⟩, hit.at fun o q => k it (by simp) o q⟩
  item := by
    intro X hP hw hK hc i pins s σ H E I hf st hg
    subst hP hw hK
    obtain ⟨⟨old, he⟩, hit⟩ := st
    obtain ⟨xs, x, hq, hx⟩ := hg
    obtain ⟨its, rv, p, hz⟩ := I.list hq
    obtain ⟨u, hu, ru⟩ := rv.get hx
    refine wpAny_pyNext_enum_item he hit p.isList (x := u) (by simpa using hu) hne fun h1 ho1 hit1 ht1 hz1 hk1 => ?_
    refine ⟨_, rfl, wpAny_letOwnedTupleGo_enum (s := { s with heap := h1, toks := s.toks + 1 }) ho1 fun h2 he2 hs2 => ?_⟩
    have helt : e < s.heap.objs.size := Heap.lt_size he
    have ht2 : h2.get? s.heap.objs.size = some { cls := .type "tuple", data := .seq #[.int i s.toks, u] } := hs2.extBut _ _ (Nat.ne_of_gt helt) ht1
    have k2 : ∀ b o, b ∉ [e, it] → s.heap.get? b = some o → h2.get? b = some o := fun b o hb q => by
      have hb1 : b ≠ e := fun z => hb (by simp [z])
      have hb2 : b ≠ it := fun z => hb (by simp [z])
      exact hs2.extBut b o hb1 (hk1 b o hb1 hb2 q)
    have I2 : Inv X pins σ (upd H s.heap.objs.size (.tup [.int i, x])) { s with heap := h2, toks := s.toks + 1 } := by
      refine I.turnLaid (fp := [e, it]) (Nat.le_refl _) k2 hf ?_
      exact ⟨by show 2 ≤ sizeLine; decide, [.int i s.toks, u], .cons ⟨_, rfl⟩ (.cons ru .nil), ⟨_, ht2, rfl, _, rfl⟩⟩
    refine ⟨.ref s.heap.objs.size, _, I2, rfl, ⟨s.heap.objs.size, x, I.hok.fresh (Nat.le_refl _), rfl, rfl, fun ys hy => by rw [I.list_inj hy hq]; exact hx⟩, ⟨⟨_, by simpa using he2⟩, ?_⟩, fun b hb => ?_⟩
    · exact hit1.extBut hs2.extBut (Ne.symm hne)
    · have hlt : b < s.heap.objs.size := by
        rcases List.mem_cons.mp hb with z | z
        · rw [z]; exact helt
        · have z : b = it := List.mem_singleton.mp z
          subst z
          obtain ⟨o, q, _⟩ := hit
          exact Heap.lt_size q
      rw [upd_ne (Nat.ne_of_lt hlt)]
      exact (hf b hb).1
  done := by
    intro X hP hw hK hc i pins s σ H E I hf st hg
    subst hP hw hK
    obtain ⟨⟨old, he⟩, hit⟩ := st
    obtain ⟨xs, hq, hx⟩ := hg
    obtain ⟨its, rv, p, hz⟩ := I.list hq
    have hl := rv.length
    obtain ⟨f0, f1, f2, f3, f4, f5⟩ := hf it (by simp)
    exact wpAny_pyNext_enum_end (I.ok.hd hc) he hit p.isList (by simp; omega) fun h' eb => ⟨rfl, I.turned (t' := s.toks) (fun b o hb e => eb b o hb e) f0 f1 f3 f4 f5⟩
  self := fun _ _ _ _ _ st h => by
    obtain ⟨⟨old, he⟩, _⟩ := st
    exact wpAny_pyIter_enum he h
def iEnum (K : PySem.W.Frag) (tl : TE) : TI := fun σ H R => tl σ H fun x H1 => ∃ a, x = .ref a ∧ (∃ xs, SqL K H1 a xs) ∧ R (Ite K a) H1
section
variable {X : Cx}
theorem pi_enum {es : List Expr} {kk : Nat} {tp : Pos} {l : Expr} {tl : TE} {p pos : Pos} (hg : Gl X "enumerate") (hm : X.mg "enumerate" = none) (hl : PE X l tl) (hb : bootBuiltins "enumerate" = some (.type "enumerate") := by decide +kernel)
    (hs : starEach [l] X.env = [(false, eval l X.env)] := by rfl) : PI X (.Tuple es kk tp) (.Call (.Name "enumerate" p) [l] [] pos) (iEnum X.K tl) := by
  intro pins s σ H R I h
  refine Call_ (ld_blt I hg hm hb (PyProof.Rows.callWith_type1 (thn ((pa_cons hl pa_nil hs) pos pins s σ H (fun vs H1 => ∃ x, vs = [x] ∧ ∃ a, x = .ref a ∧ (∃ xs, SqL X.K H1 a xs) ∧ R (Ite X.K a) H1) I ?_) fun us s1 ⟨vs, H1, I1, r1, q1⟩ => ?_) hs rfl))
  · refine cast (congrArg (tl σ H) ?_) h
    funext x H1
    refine propext ⟨fun q => ⟨x, rfl, q⟩, fun ⟨x', e, q⟩ => ?_⟩
    cases e
    exact q
  · obtain ⟨x, e, a, e2, ⟨xs, hq⟩, q⟩ := q1
    subst e e2
    obtain ⟨u, rfl, ru⟩ := vals1 r1
    cases ru
    obtain ⟨its, rv, pl, hz⟩ := I1.list hq
    refine call_enumerate_list pl.isList fun h' he hit hsz hk => ?_
    refine wpAny_pyIter_enum (s := { s1 with heap := h' }) he ?_
    have I2 : Inv X pins σ H1 { s1 with heap := h' } := I1.kept (t' := s1.toks) hk
    refine ⟨s1.heap.objs.size + 1, [s1.heap.objs.size + 1, s1.heap.objs.size], _, _, H1, rfl, I2, turn_enum a _ _ (Nat.succ_ne_self _), ⟨⟨_, he⟩, hit⟩, fun b hb => ?_, q⟩
    have hle : s1.heap.objs.size ≤ b := by
      rcases List.mem_cons.mp hb with z | z
      · rw [z]; exact Nat.le_succ _
      · rw [List.mem_singleton.mp z]; exact Nat.le_refl _
    exact I1.fpOk hle (I1.hok.fresh hle)
end
end L2

namespace L2
open PySem PySem.Spec PyProof.Rows
/-! ### the next item of a tuple's iterator, drawn by another iterator -/
section
variable {prog : Program} {w : World} {A : Around} {E : Value → Shared → Prop} {s : Shared}
theorem drawT_item {it t : Addr} {i : Nat} {items : Array Value} {x : Value} {Q : Value → Shared → Prop} (hit : s.heap.IsTupleIter it t i) (ht : s.heap.IsTuple t items) (hx : items[i]? = some x)
    (hQ : ∀ h', h'.IsTupleIter it t (i + 1) → Heap.SameBut it s.heap h' → Q x { s with heap := h' }) : wpAny (model prog w) A (Builtin.SmallTypes.nextOf (.ref it)) Q E s := by
  obtain ⟨o, ho, hc, hd⟩ := id hit
  obtain ⟨ot, hot, _, nt, hdt⟩ := ht
  unfold Builtin.SmallTypes.nextOf
  refine wpAny_bind (wpAny_callSpecial?_slot (name := Str.ofString "__next__") hit.typeIs F.slot_tuple_iterator_next (wpAny_call_entry F.slot_tuple_iterator_next hit.typeIs F.entry_tuple_iterator_next ?_ (F.args_tuple_iterator_next_1 _)))
  refine (show wpAny _ _ (field (.ref it) 0 >>= _) _ _ s from wpAny_bind (wpAny_field ho hd (x := .ref t) rfl ?_))
  show wpAny _ _ (if (Value.ref t == Value.none) = true then _ else _) _ _ s
  rw [if_neg (by intro z; exact Bool.false_ne_true z)]
  refine (show wpAny _ _ (field (.ref it) 1 >>= _) _ _ s from wpAny_bind (wpAny_field ho hd (x := .int i 0) rfl ?_))
  refine (show wpAny _ _ (seqItems? (.ref t) >>= _) _ _ s from wpAny_bind (wpAny_seqItems hot hdt ?_))
  simp only [Int.toNat_natCast, hx]
  refine wpAny_bind (wpAny_setField ho hd (by simp) (wpAny_pure ⟨x, rfl, wpAny_pure (hQ _ ⟨_, Heap.get?_update_self _ ho (Obj.isFreed_of_fields (Obj.data_mapFields hd _)), (Obj.cls_mapFields ..).trans hc, ?_⟩ (Heap.SameBut.update ..))⟩))
  rw [Obj.data_mapFields hd]; simp [rawInt]
theorem drawT_end {it t : Addr} {i : Nat} {items : Array Value} {Q : Value → Shared → Prop} (hh : A.handled = none) (hit : s.heap.IsTupleIter it t i) (ht : s.heap.IsTuple t items) (hx : items[i]? = none)
    (hE : ∀ h' e, Heap.ExtBut it s.heap h' → (∃ o, h'.get? e = some o ∧ o.cls = .type "StopIteration") → E (.ref e) { s with heap := h' }) : wpAny (model prog w) A (Builtin.SmallTypes.nextOf (.ref it)) Q E s := by
  obtain ⟨o, ho, hc, hd⟩ := id hit
  obtain ⟨ot, hot, _, nt, hdt⟩ := ht
  unfold Builtin.SmallTypes.nextOf
  refine wpAny_bind (wpAny_callSpecial?_slot (name := Str.ofString "__next__") hit.typeIs F.slot_tuple_iterator_next (wpAny_call_entry F.slot_tuple_iterator_next hit.typeIs F.entry_tuple_iterator_next ?_ (F.args_tuple_iterator_next_1 _)))
  refine (show wpAny _ _ (field (.ref it) 0 >>= _) _ _ s from wpAny_bind (wpAny_field ho hd (x := .ref t) rfl ?_))
  show wpAny _ _ (if (Value.ref t == Value.none) = true then _ else _) _ _ s
  rw [if_neg (by intro z; exact Bool.false_ne_true z)]
  refine (show wpAny _ _ (field (.ref it) 1 >>= _) _ _ s from wpAny_bind (wpAny_field ho hd (x := .int i 0) rfl ?_))
  refine (show wpAny _ _ (seqItems? (.ref t) >>= _) _ _ s from wpAny_bind (wpAny_seqItems hot hdt ?_))
  simp only [Int.toNat_natCast, hx]
  refine wpAny_bind (wpAny_rule (wpAny_bind (wpAny_setField ho hd (by simp) ?_)))
  refine (show wpAny _ _ (newExc (.type "StopIteration") [] >>= _) _ _ _ from wpAny_bind ?_)
  simp only [newExc, newTuple]
  refine wpAny_bind (wpAny_newObj_type (wpAny_bind (m := firstArgMember _ _) (wpAny_of_eq (a := Value.none) (by first | rfl | (simp only [firstArgMember]; rfl)) (wpAny_newObj_type ?_ (by size_fits)))) (by size_fits))
  simp only [raiseNew]
  refine wpAny_bind (wpAny_handled ?_)
  first | rw [show A.in1.handled = none from hh] | rw [hh]
  exact wpAny_bind (wpAny_pure (wpAny_throw (hE _ _ (((Heap.SameBut.update ..).extBut.push _).push _) ⟨_, Heap.get?_push_size _ rfl, rfl⟩)))
end
theorem drawsT {prog : Program} {w : World} {A : Around} (hh : A.handled = none) (it t : Addr) (hne : t ≠ it) (items : Array Value) :
    Draws prog w A it [it, t] items.size (fun i v => items[i]? = some v) (fun i h => h.IsTupleIter it t i ∧ h.IsTuple t items) where
  live := fun _ _ st => let ⟨o, ho, _⟩ := st.1; ⟨o, ho⟩
  frame := fun _ _ _ st hk => ⟨st.1.at fun o e => hk it (by simp) o e, st.2.at fun o e => hk t (by simp) o e⟩
  item := fun i s Q E hi st hQ => drawT_item st.1 st.2 (x := items[i]) (by simp [hi]) fun h' a b => hQ _ h' s.toks (by simp [hi]) ⟨a, st.2.extBut b.extBut hne⟩ b
  done := fun s Q E st hE => drawT_end hh st.1 st.2 (by simp) hE

/-! ### zip of two things that are drawn -/
structure ZApart (z TI TO i1 i2 : Addr) (fp1 fp2 : List Addr) : Prop where
  TIz : TI ≠ z
  TOz : TO ≠ z
  TITO : TI ≠ TO
  z1 : z ∉ fp1
  z2 : z ∉ fp2
  TO1 : TO ∉ fp1
  TO2 : TO ∉ fp2
  i12 : i1 ∉ fp2
  i21 : i2 ∉ fp1
  m1 : i1 ∈ fp1
  m2 : i2 ∈ fp2
  TI1 : TI ≠ i1
  TI2 : TI ≠ i2
section
variable {prog : Program} {w : World} {A : Around} {E : Value → Shared → Prop} {s : Shared} {z TI TO i1 i2 : Addr} {fp1 fp2 : List Addr} {n1 n2 k : Nat} {P1 P2 : Nat → Value → Prop} {S1 S2 : Nat → Heap → Prop} {a b : Value}
theorem ZApart.i1z (D : ZApart z TI TO i1 i2 fp1 fp2) : i1 ≠ z := fun e => D.z1 (e ▸ D.m1)
theorem ZApart.i2z (D : ZApart z TI TO i1 i2 fp1 fp2) : i2 ≠ z := fun e => D.z2 (e ▸ D.m2)
theorem ZApart.TOi1 (D : ZApart z TI TO i1 i2 fp1 fp2) : TO ≠ i1 := fun e => D.TO1 (e ▸ D.m1)
theorem ZApart.TOi2 (D : ZApart z TI TO i1 i2 fp1 fp2) : TO ≠ i2 := fun e => D.TO2 (e ▸ D.m2)
/-- both have an item -/
theorem zipD_item {Q : Value → Shared → Prop} (D : ZApart z TI TO i1 i2 fp1 fp2) (D1 : Draws prog w A i1 fp1 n1 P1 S1) (D2 : Draws prog w A i2 fp2 n2 P2 S2) (hz : IsZip s.heap z TI TO .none) (hTI : IsPair s.heap TI (.ref i1) (.ref i2)) (hTO : IsPair s.heap TO a b)
    (h1 : S1 k s.heap) (h2 : S2 k s.heap) (l1 : k < n1) (l2 : k < n2)
    (hQ : ∀ x y h' tk, P1 k x → P2 k y → IsZip h' z TI TO (rawInt s.heap.objs.size) → IsPair h' TI (.ref i1) (.ref i2) → IsPair h' TO x y → S1 (k + 1) h' → S2 (k + 1) h' → IsPair h' s.heap.objs.size x y → h'.objs.size = s.heap.objs.size + 1 →
      (∀ c o, c ≠ z → c ≠ TO → c ≠ i1 → c ≠ i2 → s.heap.get? c = some o → h'.get? c = some o) → Q (.ref s.heap.objs.size) { s with heap := h', toks := tk }) :
    wpAny (model prog w) A (Builtin.«zip.__next__» ⟨[.ref z], []⟩) (fun fin s' => ∃ v, fin = .done (.ret v) ∧ Q v s') E s := by
  refine (show wpAny _ _ (field (.ref z) 2 >>= _) _ _ _ from wpAny_bind (wpAny_field hz rfl (x := .bool false) rfl ?_))
  refine (show wpAny _ _ (field (.ref z) 3 >>= _) _ _ _ from wpAny_bind (wpAny_field hz rfl (x := .ref TI) rfl ?_))
  refine wpAny_bind (wpAny_seqItems hTI rfl ?_)
  refine (show wpAny _ _ (Builtin.SmallTypes.ownedTupleIsFree (.ref z) >>= _) _ _ _ from wpAny_bind ?_)
  unfold Builtin.SmallTypes.ownedTupleIsFree
  refine wpAny_bind (wpAny_field hz rfl (x := .none) rfl (wpAny_pure ?_))
  simp only [if_true]
  refine wpAny_bind (wpAny_rule (wpAny_bind (wpAny_field hz rfl (x := .ref TO) rfl ?_)))
  refine wpAny_bind (wpAny_setField_rec hz (by simp) fun g1 hz1 e1 => ?_)
  replace hz1 : IsZip g1 z TI TO .ellipsis := hz1
  replace e1 : Heap.SameBut z s.heap g1 := e1
  refine wpAny_bind ?_
  simp only [List.zipIdx_cons, List.zipIdx_nil, List.forIn_cons, List.forIn_nil]
  refine wpAny_bind (wpAny_bind (wpAny_onRaise ?_))
  have q1 : S1 k g1 := D1.frame _ _ _ h1 fun c hc o q => e1.extBut c o (fun y => D.z1 (y ▸ hc)) q
  have q2 : S2 k g1 := D2.frame _ _ _ h2 fun c hc o q => e1.extBut c o (fun y => D.z2 (y ▸ hc)) q
  refine (show wpAny _ _ (Builtin.SmallTypes.nextOf (.ref i1) >>= _) _ _ _ from wpAny_bind (D1.item k _ _ _ l1 q1 fun x g2 t2 p1 q1' e2 => wpAny_pure ?_))
  replace e2 : Heap.SameBut i1 g1 g2 := e2
  have hTO2 : IsPair g2 TO a b := e2.extBut _ _ D.TOi1 (e1.extBut _ _ D.TOz hTO)
  refine wpAny_bind (wpAny_seqItems hTO2 rfl (wpAny_bind (wpAny_updateSeq_pair hTO2 fun g3 hTO3 e3 => ?_)))
  replace hTO3 : IsPair g3 TO x b := hTO3
  replace e3 : Heap.SameBut TO g2 g3 := e3
  refine wpAny_bind (wpAny_letGo (wpAny_pure ?_))
  refine wpAny_bind (wpAny_bind (wpAny_onRaise ?_))
  have r1 : S1 (k + 1) g3 := D1.frame _ _ _ q1' fun c hc o q => e3.extBut c o (fun y => D.TO1 (y ▸ hc)) q
  have r2 : S2 k g3 := D2.frame _ _ _ q2 fun c hc o q => e3.extBut c o (fun y => D.TO2 (y ▸ hc)) (e2.extBut c o (fun y => D.i12 (y ▸ hc)) q)
  refine (show wpAny _ _ (Builtin.SmallTypes.nextOf (.ref i2) >>= _) _ _ _ from wpAny_bind (D2.item k _ _ _ l2 r2 fun y g4 t4 p2 r2' e4 => wpAny_pure ?_))
  replace e4 : Heap.SameBut i2 g3 g4 := e4
  have hTO4 : IsPair g4 TO x b := e4.extBut _ _ D.TOi2 hTO3
  refine wpAny_bind (wpAny_seqItems hTO4 rfl (wpAny_bind (wpAny_updateSeq_pair hTO4 fun g5 hTO5 e5 => ?_)))
  replace hTO5 : IsPair g5 TO x y := hTO5
  replace e5 : Heap.SameBut TO g4 g5 := e5
  refine wpAny_bind (wpAny_letGo (wpAny_pure (wpAny_pure ?_)))
  refine wpAny_bind (wpAny_seqItems hTO5 rfl (wpAny_bind (wpAny_newTuple ?_)))
  have hsz : g5.objs.size = s.heap.objs.size := by rw [e5.1, e4.1, e3.1, e2.1, e1.1]
  have hz5 : IsZip g5 z TI TO .ellipsis := e5.extBut _ _ D.TOz.symm (e4.extBut _ _ D.i2z.symm (e3.extBut _ _ D.TOz.symm (e2.extBut _ _ D.i1z.symm hz1)))
  have k5 : ∀ c o, c ≠ z → c ≠ TO → c ≠ i1 → c ≠ i2 → s.heap.get? c = some o → g5.get? c = some o := fun c o c1 c2 c3 c4 q =>
    e5.extBut _ _ c2 (e4.extBut _ _ c4 (e3.extBut _ _ c2 (e2.extBut _ _ c3 (e1.extBut _ _ c1 q))))
  have u1 : S1 (k + 1) g5 := D1.frame _ _ _ r1 fun c hc o q => e5.extBut c o (fun y => D.TO1 (y ▸ hc)) (e4.extBut c o (fun y => D.i21 (y ▸ hc)) q)
  have u2 : S2 (k + 1) g5 := D2.frame _ _ _ r2' fun c hc o q => e5.extBut c o (fun y => D.TO2 (y ▸ hc)) q
  have hzl : z < g5.objs.size := Heap.lt_size hz5
  refine (show wpAny _ _ (Builtin.SmallTypes.ownedTupleHandOut (.ref z) (.ref g5.objs.size) >>= _) _ _ _ from wpAny_bind ?_)
  unfold Builtin.SmallTypes.ownedTupleHandOut
  have hz6 : IsZip (g5.push { cls := .type "tuple", data := .seq #[x, y] }) z TI TO .ellipsis := Heap.get?_push_of_some _ hz5
  refine wpAny_bind (wpAny_setField_rec hz6 (by simp) fun g7 hz7 e7 => ?_)
  replace hz7 : IsZip g7 z TI TO (rawInt g5.objs.size) := hz7
  refine wpAny_setField_rec hz7 (by simp) fun g8 hz8 e8 => ?_
  replace hz8 : IsZip g8 z TI TO (rawInt g5.objs.size) := hz8
  replace e7 : Heap.SameBut z (g5.push { cls := .type "tuple", data := .seq #[x, y] }) g7 := e7
  replace e8 : Heap.SameBut z g7 g8 := e8
  have up : ∀ c o, c ≠ z → g5.get? c = some o → g8.get? c = some o := fun c o c1 q => e8.extBut _ _ c1 (e7.extBut _ _ c1 (Heap.get?_push_of_some _ q))
  have hT8 : IsPair g8 g5.objs.size x y := e8.extBut _ _ (Nat.ne_of_gt hzl) (e7.extBut _ _ (Nat.ne_of_gt hzl) (Heap.get?_push_size _ rfl))
  have z8 : g8.objs.size = g5.objs.size + 1 := by rw [e8.1, e7.1, Heap.size_push]
  rw [hsz] at hz8 hT8 z8
  refine wpAny_pure ⟨_, rfl, ?_⟩
  show Q (.ref g5.objs.size) _
  rw [hsz]
  exact hQ x y g8 _ p1 p2 hz8 (up _ _ D.TIz (k5 _ _ D.TIz D.TITO D.TI1 D.TI2 hTI)) (up _ _ D.TOz hTO5) (D1.frame _ _ _ u1 fun c hc o q => up c o (fun y => D.z1 (y ▸ hc)) q) (D2.frame _ _ _ u2 fun c hc o q => up c o (fun y => D.z2 (y ▸ hc)) q) hT8 z8
    fun c o c1 c2 c3 c4 q => up c o c1 (k5 c o c1 c2 c3 c4 q)
/-- one of both is at its end -/
theorem zipD_end {Q : PySem.Fin → Shared → Prop} (D : ZApart z TI TO i1 i2 fp1 fp2) (D1 : Draws prog w A i1 fp1 n1 P1 S1) (D2 : Draws prog w A i2 fp2 n2 P2 S2) (hz : IsZip s.heap z TI TO .none) (hTI : IsPair s.heap TI (.ref i1) (.ref i2)) (hTO : IsPair s.heap TO a b)
    (h1 : S1 k s.heap) (h2 : S2 k s.heap) (hend : k = n1 ∨ (k < n1 ∧ k = n2))
    (hE : ∀ h' e tk, (∀ c o, c ≠ z → c ≠ TO → c ≠ i1 → c ≠ i2 → s.heap.get? c = some o → h'.get? c = some o) → (∃ o, h'.get? e = some o ∧ o.cls = .type "StopIteration") → E (.ref e) { s with heap := h', toks := tk }) :
    wpAny (model prog w) A (Builtin.«zip.__next__» ⟨[.ref z], []⟩) Q E s := by
  refine (show wpAny _ _ (field (.ref z) 2 >>= _) _ _ _ from wpAny_bind (wpAny_field hz rfl (x := .bool false) rfl ?_))
  refine (show wpAny _ _ (field (.ref z) 3 >>= _) _ _ _ from wpAny_bind (wpAny_field hz rfl (x := .ref TI) rfl ?_))
  refine wpAny_bind (wpAny_seqItems hTI rfl ?_)
  refine (show wpAny _ _ (Builtin.SmallTypes.ownedTupleIsFree (.ref z) >>= _) _ _ _ from wpAny_bind ?_)
  unfold Builtin.SmallTypes.ownedTupleIsFree
  refine wpAny_bind (wpAny_field hz rfl (x := .none) rfl (wpAny_pure ?_))
  simp only [if_true]
  refine wpAny_bind (wpAny_rule (wpAny_bind (wpAny_field hz rfl (x := .ref TO) rfl ?_)))
  refine wpAny_bind (wpAny_setField_rec hz (by simp) fun g1 hz1 e1 => ?_)
  replace hz1 : IsZip g1 z TI TO .ellipsis := hz1
  replace e1 : Heap.SameBut z s.heap g1 := e1
  refine wpAny_bind ?_
  simp only [List.zipIdx_cons, List.zipIdx_nil, List.forIn_cons, List.forIn_nil]
  refine wpAny_bind (wpAny_bind (wpAny_onRaise ?_))
  have q1 : S1 k g1 := D1.frame _ _ _ h1 fun c hc o q => e1.extBut c o (fun y => D.z1 (y ▸ hc)) q
  have q2 : S2 k g1 := D2.frame _ _ _ h2 fun c hc o q => e1.extBut c o (fun y => D.z2 (y ▸ hc)) q
  rcases hend with hk | ⟨hk, hk2⟩
  · subst hk
    refine (show wpAny _ _ (Builtin.SmallTypes.nextOf (.ref i1) >>= _) _ _ _ from wpAny_bind (D1.done _ _ _ q1 fun g2 e e2 he => ?_))
    obtain ⟨oe, hoe, hce⟩ := he
    replace e2 : Heap.ExtBut i1 g1 g2 := e2
    have hz2 : IsZip g2 z TI TO .ellipsis := e2 _ _ D.i1z.symm hz1
    have hez : e ≠ z := fun x => by subst x; rw [hz2] at hoe; cases hoe; simp at hce
    refine wpAny_setField_rec hz2 (by simp) fun g3 _ e3 => hE g3 e _ (fun c o c1 _ c3 _ q => e3.extBut _ _ c1 (e2 _ _ c3 (e1.extBut _ _ c1 q))) ⟨oe, e3.extBut _ _ hez hoe, hce⟩
  · subst hk2
    refine (show wpAny _ _ (Builtin.SmallTypes.nextOf (.ref i1) >>= _) _ _ _ from wpAny_bind (D1.item k _ _ _ hk q1 fun x g2 t2 p1 q1' e2 => wpAny_pure ?_))
    replace e2 : Heap.SameBut i1 g1 g2 := e2
    have hTO2 : IsPair g2 TO a b := e2.extBut _ _ D.TOi1 (e1.extBut _ _ D.TOz hTO)
    refine wpAny_bind (wpAny_seqItems hTO2 rfl (wpAny_bind (wpAny_updateSeq_pair hTO2 fun g3 hTO3 e3 => ?_)))
    replace e3 : Heap.SameBut TO g2 g3 := e3
    refine wpAny_bind (wpAny_letGo (wpAny_pure ?_))
    refine wpAny_bind (wpAny_bind (wpAny_onRaise ?_))
    have r2 : S2 k g3 := D2.frame _ _ _ q2 fun c hc o q => e3.extBut c o (fun y => D.TO2 (y ▸ hc)) (e2.extBut c o (fun y => D.i12 (y ▸ hc)) q)
    refine (show wpAny _ _ (Builtin.SmallTypes.nextOf (.ref i2) >>= _) _ _ _ from wpAny_bind (D2.done _ _ _ r2 fun g4 e e4 he => ?_))
    obtain ⟨oe, hoe, hce⟩ := he
    replace e4 : Heap.ExtBut i2 g3 g4 := e4
    have hz4 : IsZip g4 z TI TO .ellipsis := e4 _ _ D.i2z.symm (e3.extBut _ _ D.TOz.symm (e2.extBut _ _ D.i1z.symm hz1))
    have hez : e ≠ z := fun x => by subst x; rw [hz4] at hoe; cases hoe; simp at hce
    refine wpAny_setField_rec hz4 (by simp) fun g5 _ e5 => hE g5 e _ (fun c o c1 c2 c3 c4 q => e5.extBut _ _ c1 (e4 _ _ c4 (e3.extBut _ _ c2 (e2.extBut _ _ c3 (e1.extBut _ _ c1 q))))) ⟨oe, e5.extBut _ _ hez hoe, hce⟩
end
end L2

namespace L2
open PySem PySem.Spec PyProof.Rows
section
variable {prog : Program} {w : World} {A : Around} {E : Value → Shared → Prop} {s : Shared} {z TI TO i1 i2 : Addr} {fp1 fp2 : List Addr} {n1 n2 k : Nat} {P1 P2 : Nat → Value → Prop} {S1 S2 : Nat → Heap → Prop} {a b : Value}
theorem zipN_item {Q : Option Value → Shared → Prop} (D : ZApart z TI TO i1 i2 fp1 fp2) (D1 : Draws prog w A.in1 i1 fp1 n1 P1 S1) (D2 : Draws prog w A.in1 i2 fp2 n2 P2 S2) (hz : IsZip s.heap z TI TO .none) (hTI : IsPair s.heap TI (.ref i1) (.ref i2)) (hTO : IsPair s.heap TO a b)
    (h1 : S1 k s.heap) (h2 : S2 k s.heap) (l1 : k < n1) (l2 : k < n2)
    (hQ : ∀ x y h' tk, P1 k x → P2 k y → IsZip h' z TI TO (rawInt s.heap.objs.size) → IsPair h' TI (.ref i1) (.ref i2) → IsPair h' TO x y → S1 (k + 1) h' → S2 (k + 1) h' → IsPair h' s.heap.objs.size x y → h'.objs.size = s.heap.objs.size + 1 →
      (∀ c o, c ≠ z → c ≠ TO → c ≠ i1 → c ≠ i2 → s.heap.get? c = some o → h'.get? c = some o) → Q (some (.ref s.heap.objs.size)) { s with heap := h', toks := tk }) :
    wpAny (model prog w) A (pyNext (.ref z)) Q E s := by
  have hT : s.TypeIs (.ref z) "zip" := ⟨_, hz, rfl⟩
  unfold pyNext
  exact wpAny_bind (wpAny_attempt (wpAny_callSpecial?_slot (name := Str.ofString "__next__") hT F.slot_zip_next (wpAny_call_entry F.slot_zip_next hT F.entry_zip_next
    (zipD_item D D1 D2 hz hTI hTO h1 h2 l1 l2 fun x y h' tk a1 a2 a3 a4 a5 a6 a7 a8 a9 a10 => wpAny_pure (hQ x y h' tk a1 a2 a3 a4 a5 a6 a7 a8 a9 a10)) (F.args_zip_next_1 _))))
theorem zipN_end {Q : Option Value → Shared → Prop} (D : ZApart z TI TO i1 i2 fp1 fp2) (D1 : Draws prog w A.in1 i1 fp1 n1 P1 S1) (D2 : Draws prog w A.in1 i2 fp2 n2 P2 S2) (hz : IsZip s.heap z TI TO .none) (hTI : IsPair s.heap TI (.ref i1) (.ref i2)) (hTO : IsPair s.heap TO a b)
    (h1 : S1 k s.heap) (h2 : S2 k s.heap) (hend : k = n1 ∨ (k < n1 ∧ k = n2))
    (hQ : ∀ h' tk, (∀ c o, c ≠ z → c ≠ TO → c ≠ i1 → c ≠ i2 → s.heap.get? c = some o → h'.get? c = some o) → Q none { s with heap := h', toks := tk }) : wpAny (model prog w) A (pyNext (.ref z)) Q E s := by
  have hT : s.TypeIs (.ref z) "zip" := ⟨_, hz, rfl⟩
  unfold pyNext
  refine wpAny_bind (wpAny_attempt (wpAny_callSpecial?_slot (name := Str.ofString "__next__") hT F.slot_zip_next (wpAny_call_entry F.slot_zip_next hT F.entry_zip_next
    (zipD_end D D1 D2 hz hTI hTO h1 h2 hend fun h' e tk hk he => ?_) (F.args_zip_next_1 _))))
  obtain ⟨o, ho, hc⟩ := he
  exact wpAny_bind (wpAny_isInstance (T := "StopIteration") (b := true) ⟨o, ho, hc⟩ isSubtype_stop (wpAny_pure (hQ _ tk hk)))
/-! ### zip(t, u) made, t and u tuples -/
abbrev zT (h : Heap) (t : Addr) : Heap := h.push { cls := .type "tuple_iterator", data := .fields #[.ref t, .int 0 0] }
abbrev zTT (h : Heap) (t u : Addr) : Heap := zT (zT h t) u
abbrev zPI (h : Heap) (t u : Addr) : Heap := (zTT h t u).push { cls := .type "tuple", data := .seq #[.ref h.objs.size, .ref (zT h t).objs.size] }
abbrev zPO (h : Heap) (t u : Addr) : Heap := (zPI h t u).push { cls := .type "tuple", data := .seq #[.none, .none] }
abbrev zAll (h : Heap) (t u : Addr) : Heap := (zPO h t u).push { cls := .type "zip", data := .fields #[.none, .bool false, .bool false, .ref (zTT h t u).objs.size, .ref (zPI h t u).objs.size] }
theorem zipT_new (t u : Addr) (xs ys : Array Value) : Meets (Builtin.«zip.__new__» ⟨[.type "zip", .ref t, .ref u], []⟩) (fun _ R s => s.heap.IsTuple t xs ∧ s.heap.IsTuple u ys ∧ R (.ok (.ret (.ref (zPO s.heap t u).objs.size))) { s with heap := zAll s.heap t u }) :=
  .of_wp fun prog w A R s h => by
    obtain ⟨hp, g, d, tk, os⟩ := s
    obtain ⟨ht, hu, h⟩ := h
    have hsub := sub_zip
    have h1 : Heap.IsTuple (Shared.heap ⟨hp, g, d, tk, os⟩) t xs := ht
    have h2 : Heap.IsTuple (Shared.heap ⟨hp.push { cls := .type "tuple_iterator", data := .fields #[.ref t, .int 0 0] }, g, d, tk, os⟩) u ys := by
      obtain ⟨o, e, r⟩ := hu
      exact ⟨o, Heap.get?_push_of_some _ e, r⟩
    wp_walk using wpAny_pyIter_tuple h1, wpAny_pyIter_tuple h2
    exact ⟨_, rfl, h⟩
theorem call_zipT {t u : Addr} {xs ys : Array Value} {Q : Value → Shared → Prop} (ht : s.heap.IsTuple t xs) (hu : s.heap.IsTuple u ys)
    (h : ∀ h', IsZip h' (s.heap.objs.size + 4) (s.heap.objs.size + 2) (s.heap.objs.size + 3) .none → IsPair h' (s.heap.objs.size + 2) (.ref s.heap.objs.size) (.ref (s.heap.objs.size + 1)) → IsPair h' (s.heap.objs.size + 3) .none .none →
      h'.IsTupleIter s.heap.objs.size t 0 → h'.IsTupleIter (s.heap.objs.size + 1) u 0 → (∀ c o, s.heap.get? c = some o → h'.get? c = some o) → Q (.ref (s.heap.objs.size + 4)) { s with heap := h' }) :
    wpAny (model prog w) A (call (.type "zip") [.ref t, .ref u]) Q E s := by
  refine callType_new F.called_zip (by decide) (F.typeCall_zip_2 _ _) (F.newCall_zip_2 _ _) (fun obj => F.args_object_init_3 obj _ _) F.entry_zip_new (zipT_new t u xs ys) ⟨ht, hu, ?_⟩
  have s1 : (zT s.heap t).objs.size = s.heap.objs.size + 1 := Heap.size_push ..
  have s2 : (zTT s.heap t u).objs.size = s.heap.objs.size + 2 := by rw [Heap.size_push, s1]
  have s3 : (zPI s.heap t u).objs.size = s.heap.objs.size + 3 := by rw [Heap.size_push, s2]
  have s4 : (zPO s.heap t u).objs.size = s.heap.objs.size + 4 := by rw [Heap.size_push, s3]
  have g5 : (zAll s.heap t u).get? (zPO s.heap t u).objs.size = some _ := Heap.get?_push_size _ rfl
  have g4 : (zAll s.heap t u).get? (zPI s.heap t u).objs.size = some _ := Heap.get?_push_of_some _ (Heap.get?_push_size _ rfl)
  have g3 : (zAll s.heap t u).get? (zTT s.heap t u).objs.size = some _ := Heap.get?_push_of_some _ (Heap.get?_push_of_some _ (Heap.get?_push_size _ rfl))
  have g2 : (zAll s.heap t u).get? (zT s.heap t).objs.size = some _ := Heap.get?_push_of_some _ (Heap.get?_push_of_some _ (Heap.get?_push_of_some _ (Heap.get?_push_size _ rfl)))
  have g1 : (zAll s.heap t u).get? s.heap.objs.size = some _ := Heap.get?_push_of_some _ (Heap.get?_push_of_some _ (Heap.get?_push_of_some _ (Heap.get?_push_of_some _ (Heap.get?_push_size _ rfl))))
  show _ ∧ _
  rw [s2, s3, s4] at g5
  rw [s1, s2] at g3
  rw [s3] at g4
  rw [s1] at g2
  rw [s4]
  exact ⟨⟨_, g5, rfl⟩, h _ g5 g3 g4 ⟨_, g1, rfl, rfl⟩ ⟨_, g2, rfl, rfl⟩ fun c o q => Heap.get?_push_of_some _ (Heap.get?_push_of_some _ (Heap.get?_push_of_some _ (Heap.get?_push_of_some _ (Heap.get?_push_of_some _ q))))⟩
end

/-! ### for a, b in zip(t, u) -/
def Itz (t u : Addr) : It :=
  ⟨fun i H => ∃ xs ys x y, H t = some (.tup xs) ∧ H u = some (.tup ys) ∧ xs[i]? = some x ∧ ys[i]? = some y, fun i H v H' => ∃ p x y, H p = none ∧ v = .ref p ∧ H' = upd H p (.tup [x, y]) ∧ (∀ xs, H t = some (.tup xs) → xs[i]? = some x) ∧ ∀ ys, H u = some (.tup ys) → ys[i]? = some y,
   fun i H => ∃ xs ys, H t = some (.tup xs) ∧ H u = some (.tup ys) ∧ i ≤ xs.length ∧ i ≤ ys.length ∧ (i = xs.length ∨ i = ys.length)⟩
theorem zApart {N t u : Addr} (ht : ∀ c ∈ [N + 4, N + 2, N + 3, N, N + 1], t ≠ c) (hu : ∀ c ∈ [N + 4, N + 2, N + 3, N, N + 1], u ≠ c) : ZApart (N + 4) (N + 2) (N + 3) N (N + 1) [N, t] [N + 1, u] := by
  have d : ∀ i j : Nat, i ≠ j → (N + i : Nat) ≠ N + j := fun i j h e => h (Nat.add_left_cancel e)
  have t4 := ht (N + 4) (by simp); have t3 := ht (N + 3) (by simp); have t1 := ht (N + 1) (by simp)
  have u4 := hu (N + 4) (by simp); have u3 := hu (N + 3) (by simp); have u0 := hu N (by simp)
  refine ⟨d 2 4 (by decide), d 3 4 (by decide), d 2 3 (by decide), fun h => ?_, fun h => ?_, fun h => ?_, fun h => ?_, fun h => ?_, fun h => ?_, by simp, by simp, d 2 0 (by decide), d 2 1 (by decide)⟩
  · rcases List.mem_cons.mp h with z | z
    · exact d 4 0 (by decide) z
    · exact t4 (List.mem_singleton.mp z).symm
  · rcases List.mem_cons.mp h with z | z
    · exact d 4 1 (by decide) z
    · exact u4 (List.mem_singleton.mp z).symm
  · rcases List.mem_cons.mp h with z | z
    · exact d 3 0 (by decide) z
    · exact t3 (List.mem_singleton.mp z).symm
  · rcases List.mem_cons.mp h with z | z
    · exact d 3 1 (by decide) z
    · exact u3 (List.mem_singleton.mp z).symm
  · rcases List.mem_cons.mp h with z | z
    · exact d 0 1 (by decide) z
    · exact u0 (List.mem_singleton.mp z).symm
  · rcases List.mem_cons.mp h with z | z
    · exact d 1 0 (by decide) z
    · exact t1 (List.mem_singleton.mp z).symm
theorem turn_zip {P : Program} {w : World} {K : PySem.W.Frag} {es : List Expr} {kk : Nat} {tp : Pos} (t u N : Addr) :
    Turn P w K (.Tuple es kk tp) (Itz t u) [N + 4, N + 2, N + 3, N, N + 1] (N + 4)
      (fun i h => IsZip h (N + 4) (N + 2) (N + 3) .none ∧ IsPair h (N + 2) (.ref N) (.ref (N + 1)) ∧ (∃ a b, IsPair h (N + 3) a b) ∧ h.IsTupleIter N t i ∧ h.IsTupleIter (N + 1) u i) where
  mem := by simp
  obj := fun i h st b hb => by
    obtain ⟨h1, h2, ⟨x, y, h3⟩, ⟨o4, h4, _, d4⟩, ⟨o5, h5, _, d5⟩⟩ := st
    simp only [List.mem_cons, List.not_mem_nil, or_false] at hb
    rcases hb with z | z | z | z | z
    · rw [z]; exact ⟨_, h1, fun v z => by
        have z' : Data.fields _ = Data.cell v := z
        cases z'⟩
    · rw [z]; exact ⟨_, h2, fun v z => by
        have z' : Data.seq _ _ = Data.cell v := z
        cases z'⟩
    · rw [z]; exact ⟨_, h3, fun v z => by
        have z' : Data.seq _ _ = Data.cell v := z
        cases z'⟩
    · rw [z]; exact ⟨o4, h4, fun v z => by rw [d4] at z; cases z⟩
    · rw [z]; exact ⟨o5, h5, fun v z => by rw [d5] at z; cases z⟩
  keep := fun i h h' st k => by
    obtain ⟨h1, h2, ⟨x, y, h3⟩, h4, h5⟩ := st
    exact ⟨k _ (by simp) _ h1, k _ (by simp) _ h2, ⟨x, y, k _ (by simp) _ h3⟩, h4.at fun o q => k _ (by simp) o q, h5.at fun o q => k _ (by simp) o q⟩
  item := by
    intro X hP hw hK hc i pins s σ H E I hf st hg
    subst hP hw hK
    obtain ⟨h1, h2, ⟨a0, b0, h3⟩, h4, h5⟩ := st
    obtain ⟨xs, ys, x, y, hx, hy, ex, ey⟩ := hg
    obtain ⟨its, rv, p, hz⟩ := I.tuple (SqT.of hx)
    obtain ⟨its2, rv2, p2, hz2⟩ := I.tuple (SqT.of hy)
    obtain ⟨a, ha, ra⟩ := rv.get ex
    obtain ⟨b, hb, rb⟩ := rv2.get ey
    have D0 := zApart (N := N) (t := t) (u := u) (fun c hc e => by rw [e, (hf c hc).1] at hx; cases hx) (fun c hc e => by rw [e, (hf c hc).1] at hy; cases hy)
    have hA : X.A.in1.handled = none := I.ok.hd hc
    have tn : t ≠ N := fun e => by rw [e, (hf N (by simp)).1] at hx; cases hx
    have un : u ≠ N + 1 := fun e => by rw [e, (hf (N + 1) (by simp)).1] at hy; cases hy
    have la : i < its.toArray.size := by
      have := (List.getElem?_eq_some_iff.mp ha).1
      simpa using this
    have lb : i < its2.toArray.size := by
      have := (List.getElem?_eq_some_iff.mp hb).1
      simpa using this
    refine zipN_item D0 (drawsT (prog := X.prog) (w := X.w) hA N t tn its.toArray) (drawsT (prog := X.prog) (w := X.w) hA (N + 1) u un its2.toArray) h1 h2 h3 ⟨h4, p⟩ ⟨h5, p2⟩ la lb fun x' y' g1 tk px py z1 z2 z3 z4 z5 z6 z7 k1 => ?_
    obtain rfl : x' = a := by
      have e : its.toArray[i]? = some x' := px
      rw [List.getElem?_toArray, ha] at e
      exact (Option.some.inj e).symm
    obtain rfl : y' = b := by
      have e : its2.toArray[i]? = some y' := py
      rw [List.getElem?_toArray, hb] at e
      exact (Option.some.inj e).symm
    refine ⟨_, rfl, wpAny_letOwnedTupleGo_zip (s := { s with heap := g1, toks := tk }) z1 fun g2 y1 e2 => ?_⟩
    replace e2 : Heap.SameBut (N + 4) g1 g2 := e2
    have hl4 : N + 4 < s.heap.objs.size := Heap.lt_size h1
    have d : ∀ i j : Nat, i ≠ j → (N + i : Nat) ≠ N + j := fun i j h e => h (Nat.add_left_cancel e)
    have ht2 : IsPair g2 s.heap.objs.size x' y' := e2.extBut _ _ (Nat.ne_of_gt hl4) z6
    have k2 : ∀ c o, c ∉ [N + 4, N + 2, N + 3, N, N + 1] → s.heap.get? c = some o → g2.get? c = some o := fun c o hc q => by
      have c4 : c ≠ N + 4 := fun z => hc (by simp [z])
      have c3 : c ≠ N + 3 := fun z => hc (by simp [z])
      have c0 : c ≠ N := fun z => hc (by simp [z])
      have c1 : c ≠ N + 1 := fun z => hc (by simp [z])
      exact e2.extBut c o c4 (k1 c o c4 c3 c0 c1 q)
    have I2 : Inv X pins σ (upd H s.heap.objs.size (.tup [x, y])) { s with heap := g2, toks := tk } := by
      refine I.turnLaid (fp := [N + 4, N + 2, N + 3, N, N + 1]) (Nat.le_refl _) k2 hf ?_
      exact ⟨by show 2 ≤ sizeLine; decide, [x', y'], .cons ra (.cons rb .nil), ⟨_, ht2, rfl, _, rfl⟩⟩
    refine ⟨.ref s.heap.objs.size, _, I2, rfl, ⟨s.heap.objs.size, x, y, I.hok.fresh (Nat.le_refl _), rfl, rfl, fun zs hy => ?_, fun zs hy' => ?_⟩, ⟨y1, e2.extBut _ _ (d 2 4 (by decide)) z2, ⟨_, _, e2.extBut _ _ (d 3 4 (by decide)) z3⟩, z4.1.extBut e2.extBut (d 0 4 (by decide)), z5.1.extBut e2.extBut (d 1 4 (by decide))⟩, fun b hb => ?_⟩
    · rw [hx] at hy; cases hy; exact ex
    · rw [hy] at hy'; cases hy'; exact ey
    · have hlt : b < s.heap.objs.size := by
        simp only [List.mem_cons, List.not_mem_nil, or_false] at hb
        rcases hb with z | z | z | z | z
        · rw [z]; exact hl4
        · rw [z]; exact Heap.lt_size h2
        · rw [z]; exact Heap.lt_size h3
        · obtain ⟨o, q, _⟩ := h4; rw [z]; exact Heap.lt_size q
        · obtain ⟨o, q, _⟩ := h5; rw [z]; exact Heap.lt_size q
      rw [upd_ne (Nat.ne_of_lt hlt)]
      exact (hf b hb).1
  done := by
    intro X hP hw hK hc i pins s σ H E I hf st hg
    subst hP hw hK
    obtain ⟨h1, h2, ⟨a0, b0, h3⟩, h4, h5⟩ := st
    obtain ⟨xs, ys, hx, hy, lx, ly, hend⟩ := hg
    obtain ⟨its, rv, p, hz⟩ := I.tuple (SqT.of hx)
    obtain ⟨its2, rv2, p2, hz2⟩ := I.tuple (SqT.of hy)
    have D0 := zApart (N := N) (t := t) (u := u) (fun c hc e => by rw [e, (hf c hc).1] at hx; cases hx) (fun c hc e => by rw [e, (hf c hc).1] at hy; cases hy)
    have hA : X.A.in1.handled = none := I.ok.hd hc
    have tn : t ≠ N := fun e => by rw [e, (hf N (by simp)).1] at hx; cases hx
    have un : u ≠ N + 1 := fun e => by rw [e, (hf (N + 1) (by simp)).1] at hy; cases hy
    have l1 := rv.length
    have l2 := rv2.length
    refine zipN_end D0 (drawsT (prog := X.prog) (w := X.w) hA N t tn its.toArray) (drawsT (prog := X.prog) (w := X.w) hA (N + 1) u un its2.toArray) h1 h2 h3 ⟨h4, p⟩ ⟨h5, p2⟩ ?_ fun h' tk hk => ⟨rfl, ?_⟩
    · simp only [List.size_toArray]
      omega
    · refine I.turnedN (fp := [N + 4, N + 2, N + 3, N, N + 1]) (fun c o hc q => ?_) hf
      exact hk c o (fun z => hc (by simp [z])) (fun z => hc (by simp [z])) (fun z => hc (by simp [z])) (fun z => hc (by simp [z])) q
  self := fun _ _ _ _ _ st h => wpAny_pyIter_zip st.1 h
def iZip (ta : TA) : TI := fun σ H R => ta σ H fun vs H1 => ∃ t u xs ys, vs = [.ref t, .ref u] ∧ H1 t = some (.tup xs) ∧ H1 u = some (.tup ys) ∧ R (Itz t u) H1
section
variable {X : Cx}
theorem pi_zip {es : List Expr} {kk : Nat} {tp : Pos} {a b : Expr} {ta : TA} {p pos : Pos} (hg : Gl X "zip") (hm : X.mg "zip" = none) (ha : PA X [a, b] ta) (hb : bootBuiltins "zip" = some (.type "zip") := by decide +kernel)
    (hs : starEach [a, b] X.env = [(false, eval a X.env), (false, eval b X.env)] := by rfl) (hs2 : starEach [b] X.env = [(false, eval b X.env)] := by rfl) : PI X (.Tuple es kk tp) (.Call (.Name "zip" p) [a, b] [] pos) (iZip ta) := by
  intro pins s σ H R I h
  refine Call_ (ld_blt I hg hm hb (PyProof.Rows.callWith_type1 (thn (ha pos pins s σ H _ I h) fun us s1 ⟨vs, H1, I1, r1, q1⟩ => ?_) (by rw [hs, hs2]) (by rw [hs2]; rfl)))
  obtain ⟨t, u, xs, ys, e, hx, hy, q⟩ := q1
  subst e
  obtain ⟨u1, u2, rfl, ru, rw'⟩ := r1.two
  cases ru; cases rw'
  obtain ⟨its, rv, pl, hz⟩ := I1.tuple (SqT.of hx)
  obtain ⟨its2, rv2, pl2, hz2⟩ := I1.tuple (SqT.of hy)
  refine call_zipT pl pl2 fun h' z1 z2 z3 z4 z5 hk => ?_
  refine wpAny_pyIter_zip (s := { s1 with heap := h' }) z1 ?_
  have I2 : Inv X pins σ H1 { s1 with heap := h' } := I1.kept (t' := s1.toks) hk
  refine ⟨s1.heap.objs.size + 4, _, _, _, H1, rfl, I2, turn_zip t u s1.heap.objs.size, ⟨z1, z2, ⟨_, _, z3⟩, z4, z5⟩, fun b hb => ?_, q⟩
  have hle : s1.heap.objs.size ≤ b := by
    simp only [List.mem_cons, List.not_mem_nil, or_false] at hb
    rcases hb with z | z | z | z | z <;> rw [z]
    · exact Nat.le_add_right _ _
    · exact Nat.le_add_right _ _
    · exact Nat.le_add_right _ _
    · exact Nat.le_refl _
    · exact Nat.le_add_right _ _
  exact I1.fpOk hle (I1.hok.fresh hle)
end
end L2

namespace L2
open PySem PySem.Spec PyProof.Rows
section
variable {prog : Program} {w : World} {A : Around} {E : Value → Shared → Prop} {s : Shared}
/-- t[lo:hi] that is the whole of t -/
theorem sliceAll {t sl : Addr} {items : Array Value} {vl vu : Value} {lo hi : Option Int} {Q : Value → Shared → Prop} (ht : IsTup s.heap t items) (hs : s.heap.IsSliceOf sl vl vu .none) (pl : IsPart vl lo) (pu : IsPart vu hi)
    (hw : HT.sIx items.size 0 lo = 0 ∧ HT.sIx items.size items.size hi = items.size) (h : Q (.ref t) s) : wpAny (model prog w) A (getItem (.ref t) (.ref sl)) Q E s := by
  obtain ⟨os, hos, hcs, hds⟩ := id hs
  have hTs : s.TypeIs (.ref sl) "slice" := ⟨os, hos, hcs⟩
  unfold getItem
  try with_reducible refine wpAny_holding ?_
  first | refine wpAny_bind (wpAny_pure ?_) | skip
  refine wpAny_bind (wpAny_sequenceKey ht.typeIs (by decide) ?_)
  refine wpAny_bind (wpAny_callSpecial?_slot (name := Str.ofString "__getitem__") ht.typeIs PyProof.Rows.slot_tuple_getitem (wpAny_call_entry PyProof.Rows.slot_tuple_getitem ht.typeIs entry_tuple_getitem ?_ (args_tuple_getitem _ _)))
  refine (show wpAny _ _ (Builtin.Tuple.tupleItemsOf (.ref t) >>= _) _ _ s from wpAny_bind (tupleItemsOf_ ht (wpAny_bind (wpAny_typeOf hTs ?_))))
  rw [if_pos (by decide)]
  refine wpAny_bind (HT.sliceApplied_gen hs pl pu ?_)
  have yes : (((HT.sIx items.size 0 lo : Nat) : Int) == 0 && (1 : Int) == 1 && (HT.sIx items.size items.size hi - HT.sIx items.size 0 lo) == items.size) = true := by
    rw [hw.1, hw.2]; simp
  show wpAny _ _ (if (((HT.sIx items.size 0 lo : Nat) : Int) == 0 && (1 : Int) == 1 && (HT.sIx items.size items.size hi - HT.sIx items.size 0 lo) == items.size) = true then _ else _) _ _ s
  rw [if_pos yes]
  obtain ⟨o, ho, hcl, n, hd⟩ := id ht
  have hT : s.TypeIs (.ref t) "tuple" := ⟨o, ho, hcl⟩
  have hx : wpAny (model prog w) A.in1 (Builtin.Tuple.tupleIsExact (.ref t)) (fun b s' => b = true ∧ s' = s) E s := by
    unfold Builtin.Tuple.tupleIsExact
    first
      | exact wpAny_bind (wpAny_typeOf hT (wpAny_pure ⟨by decide, rfl⟩))
      | (refine wpAny_bind (wpAny_typeOf hT ?_); exact wpAny_pure ⟨by simp, rfl⟩)
  refine wpAny_bind (wpAny_mono hx (fun b s' hb => ?_) fun _ _ x => x)
  obtain ⟨rfl, rfl⟩ := hb
  rw [if_pos rfl]
  exact wpAny_bind (wpAny_rule (wpAny_pure ⟨_, rfl, wpAny_pure h⟩))
/-- the places of [::-1] -/
theorem revApplied {sl : Addr} {tk : Tok} {n : Nat} {Q : Int × Int × Nat → Shared → Prop} (hs : s.heap.IsSliceOf sl .none .none (.int (-1) tk)) (h : Q ((n : Int) - 1, -1, n) s) : wpAny (model prog w) A (Builtin.Slice.sliceApplied (.ref sl) (pure (n : Int))) Q E s := by
  obtain ⟨os, hos, hcs, hds⟩ := id hs
  unfold Builtin.Slice.sliceApplied Builtin.Slice.sliceFields
  refine wpAny_bind (wpAny_bind (wpAny_field hos hds (x := .none) rfl (wpAny_bind (wpAny_field hos hds (x := .none) rfl (wpAny_bind (wpAny_field hos hds (x := .int (-1) tk) rfl (wpAny_pure ?_)))))))
  refine wpAny_bind (slicePart_int ?_)
  show wpAny _ _ (if ((-1 : Int) == 0) = true then _ else _) _ _ s
  rw [if_neg (by decide)]
  refine wpAny_bind (slicePart_none (wpAny_bind (slicePart_none (wpAny_bind (wpAny_pure ?_)))))
  show wpAny _ _ (pure ((n : Int) - 1, (-1 : Int), Builtin.Slice.slicePlaces ((n : Int) - 1) (-1) (-1))) _ _ s
  have e : Builtin.Slice.slicePlaces ((n : Int) - 1) (-1) (-1) = n := by
    unfold Builtin.Slice.slicePlaces
    have h1 : ¬ ((-1 : Int) > 0) := by decide
    simp only [h1, if_false]
    have h2 : (-(-1 : Int)) = 1 := by decide
    rw [h2, Int.ediv_one]
    split <;> omega
  rw [e]
  exact wpAny_pure h
theorem revPick (xs : List Value) : ((List.range xs.length).filterMap fun (m : Nat) => xs.toArray[(((xs.length : Nat) : Int) - 1 + (m : Int) * (-1)).toNat]?) = xs.reverse := by
  apply List.ext_getElem?
  intro i
  have key : ∀ (k : Nat), k ≤ xs.length → ((List.range k).filterMap fun (m : Nat) => xs.toArray[(((xs.length : Nat) : Int) - 1 + (m : Int) * (-1)).toNat]?) = xs.reverse.take k := by
    intro k
    induction k with
    | zero => intro _; simp
    | succ k ih =>
      intro hk
      have e : (((xs.length : Nat) : Int) - 1 + (k : Int) * (-1)).toNat = xs.length - 1 - k := by omega
      rw [List.range_succ, List.filterMap_append, ih (by omega), List.take_add_one]
      congr 1
      simp only [List.filterMap_cons, List.filterMap_nil, e]
      rw [List.getElem?_reverse (by omega)]
      have h2 : xs.length - 1 - k < xs.length := by omega
      simp [h2]
  rw [key xs.length (Nat.le_refl _), List.take_of_length_le (by simp)]
/-- t[::-1] -/
theorem sliceRev {t sl : Addr} {its : List Value} {tk : Tok} {Q : Value → Shared → Prop} (ht : IsTup s.heap t its.toArray) (hs : s.heap.IsSliceOf sl .none .none (.int (-1) tk)) (hsz : its.length ≤ sizeLine)
    (h : Q (.ref s.heap.objs.size) { s with heap := s.heap.push { cls := .type "tuple", data := .seq its.reverse.toArray } }) : wpAny (model prog w) A (getItem (.ref t) (.ref sl)) Q E s := by
  obtain ⟨os, hos, hcs, hds⟩ := id hs
  have hTs : s.TypeIs (.ref sl) "slice" := ⟨os, hos, hcs⟩
  unfold getItem
  try with_reducible refine wpAny_holding ?_
  first | refine wpAny_bind (wpAny_pure ?_) | skip
  refine wpAny_bind (wpAny_sequenceKey ht.typeIs (by decide) ?_)
  refine wpAny_bind (wpAny_callSpecial?_slot (name := Str.ofString "__getitem__") ht.typeIs PyProof.Rows.slot_tuple_getitem (wpAny_call_entry PyProof.Rows.slot_tuple_getitem ht.typeIs entry_tuple_getitem ?_ (args_tuple_getitem _ _)))
  refine (show wpAny _ _ (Builtin.Tuple.tupleItemsOf (.ref t) >>= _) _ _ s from wpAny_bind (tupleItemsOf_ ht (wpAny_bind (wpAny_typeOf hTs ?_))))
  rw [if_pos (by decide)]
  refine wpAny_bind (revApplied hs ?_)
  have no : ¬ (((((its.toArray.size : Nat) : Int) - 1 == 0) && ((-1 : Int) == 1) && (its.toArray.size == its.toArray.size)) = true) := by
    intro q
    rw [Bool.and_eq_true, Bool.and_eq_true] at q
    exact absurd q.1.2 (by decide)
  show wpAny _ _ (if ((((its.toArray.size : Nat) : Int) - 1 == 0) && ((-1 : Int) == 1) && (its.toArray.size == its.toArray.size)) = true then _ else _) _ _ s
  rw [if_neg no]
  have z : its.toArray.size = its.length := List.size_toArray ..
  rw [z]
  rw [revPick]
  have htake : sizeOk (.seq its.reverse.toArray) := by
    show its.reverse.toArray.size ≤ sizeLine
    rw [List.size_toArray, List.length_reverse]; exact hsz
  first
    | exact wpAny_bind (m := Builtin.Tuple.tupleExact _) (wpAny_newObj_type (wpAny_pure ⟨_, rfl, wpAny_pure h⟩) htake)
    | exact wpAny_bind (m := Builtin.Tuple.tupleExact _) (wpAny_newObj_type (wpAny_bind (wpAny_pure (wpAny_pure ⟨_, rfl, wpAny_pure h⟩))) htake)
    | exact wpAny_bind (wpAny_bind (m := Builtin.Tuple.tupleExact _) (wpAny_newObj_type (wpAny_pure (wpAny_pure ⟨_, rfl, wpAny_pure h⟩)) htake))
    | exact wpAny_bind (wpAny_bind (m := Builtin.Tuple.tupleExact _) (wpAny_newObj_type (wpAny_pure ⟨_, rfl, wpAny_pure h⟩) htake))
/-- () + u is u -/
theorem catNil {t b : Addr} {ws : List Value} {Q : Value → Shared → Prop} (ht : IsTup s.heap t ([] : List Value).toArray) (hb : IsTup s.heap b ws.toArray) (h : Q (.ref b) s) : wpAny (model prog w) A (binaryOp .Add (.ref t) (.ref b)) Q E s := by
  obtain ⟨⟨cls, dd, data, sl⟩, ho, hc, n, hd⟩ := id ht
  obtain ⟨⟨cls2, dd2, data2, sl2⟩, ho2, hc2, n2, hd2⟩ := id hb
  simp only at hc hd hc2 hd2
  subst hc hd hc2 hd2
  exact concat_meets ⟨_, ho, rfl⟩ ⟨_, ho2, rfl⟩ noFill_tuple_add seq_tuple_add PySem.F.slot_tuple_add PySem.F.entry_tuple_add (PySem.F.args_tuple_add_2 _ _) (tuple_addW0 t b _ _ n n2 dd dd2 sl sl2 (by simp)) ⟨ho, ho2, h⟩
end

section
variable {X : Cx}
/-! ### slices of tuples and lists; [::-1] of a tuple -/
def wholeS (n : Nat) (lo hi : Option Int) : Prop := HT.sIx n 0 lo = 0 ∧ HT.sIx n n hi = n
instance (n : Nat) (lo hi : Option Int) : Decidable (wholeS n lo hi) := inferInstanceAs (Decidable (_ ∧ _))
def rSlTG (K : PySem.W.Frag) : V → Option Int → Option Int → Hp → VK → Prop := fun x lo hi H Q => ∃ a xs, x = .ref a ∧ SqT K H a xs ∧ (wholeS xs.length lo hi → Q (.ref a) H) ∧ (¬ wholeS xs.length lo hi → ∀ p, H p = none → Q (.ref p) (upd H p (.tup (cutV xs lo hi))))
theorem sl_tupG : SlR X (rSlTG X.K) := by
  intro pins s σ H x v vl vu lo hi sl Q I rx hs pl pu h
  obtain ⟨a, xs, rfl, hx, q1, q2⟩ := h
  by_cases hw : wholeS xs.length lo hi
  · cases rx
    obtain ⟨its, r, ht, hz⟩ := I.tuple hx
    have hlen : its.toArray.size = xs.length := by rw [List.size_toArray]; exact r.length.symm
    refine ⟨"tuple", _, PyProof.Rows.slot_tuple_getitem.lookup, ht.typeIs, ?_⟩
    exact sliceAll ht hs pl pu (by rw [hlen]; exact hw) ⟨.ref a, H, I, rfl, q1 hw⟩
  · exact sl_tup pins s σ H (.ref a) v vl vu lo hi sl Q I rx hs pl pu ⟨a, xs, rfl, hx, hw, q2 hw⟩
theorem sl_seq : SlR X (fun x lo hi H Q => rSlTG X.K x lo hi H Q ∨ rSlL X.K x lo hi H Q) := sl_tupG.or sl_list
def tRev (K : PySem.W.Frag) (te ts : TE) : TE := fun σ H Q => te σ H fun x H1 => ts σ H1 fun y H2 => ∃ a xs, x = .ref a ∧ y = .int (-1) ∧ SqT K H2 a xs ∧ ∀ p, H2 p = none → Q (.ref p) (upd H2 p (.tup xs.reverse))
theorem pe_rev {e st : Expr} {te ts : TE} {p2 pos : Pos} (he : PE X e te) (hs : PE X st ts) : PE X (.Subscript e (.Slice none none (some st) p2) pos) (tRev X.K te ts) := by
  intro pins s σ H Q I h
  refine Subscript_ (thn (he pins s σ H _ I h) fun v s1 ⟨x, H1, I1, r1, q1⟩ => ?_)
  refine wpAny_Slice ?_
  rw [evalPart_none]
  refine wpAny_pure (wpAny_pure ?_)
  rw [evalPart_some]
  refine thn (hs pins s1 σ H1 _ I1 q1) fun u s2 ⟨y, H2, I2, r2, q2⟩ => ?_
  obtain ⟨a, xs, rfl, rfl, hx, q⟩ := q2
  cases r1
  obtain ⟨tk, rfl⟩ := r2
  have I3 : Inv X pins σ H2 { s2 with heap := s2.heap.push { cls := .type "slice", data := .fields #[.none, .none, .int (-1) tk] } } := I2.kept (t' := s2.toks) fun b ob q => Heap.get?_push_of_some _ q
  obtain ⟨its, r, ht, hz⟩ := I3.tuple hx
  show wpAny (model X.prog X.w) X.A (subscriptTail e (.Slice none none (some st) p2) (.ref a) (.ref s2.heap.objs.size)) (EP X pins σ Q) X.xe { s2 with heap := s2.heap.push { cls := .type "slice", data := .fields #[.none, .none, .int (-1) tk] } }
  refine tail_any (ops := [.ref a, .ref s2.heap.objs.size]) ht.typeIs PyProof.Rows.slot_tuple_getitem.lookup (sliceRev ht (Heap.IsSliceOf.new ..) (by rw [← r.length]; exact hz) ?_) (by with_unfolding_all rfl)
  refine ⟨.ref _, _, I3.laid (t' := s2.toks) (o := .tup xs.reverse) (fun b ob q => Heap.get?_push_of_some _ q) (Nat.le_refl _) ?_, rfl, q _ (I3.hok.fresh (Nat.le_refl _))⟩
  exact ⟨by rw [List.length_reverse]; exact hz, _, r.reverse, IsTup.new _ _⟩

/-! ### + of ints, tuples, lists -/
def rCatT0 (K : PySem.W.Frag) : R2 := fun x y H Q => ∃ a b xs ys, x = .ref a ∧ y = .ref b ∧ SqT K H a xs ∧ SqT K H b ys ∧ xs.length + ys.length ≤ sizeLine ∧
  (xs = [] → Q (.ref b) H) ∧ (xs ≠ [] → ys = [] → Q (.ref a) H) ∧ (xs ≠ [] → ys ≠ [] → ∀ p, H p = none → Q (.ref p) (upd H p (.tup (xs ++ ys))))
theorem op_catT0 : OpR X (binaryOp .Add) (rCatT0 X.K) := by
  intro pins s σ H x y v u Q I rx ry h
  obtain ⟨a, b, xs, ys, rfl, rfl, ha, hb, hz, q1, q2, q3⟩ := h
  by_cases hx : xs = []
  · cases rx
    cases ry
    obtain ⟨its, r1, p1, _⟩ := I.tuple ha
    obtain ⟨its2, r2, p2, _⟩ := I.tuple hb
    obtain rfl : its = [] := r1.nil_iff.mpr hx
    exact catNil p1 p2 ⟨.ref b, H, I, rfl, q1 hx⟩
  · exact op_catT pins s σ H (.ref a) (.ref b) v u Q I rx ry ⟨a, b, xs, ys, rfl, rfl, ha, hb, hx, hz, q2 hx, q3 hx⟩
theorem op_addG : OpR X (binaryOp .Add) (fun x y H Q => rI0 (fun i j => V.int (i + j)) x y H Q ∨ rCatT0 X.K x y H Q ∨ rCat x y H Q) := op_add.or (op_catT0.or op_cat)

/-! ### ==, != -/
def rEqS : R2 := fun x y H Q => ∃ d e, Rep H x d ∧ Rep H y e ∧ D.depth d ≤ 50 ∧ ((∃ ds es, d = .tup ds ∧ e = .tup es) ∨ ∃ ds es, d = .lst ds ∧ e = .lst es) ∧ Q (.bl (D.eqv d e)) H
def rNeS : R2 := fun x y H Q => ∃ d e, Rep H x d ∧ Rep H y e ∧ D.depth d ≤ 50 ∧ ((∃ ds es, d = .tup ds ∧ e = .tup es) ∨ ∃ ds es, d = .lst ds ∧ e = .lst es) ∧ Q (.bl (!D.eqv d e)) H
theorem eq_items {pins : List (Addr × Obj)} {σ : St} {H : Hp} {s : Shared} {A : Around} {vs us : List V} {ds es : List D} {its its2 : List Value} (I : Inv X pins σ H s) (hu : A.units + 64 < cLine) (hd : D.depths ds ≤ 50) (r1 : Vals vs its) (r2 : Vals us its2) (q1 : Reps H vs ds) (q2 : Reps H us es) :
    ∀ j (h1 : j < its.toArray.size) (h2 : j < its2.toArray.size), SeqAt.EqAt A.in1 s its.toArray[j] its2.toArray[j] (D.eqv (ds.getD j .non) (es.getD j .non)) := by
  intro j h1 h2
  have h1' : j < its.length := by simpa using h1
  have h2' : j < its2.length := by simpa using h2
  have l1 := r1.length
  have l2 := r2.length
  have e1 : vs[j]? = some (vs[j]'(by omega)) := List.getElem?_eq_getElem _
  have e2 : us[j]? = some (us[j]'(by omega)) := List.getElem?_eq_getElem _
  obtain ⟨a1, b1, c1⟩ := r1.get e1
  obtain ⟨a2, b2, c2⟩ := r2.get e2
  obtain ⟨f1, g1, k1⟩ := q1.get e1
  obtain ⟨f2, g2, k2⟩ := q2.get e2
  have z1 : its.toArray[j] = a1 := by
    have : its[j]? = some its[j] := List.getElem?_eq_getElem h1'
    rw [b1] at this
    simpa using (Option.some.inj this).symm
  have z2 : its2.toArray[j] = a2 := by
    have : its2[j]? = some its2[j] := List.getElem?_eq_getElem h2'
    rw [b2] at this
    simpa using (Option.some.inj this).symm
  rw [z1, z2, List.getD_eq_getElem?_getD, List.getD_eq_getElem?_getD, g1, g2]
  exact eqAt_D I 60 A.in1 _ _ _ _ _ _ (by show A.units + 1 + 60 < cLine; omega) (Nat.le_trans (D.depths_get g1) (by omega)) c1 c2 k1 k2
theorem op_eqS (hu : X.A.units + 64 < cLine) : OpR X (compareOp .Eq) rEqS := by
  intro pins s σ H x y v u Q I rx ry h
  obtain ⟨d, e, r1, r2, hd, hk, q⟩ := h
  rcases hk with ⟨ds, es, rfl, rfl⟩ | ⟨ds, es, rfl, rfl⟩
  · cases r1 with
    | tup h1 q1 =>
      cases r2 with
      | tup h2 q2 =>
        cases rx; cases ry
        obtain ⟨its, rv1, p1, _⟩ := I.tuple (SqT.of h1)
        obtain ⟨its2, rv2, p2, _⟩ := I.tuple (SqT.of h2)
        refine SeqAt.eq_tupleAt (e := fun j => D.eqv (ds.getD j .non) (es.getD j .non)) p1 p2 (by omega) (eq_items I hu (by simp only [D.depth] at hd; omega) rv1 rv2 q1 q2) ⟨.bl _, H, I, rfl, ?_⟩
        rw [List.size_toArray, List.size_toArray, ← rv1.length, ← rv2.length, q1.length, q2.length, ← D.eqvs_range]
        simpa only [D.eqv] using q
  · cases r1 with
    | lst h1 q1 =>
      cases r2 with
      | lst h2 q2 =>
        cases rx; cases ry
        obtain ⟨its, rv1, p1, _⟩ := I.list (SqL.of h1)
        obtain ⟨its2, rv2, p2, _⟩ := I.list (SqL.of h2)
        have l1 := rv1.length
        have l2 := rv2.length
        have m1 := q1.length
        have m2 := q2.length
        by_cases hl : ds.length = es.length
        · refine SeqAt.eq_listAt (e := fun j => D.eqv (ds.getD j .non) (es.getD j .non)) p1.isList p2.isList (by simp; omega) (by omega) (eq_items I hu (by simp only [D.depth] at hd; omega) rv1 rv2 q1 q2) ⟨.bl _, H, I, rfl, ?_⟩
          have z : D.eqvs ds es = (List.range its.toArray.size).all fun j => D.eqv (ds.getD j .non) (es.getD j .non) := by
            rw [D.eqvs_range, ← hl, Nat.min_self, List.size_toArray, ← l1, m1]; simp
          rw [← z]
          simpa only [D.eqv] using q
        · refine SeqAt.eq_list_lengthsAt p1.isList p2.isList (by simp; omega) (by omega) ⟨.bl _, H, I, rfl, ?_⟩
          have z : D.eqvs ds es = false := by rw [D.eqvs_range]; simp [hl]
          simpa only [D.eqv, z] using q
theorem op_neS (hu : X.A.units + 64 < cLine) : OpR X (compareOp .NotEq) rNeS := by
  intro pins s σ H x y v u Q I rx ry h
  obtain ⟨d, e, r1, r2, hd, hk, q⟩ := h
  rcases hk with ⟨ds, es, rfl, rfl⟩ | ⟨ds, es, rfl, rfl⟩
  · cases r1 with
    | tup h1 q1 =>
      cases r2 with
      | tup h2 q2 =>
        cases rx; cases ry
        obtain ⟨its, rv1, p1, _⟩ := I.tuple (SqT.of h1)
        obtain ⟨its2, rv2, p2, _⟩ := I.tuple (SqT.of h2)
        refine SeqAt.RcNeAt.tuples (e := fun j => D.eqv (ds.getD j .non) (es.getD j .non)) p1 p2 (by omega) (eq_items I hu (by simp only [D.depth] at hd; omega) rv1 rv2 q1 q2) _ _ _ _ ⟨.bl _, H, I, rfl, ?_⟩
        rw [List.size_toArray, List.size_toArray, ← rv1.length, ← rv2.length, q1.length, q2.length, ← D.eqvs_range]
        simpa only [D.eqv] using q
  · cases r1 with
    | lst h1 q1 =>
      cases r2 with
      | lst h2 q2 =>
        cases rx; cases ry
        obtain ⟨its, rv1, p1, _⟩ := I.list (SqL.of h1)
        obtain ⟨its2, rv2, p2, _⟩ := I.list (SqL.of h2)
        have l1 := rv1.length
        have l2 := rv2.length
        have m1 := q1.length
        have m2 := q2.length
        by_cases hl : ds.length = es.length
        · refine SeqAt.RcNeAt.lists (e := fun j => D.eqv (ds.getD j .non) (es.getD j .non)) p1.isList p2.isList (by simp; omega) (by omega) (eq_items I hu (by simp only [D.depth] at hd; omega) rv1 rv2 q1 q2) _ _ _ _ ⟨.bl _, H, I, rfl, ?_⟩
          have z : D.eqvs ds es = (List.range its.toArray.size).all fun j => D.eqv (ds.getD j .non) (es.getD j .non) := by
            rw [D.eqvs_range, ← hl, Nat.min_self, List.size_toArray, ← l1, m1]; simp
          rw [← z]
          simpa only [D.eqv] using q
        · refine SeqAt.RcNeAt.lists_lengths p1.isList p2.isList (by simp; omega) (by omega) _ _ _ _ ⟨.bl _, H, I, rfl, ?_⟩
          have z : D.eqvs ds es = false := by rw [D.eqvs_range]; simp [hl]
          simpa only [D.eqv, z, Bool.not_false] using q
theorem op_eqG (hu : X.A.units + 64 < cLine) : OpR X (compareOp .Eq) (fun x y H Q => rEq x y H Q ∨ rEqS x y H Q) := op_eq.or (op_eqS hu)
theorem op_neG (hu : X.A.units + 64 < cLine) : OpR X (compareOp .NotEq) (fun x y H Q => rNe x y H Q ∨ rNeS x y H Q) := op_ne.or (op_neS hu)
theorem op_isG : OpR X (compareOp .Is) (fun x y H Q => rIsB x y H Q ∨ (y = .non ∧ Q (.bl (decide (x = .non))) H)) := op_is_bl.or op_isN
theorem op_isntG : OpR X (compareOp .IsNot) (fun x y H Q => rIsntB x y H Q ∨ (y = .non ∧ Q (.bl (!decide (x = .non))) H)) := op_isnt_bl.or op_notN
theorem op_inG : OpR X (compareOp .In) (rIn X.K false) := op_in_seq
theorem op_notInG : OpR X (compareOp .NotIn) (rIn X.K true) := op_notIn_seq
theorem call_lenG : CallR X (.builtin "len") (fun xs H Q => ∃ x n, xs = [x] ∧ LenV X.K x H n ∧ Q (.int n) H) := call_len
theorem call_listG : CallR X (.type "list") (fun xs H Q => ∃ p ys, xs = [.ref p] ∧ (SqL X.K H p ys ∨ SqT X.K H p ys) ∧ ∀ l, H l = none → Q (.ref l) (upd H l (.lst ys))) := call_list_of
theorem call_tupleG : CallR X (.type "tuple") (fun xs H Q => ∃ p ys, xs = [.ref p] ∧ ((SqL X.K H p ys ∧ ∀ l, H l = none → Q (.ref l) (upd H l (.tup ys))) ∨ (SqT X.K H p ys ∧ Q (.ref p) H))) := call_tuple_of

/-! ### all of a list of truths, sorted of a list of ints -/
theorem vals_bl : ∀ {bs : List Bool} {us : List Value}, Vals (bs.map V.bl) us → us = bs.map Value.bool
  | [], _, h => by cases h; rfl
  | b :: bs, _, h => by
    cases h with
    | cons r t => cases r; rw [vals_bl t]; rfl
theorem call_allG (hc : X.calm = true) : CallR X (.builtin "all") (fun xs H Q => ∃ (p : Addr) (bs : List Bool), xs = [.ref p] ∧ SqL X.K H p (bs.map V.bl) ∧ Q (.bl (bs.all id)) H) := by
  intro pins s σ H xs us Q I r h
  obtain ⟨p, bs, rfl, hq, q⟩ := h
  obtain ⟨u, rfl, rx⟩ := vals1 r
  cases rx
  obtain ⟨its, rv, pl, hz⟩ := I.list hq
  have hits := vals_bl rv
  subst hits
  have hA : X.A.in1.handled = none := I.ok.hd hc
  obtain ⟨o, ho, hcl, n, hd⟩ := pl.isList
  have hne : p ≠ s.heap.objs.size := Nat.ne_of_lt (Heap.lt_size ho)
  refine call_all_walk (wpAny_pyIter_list pl.isList ?_)
  refine ⟨s.heap.objs.size, _, _, _, _, _, fun i => bs.getD i true, rfl, Walks.list (prog := X.prog) (w := X.w) hA s.heap.objs.size p hne (bs.map Value.bool).toArray, ⟨⟨_, Heap.get?_push_size _ rfl, rfl, rfl⟩, ⟨o, Heap.get?_push_of_some _ ho, hcl, n, hd⟩⟩, ?_, fun h' tk hk => ?_⟩
  · intro i v s' Q' E' hP hQ
    have hP' : (bs.map Value.bool).toArray[i]? = some v := hP
    rw [List.getElem?_toArray, List.getElem?_map] at hP'
    cases e : bs[i]? with
    | none => rw [e] at hP'; cases hP'
    | some b =>
      rw [e] at hP'
      cases hP'
      have hQ : Q' (bs.getD i true) s' := hQ
      rw [List.getD_eq_getElem?_getD, e] at hQ
      exact wpAny_truthy_bool hQ
  · have z : (List.range (bs.map Value.bool).toArray.size).all (fun i => bs.getD i true) = bs.all id := by
      rw [List.size_toArray, List.length_map, Bool.eq_iff_iff, List.all_eq_true, List.all_eq_true]
      constructor
      · intro h b hb
        obtain ⟨i, hi, e⟩ := List.mem_iff_getElem.mp hb
        have := h i (List.mem_range.mpr hi)
        rw [List.getD_eq_getElem?_getD, List.getElem?_eq_getElem hi] at this
        simpa [e] using this
      · intro h i hi
        have hi' := List.mem_range.mp hi
        rw [List.getD_eq_getElem?_getD, List.getElem?_eq_getElem hi']
        exact h _ (List.getElem_mem hi')
    rw [z]
    have I1 : Inv X pins σ H { s with heap := s.heap.push { cls := .type "list_iterator", data := .fields #[.ref p, .int 0 0] } } := I.kept (t' := s.toks) fun b o e => Heap.get?_push_of_some _ e
    have fk : FpOk X pins H s.heap.objs.size := I.fpOk (Nat.le_refl _) (I.hok.fresh (Nat.le_refl _))
    obtain ⟨f0, f1, f2, f3, f4, f5⟩ := fk
    exact ⟨.bl _, H, I1.turned (t' := tk) (it := s.heap.objs.size) (fun b o hb e => hk b o (fun z => hb (List.mem_singleton.mp z)) e) f0 f1 f3 f4 f5, rfl, q⟩
theorem call_sortedG : CallR X (.builtin "sorted") (fun xs H Q => ∃ (p : Addr) (ns : List Int), xs = [.ref p] ∧ SqL X.K H p (ns.map V.int) ∧ ns.length < 64 ∧ ∀ (l : Addr) (ms : List Int), H l = none → List.Perm ms ns → ms.Pairwise (· ≤ ·) → Q (.ref l) (upd H l (.lst (ms.map V.int)))) := by
  intro pins s σ H xs us Q I r h
  obtain ⟨p, ns, rfl, hq, hl, q⟩ := h
  obtain ⟨u, rfl, rx⟩ := vals1 r
  cases rx
  obtain ⟨its, rv, pl, hz⟩ := I.list hq
  have hI : IntsAre its ns := intsAre_of rv
  have h64 : its.length < 64 := by rw [← rv.length, List.length_map]; exact hl
  refine sorted_ints pl.isList hI h64 fun out ms hout hperm hpair => ?_
  obtain ⟨e, he⟩ := sortedAll_at s.heap its out
  refine ⟨.ref (s.heap.objs.size + 1), _, I.laid (t' := s.toks) (o := .lst (ms.map V.int)) (fun b ob q => sortedAll_old q) (Nat.le_succ _) ?_, rfl, q _ ms (I.hok.fresh (Nat.le_succ _)) hperm hpair⟩
  have hlm : ms.length = ns.length := hperm.length_eq
  exact ⟨by rw [List.length_map]; have : (64 : Nat) ≤ sizeLine := by decide
            omega, out.toList, e, vals_ints hout, by simpa using he⟩
theorem call_maxG (hc : X.calm = true) : CallR X (.builtin "max") (fun xs H Q => ∃ i j, xs = [.int i, .int j] ∧ Q (.int (if j > i then j else i)) H) := call_max2 hc
theorem call_minG (hc : X.calm = true) : CallR X (.builtin "min") (fun xs H Q => ∃ i j, xs = [.int i, .int j] ∧ Q (.int (if j < i then j else i)) H) := call_min2 hc
/-! ### what is walked: a tuple or a list -/
theorem PI.or {tg iter : Expr} {wi wi' : TI} (h : PI X tg iter wi) (h' : PI X tg iter wi') : PI X tg iter (fun σ H R => wi σ H R ∨ wi' σ H R) := by
  intro pins s σ H R I q
  rcases q with q | q
  · exact h pins s σ H R I q
  · exact h' pins s σ H R I q
theorem pi_seq {tg l : Expr} {tl : TE} (hl : PE X l tl) : PI X tg l (fun σ H R => iTup X.K tl σ H R ∨ iList X.K tl σ H R) := (pi_tup hl).or (pi_list hl)
end
end L2

namespace L2
open PySem PySem.Spec PyProof.Rows
/-! ### the readings, applied: rewriting rules that turn a reading into plain logic -/
section
variable {σ : St} {H : Hp} {Q : VK} {QT : Bool → Hp → Prop} {QA : List V → Hp → Prop} {QO : Option Int → Hp → Prop} {D0 : Ends} {R : It → Hp → Prop} {ta tb tc te : TE} {tA tB' : TT} {t u : TS} {ar : TA} {g : TG} {gs : TGs} {r r' : R2} {K : PySem.W.Frag}
theorem ap_seq : tSeq t u D0 σ H = t { D0 with nx := u D0 } σ H := propext ⟨fun h => h, fun h => h⟩
theorem ap_next : tNext D0 σ H = D0.nx σ H := propext ⟨fun h => h, fun h => h⟩
theorem ap_asg : tAsg te g D0 σ H = te σ H fun x H1 => g x σ H1 D0.nx := propext ⟨fun h => h, fun h => h⟩
theorem ap_drop : tDrop te D0 σ H = te σ H fun _ H1 => D0.nx σ H1 := propext ⟨fun h => h, fun h => h⟩
theorem ap_ret : tRet te D0 σ H = te σ H D0.rt := propext ⟨fun h => h, fun h => h⟩
theorem ap_ifS : tIfS tA t u D0 σ H = tA σ H fun b H1 => if b = true then t D0 σ H1 else u D0 σ H1 := propext ⟨fun h => h, fun h => h⟩
theorem ap_var {i : Nat} : tVar i σ H Q = ∃ v, σ[i]? = some (some v) ∧ Q v H := propext ⟨fun h => h, fun h => h⟩
theorem ap_c {v : V} : tC v σ H Q = Q v H := propext ⟨fun h => h, fun h => h⟩
theorem ap_op : tOp r ta tb σ H Q = ta σ H fun x H1 => tb σ H1 fun y H2 => r x y H2 Q := propext ⟨fun h => h, fun h => h⟩
theorem ap_un {r1 : V → Hp → VK → Prop} : tUn r1 ta σ H Q = ta σ H fun x H1 => r1 x H1 Q := propext ⟨fun h => h, fun h => h⟩
theorem ap_test : tTest te σ H QT = te σ H fun x H' => ∃ k, x = .bl k ∧ QT k H' := propext ⟨fun h => h, fun h => h⟩
theorem ap_B : tB te σ H QT = te σ H fun x H1 => ∃ c, x = .bl c ∧ QT c H1 := propext ⟨fun h => h, fun h => h⟩
theorem ap_and : tAnd tA tB' σ H QT = tA σ H fun c H1 => if c = true then tB' σ H1 QT else QT false H1 := propext ⟨fun h => h, fun h => h⟩
theorem ap_or : tOr tA tB' σ H QT = tA σ H fun c H1 => if c = true then QT true H1 else tB' σ H1 QT := propext ⟨fun h => h, fun h => h⟩
theorem ap_not : tNot tA σ H QT = tA σ H fun c H1 => QT (!c) H1 := propext ⟨fun h => h, fun h => h⟩
theorem ap_andV : tAndV ta tb σ H Q = ta σ H fun x H1 => ∃ c, x = .bl c ∧ if c = true then tb σ H1 Q else Q (.bl false) H1 := propext ⟨fun h => h, fun h => h⟩
theorem ap_orV : tOrV ta tb σ H Q = ta σ H fun x H1 => ∃ c, x = .bl c ∧ if c = true then Q (.bl true) H1 else tb σ H1 Q := propext ⟨fun h => h, fun h => h⟩
theorem ap_notV : tNotV ta σ H Q = ta σ H fun x H1 => ∃ c, x = .bl c ∧ Q (.bl (!c)) H1 := propext ⟨fun h => h, fun h => h⟩
theorem ap_chain : tChain r r' ta tb tc σ H Q = ta σ H fun x H1 => tb σ H1 fun y H2 => r x y H2 fun z H3 => ∃ k, z = .bl k ∧ (if k = true then tc σ H3 fun w' H4 => r' y w' H4 Q else Q (.bl false) H3) := propext ⟨fun h => h, fun h => h⟩
theorem ap_nil : tNil σ H QA = QA [] H := propext ⟨fun h => h, fun h => h⟩
theorem ap_cons : tCons te ar σ H QA = te σ H fun x H1 => ar σ H1 fun xs H2 => QA (x :: xs) H2 := propext ⟨fun h => h, fun h => h⟩
theorem ap_tup : tTup ar σ H Q = ar σ H fun xs H1 => xs.length ≤ sizeLine ∧ ∀ p, H1 p = none → Q (.ref p) (upd H1 p (.tup xs)) := propext ⟨fun h => h, fun h => h⟩
theorem ap_lst : tLst ar σ H Q = ar σ H fun xs H1 => xs.length ≤ sizeLine ∧ ∀ p, H1 p = none → Q (.ref p) (upd H1 p (.lst xs)) := propext ⟨fun h => h, fun h => h⟩
theorem ap_call {sp : Sp} {dvs : List V} {E : XK} : tCall sp dvs E ar σ H Q = ar σ H fun vs H1 => sp (vs ++ dvs) H1 Q E := propext ⟨fun h => h, fun h => h⟩
theorem ap_CB {rr : List V → Hp → VK → Prop} : tCB rr ar σ H Q = ar σ H fun vs H1 => rr vs H1 Q := propext ⟨fun h => h, fun h => h⟩
theorem ap_isT {T : String} : tIsT T te σ H Q = te σ H fun x H1 => ∃ d, Rep H1 x d ∧ Q (.bl (isT T d)) H1 := propext ⟨fun h => h, fun h => h⟩
theorem ap_name {i : Nat} {v : V} {QS : St → Hp → Prop} : gName i v σ H QS = QS (σ.set i (some v)) H := propext ⟨fun h => h, fun h => h⟩
theorem ap_gcons {vs : List V} {QS : St → Hp → Prop} : gCons g gs vs σ H QS = ∃ v r, vs = v :: r ∧ g v σ H fun σ' H' => gs r σ' H' QS := propext ⟨fun h => h, fun h => h⟩
theorem ap_gnil {vs : List V} {QS : St → Hp → Prop} : gNil vs σ H QS = (vs = [] ∧ QS σ H) := propext ⟨fun h => h, fun h => h⟩
theorem ap_gcons' {v : V} {vs : List V} {QS : St → Hp → Prop} : gCons g gs (v :: vs) σ H QS = g v σ H fun σ' H' => gs vs σ' H' QS := by
  refine propext ⟨fun ⟨v', r, e, h⟩ => ?_, fun h => ⟨v, vs, rfl, h⟩⟩
  cases e
  exact h
theorem ap_gnil' {QS : St → Hp → Prop} : gNil [] σ H QS = QS σ H := propext ⟨fun h => h.2, fun h => ⟨rfl, h⟩⟩
theorem ap_gsub {to ti : TE} {ts : TSet} {v : V} {QS : St → Hp → Prop} : gSub to ti ts v σ H QS = to σ H fun o H1 => ti σ H1 fun i H2 => ts o i v H2 fun H3 => QS σ H3 := propext ⟨fun h => h, fun h => h⟩
theorem ap_nopart : tNoPart σ H QO = QO none H := propext ⟨fun h => h, fun h => h⟩
theorem ap_part : tPart te σ H QO = te σ H fun x H1 => ∃ i, x = .int i ∧ QO (some i) H1 := propext ⟨fun h => h, fun h => h⟩
theorem ap_sl {rs : V → Option Int → Option Int → Hp → VK → Prop} {tl th : TO} : tSl rs te tl th σ H Q = te σ H fun x H1 => tl σ H1 fun l H2 => th σ H2 fun u H3 => rs x l u H3 Q := propext ⟨fun h => h, fun h => h⟩
theorem ap_I0 {f : Int → Int → V} {x y : V} : rI0 f x y H Q = ∃ i j, x = .int i ∧ y = .int j ∧ Q (f i j) H := propext ⟨fun h => h, fun h => h⟩
theorem ap_I {C : Int → Int → Prop} {f : Int → Int → V} {x y : V} : rI C f x y H Q = ∃ i j, x = .int i ∧ y = .int j ∧ C i j ∧ Q (f i j) H := propext ⟨fun h => h, fun h => h⟩
theorem ap_U {f : Int → V} {x : V} : rU f x H Q = ∃ i, x = .int i ∧ Q (f i) H := propext ⟨fun h => h, fun h => h⟩
theorem ap_eq {x y : V} : rEq x y H Q = (scal x y = true ∧ Q (.bl (decide (x = y))) H) := propext ⟨fun h => h, fun h => h⟩
theorem ap_ne {x y : V} : rNe x y H Q = (scal x y = true ∧ Q (.bl (!decide (x = y))) H) := propext ⟨fun h => h, fun h => h⟩
theorem ap_isB {x y : V} : rIsB x y H Q = ∃ a b, x = .bl a ∧ y = .bl b ∧ Q (.bl (a == b)) H := propext ⟨fun h => h, fun h => h⟩
theorem ap_isntB {x y : V} : rIsntB x y H Q = ∃ a b, x = .bl a ∧ y = .bl b ∧ Q (.bl (a != b)) H := propext ⟨fun h => h, fun h => h⟩
theorem ap_setL {o i v : V} {QH : Hp → Prop} : rSetL o i v H QH = ∃ p xs k j, o = .ref p ∧ i = .int k ∧ H p = some (.lst xs) ∧ ixN xs.length k = some j ∧ QH (upd H p (.lst (xs.set j v))) := propext ⟨fun h => h, fun h => h⟩
theorem ap_rng1 : iRng1 ar σ H R = ar σ H fun vs H1 => ∃ j : Int, vs = [.int j] ∧ -(2 ^ 62) ≤ j ∧ j < 2 ^ 62 ∧ R (Itr 0 j.toNat) H1 := propext ⟨fun h => h, fun h => h⟩
theorem ap_rng2 : iRng2 ar σ H R = ar σ H fun vs H1 => ∃ i j : Int, vs = [.int i, .int j] ∧ (-(2 ^ 62) ≤ i ∧ i < 2 ^ 62 ∧ -(2 ^ 62) ≤ j ∧ j < 2 ^ 62) ∧ R (Itr i (j - i).toNat) H1 := propext ⟨fun h => h, fun h => h⟩
theorem ap_zip : iZip ar σ H R = ar σ H fun vs H1 => ∃ t u xs ys, vs = [.ref t, .ref u] ∧ H1 t = some (.tup xs) ∧ H1 u = some (.tup ys) ∧ R (Itz t u) H1 := propext ⟨fun h => h, fun h => h⟩
theorem ap_enum : iEnum K te σ H R = te σ H fun x H1 => ∃ a, x = .ref a ∧ (∃ xs, SqL K H1 a xs) ∧ R (Ite K a) H1 := propext ⟨fun h => h, fun h => h⟩
/-- a loop's claim, folded -/
def ForW (J : It) (g : TG) (tb : TS) (D : Ends) (σ : St) (H1 : Hp) : Prop := ∃ W : Nat → Nat → St → Hp → Prop, (∃ m, W 0 m σ H1) ∧ ∀ i m σ H, W i m σ H →
  (J.stop i H ∧ D.nx σ H) ∨ (J.go i H ∧ ∃ N : St → Hp → Prop, (∀ σ' H', N σ' H' → ∃ m', m' < m ∧ W (i + 1) m' σ' H') ∧ ∀ x H', J.yld i H x H' → g x σ H' fun σ2 H2 => tb { D with nx := N, ct := N, bk := D.nx } σ2 H2)
theorem ap_for {wi : TI} {tb : TS} : tFor wi g tb D0 σ H = wi σ H fun J H1 => ForW J g tb D0 σ H1 := propext ⟨fun h => h, fun h => h⟩
theorem ap_lc {wi : TI} {k : Nat} : tLC wi g tA te k σ H Q = wi σ H fun J H1 => ∀ D, H1 D = none → LCW J g tA te k D σ H1 fun H2 => Q (.ref D) H2 := propext ⟨fun h => h, fun h => h⟩
theorem ap_slc {wi : TI} {k i : Nat} : sLC wi g tA te k i D0 σ H = wi σ H fun J H1 => ∀ D, H1 D = none → LCW J g tA te k D σ H1 fun H2 => D0.nx (σ.set i (some (.ref D))) H2 := propext ⟨fun h => h, fun h => h⟩
theorem ap_yes : tYes σ H QT = QT true H := propext ⟨fun h => h, fun h => h⟩
end

/-! ### rules by what stands in the abstract heap -/
def seqH (H : Hp) (p : Addr) : Option (List V) := match H p with
  | some (.lst xs) => some xs
  | some (.tup xs) => some xs
  | _ => none
theorem seqH_t {H : Hp} {p : Addr} {xs : List V} (h : H p = some (.tup xs)) : seqH H p = some xs := by unfold seqH; rw [h]
theorem seqH_l {H : Hp} {p : Addr} {xs : List V} (h : H p = some (.lst xs)) : seqH H p = some xs := by unfold seqH; rw [h]
theorem seqH_or {H : Hp} {p : Addr} {xs : List V} (h : seqH H p = some xs) : H p = some (.lst xs) ∨ H p = some (.tup xs) := by
  unfold seqH at h
  split at h
  · cases h; exact .inl ‹_›
  · cases h; exact .inr ‹_›
  · cases h
section
variable {X : Cx}
def rIxH : R2 := fun x y H Q => ∃ p i xs v, x = .ref p ∧ y = .int i ∧ seqH H p = some xs ∧ atI xs i = some v ∧ Q v H
theorem ap_ixH {x y : V} {H : Hp} {Q : VK} : rIxH x y H Q = ∃ p i xs v, x = .ref p ∧ y = .int i ∧ seqH H p = some xs ∧ atI xs i = some v ∧ Q v H := propext ⟨fun h => h, fun h => h⟩
theorem ix_H : IxR X rIxH := by
  intro value slice pins s σ H x y v u Q I rx ry q hs
  obtain ⟨p, i, xs, w', rfl, rfl, h, e, q⟩ := q
  rcases seqH_or h with h | h
  · exact ix_list value slice pins s σ H _ _ v u Q I rx ry ⟨p, xs, i, w', rfl, rfl, SqL.of h, e, q⟩ hs
  · exact ix_tup value slice pins s σ H _ _ v u Q I rx ry ⟨p, xs, i, w', rfl, rfl, SqT.of h, e, q⟩ hs
def rLenH : List V → Hp → VK → Prop := fun vs H Q => ∃ p xs, vs = [.ref p] ∧ seqH H p = some xs ∧ Q (.int xs.length) H
theorem ap_lenH {vs : List V} {H : Hp} {Q : VK} : rLenH vs H Q = ∃ p xs, vs = [.ref p] ∧ seqH H p = some xs ∧ Q (.int xs.length) H := propext ⟨fun h => h, fun h => h⟩
theorem call_lenH : CallR X (.builtin "len") rLenH := by
  intro pins s σ H vs us Q I r h
  obtain ⟨p, xs, rfl, h, q⟩ := h
  rcases seqH_or h with h | h
  · exact call_len pins s σ H _ us Q I r ⟨_, _, rfl, .inl ⟨xs, SqL.of h, rfl⟩, q⟩
  · exact call_len pins s σ H _ us Q I r ⟨_, _, rfl, .inr ⟨xs, SqT.of h, rfl⟩, q⟩
def rListH : List V → Hp → VK → Prop := fun vs H Q => ∃ p xs, vs = [.ref p] ∧ seqH H p = some xs ∧ ∀ l, H l = none → Q (.ref l) (upd H l (.lst xs))
theorem ap_listH {vs : List V} {H : Hp} {Q : VK} : rListH vs H Q = ∃ p xs, vs = [.ref p] ∧ seqH H p = some xs ∧ ∀ l, H l = none → Q (.ref l) (upd H l (.lst xs)) := propext ⟨fun h => h, fun h => h⟩
theorem call_listH : CallR X (.type "list") rListH := by
  intro pins s σ H vs us Q I r h
  obtain ⟨p, xs, rfl, h, q⟩ := h
  rcases seqH_or h with h | h
  · exact call_list_of pins s σ H _ us Q I r ⟨p, xs, rfl, .inl (SqL.of h), q⟩
  · exact call_list_of pins s σ H _ us Q I r ⟨p, xs, rfl, .inr (SqT.of h), q⟩
def rTupleH : List V → Hp → VK → Prop := fun vs H Q => ∃ p, vs = [.ref p] ∧ ((∃ xs, H p = some (.lst xs) ∧ ∀ l, H l = none → Q (.ref l) (upd H l (.tup xs))) ∨ ∃ xs, H p = some (.tup xs) ∧ Q (.ref p) H)
theorem ap_tupleH {vs : List V} {H : Hp} {Q : VK} : rTupleH vs H Q = ∃ p, vs = [.ref p] ∧ ((∃ xs, H p = some (.lst xs) ∧ ∀ l, H l = none → Q (.ref l) (upd H l (.tup xs))) ∨ ∃ xs, H p = some (.tup xs) ∧ Q (.ref p) H) := propext ⟨fun h => h, fun h => h⟩
theorem call_tupleH : CallR X (.type "tuple") rTupleH := by
  intro pins s σ H vs us Q I r h
  obtain ⟨p, rfl, ⟨xs, h, q⟩ | ⟨xs, h, q⟩⟩ := h
  · exact call_tuple_of pins s σ H _ us Q I r ⟨p, xs, rfl, .inl ⟨SqL.of h, q⟩⟩
  · exact call_tuple_of pins s σ H _ us Q I r ⟨p, xs, rfl, .inr ⟨SqT.of h, q⟩⟩
def rSlH : V → Option Int → Option Int → Hp → VK → Prop := fun x lo hi H Q => ∃ p, x = .ref p ∧ ((∃ xs, H p = some (.tup xs) ∧ (wholeS xs.length lo hi → Q (.ref p) H) ∧ (¬ wholeS xs.length lo hi → ∀ l, H l = none → Q (.ref l) (upd H l (.tup (cutV xs lo hi))))) ∨
  ∃ xs, H p = some (.lst xs) ∧ ∀ l, H l = none → Q (.ref l) (upd H l (.lst (cutV xs lo hi))))
theorem sl_H : SlR X rSlH := by
  intro pins s σ H x v vl vu lo hi sl Q I rx hs pl pu h
  obtain ⟨p, rfl, ⟨xs, h, q1, q2⟩ | ⟨xs, h, q⟩⟩ := h
  · exact sl_tupG pins s σ H _ v vl vu lo hi sl Q I rx hs pl pu ⟨p, xs, rfl, SqT.of h, q1, q2⟩
  · exact sl_list pins s σ H _ v vl vu lo hi sl Q I rx hs pl pu ⟨p, xs, rfl, SqL.of h, q⟩
def rInH (neg : Bool) : R2 := fun x y H Q => ∃ p xs, y = .ref p ∧ seqH H p = some xs ∧ flatV x = true ∧ xs.all flatV = true ∧ Q (.bl (if neg then !inV x xs else inV x xs)) H
theorem ap_inH {neg : Bool} {x y : V} {H : Hp} {Q : VK} : rInH neg x y H Q = ∃ p xs, y = .ref p ∧ seqH H p = some xs ∧ flatV x = true ∧ xs.all flatV = true ∧ Q (.bl (if neg then !inV x xs else inV x xs)) H := propext ⟨fun h => h, fun h => h⟩
theorem op_inH : OpR X (compareOp .In) (rInH false) := by
  intro pins s σ H x y v u Q I rx ry h
  obtain ⟨p, xs, rfl, h, f1, f2, q⟩ := h
  rcases seqH_or h with h | h
  · exact op_in_seq pins s σ H _ _ v u Q I rx ry ⟨p, xs, rfl, .inl (SqL.of h), f1, f2, q⟩
  · exact op_in_seq pins s σ H _ _ v u Q I rx ry ⟨p, xs, rfl, .inr (SqT.of h), f1, f2, q⟩
theorem op_notInH : OpR X (compareOp .NotIn) (rInH true) := by
  intro pins s σ H x y v u Q I rx ry h
  obtain ⟨p, xs, rfl, h, f1, f2, q⟩ := h
  rcases seqH_or h with h | h
  · exact op_notIn_seq pins s σ H _ _ v u Q I rx ry ⟨p, xs, rfl, .inl (SqL.of h), f1, f2, q⟩
  · exact op_notIn_seq pins s σ H _ _ v u Q I rx ry ⟨p, xs, rfl, .inr (SqT.of h), f1, f2, q⟩
/-- + -/
def rAddH : R2 := fun x y H Q => (∃ i j, x = .int i ∧ y = .int j ∧ Q (.int (i + j)) H) ∨ ∃ a b, x = .ref a ∧ y = .ref b ∧
  ((∃ xs ys, H a = some (.tup xs) ∧ H b = some (.tup ys) ∧ xs.length + ys.length ≤ sizeLine ∧ (xs = [] → Q (.ref b) H) ∧ (xs ≠ [] → ys = [] → Q (.ref a) H) ∧ (xs ≠ [] → ys ≠ [] → ∀ p, H p = none → Q (.ref p) (upd H p (.tup (xs ++ ys))))) ∨
   ∃ xs ys, H a = some (.lst xs) ∧ H b = some (.lst ys) ∧ xs.length + ys.length ≤ sizeLine ∧ ∀ p, H p = none → Q (.ref p) (upd H p (.lst (xs ++ ys))))
theorem ap_addI {i j : Int} {H : Hp} {Q : VK} : rAddH (.int i) (.int j) H Q = Q (.int (i + j)) H := by
  unfold rAddH
  refine propext ⟨fun h => ?_, fun h => .inl ⟨i, j, rfl, rfl, h⟩⟩
  rcases h with ⟨_, _, e1, e2, h⟩ | ⟨_, _, e, _⟩
  · cases e1; cases e2; exact h
  · cases e
theorem op_addH : OpR X (binaryOp .Add) rAddH := by
  intro pins s σ H x y v u Q I rx ry h
  rcases h with ⟨i, j, rfl, rfl, q⟩ | ⟨a, b, rfl, rfl, ⟨xs, ys, h1, h2, hz, q1, q2, q3⟩ | ⟨xs, ys, h1, h2, hz, q⟩⟩
  · exact op_add pins s σ H _ _ v u Q I rx ry ⟨i, j, rfl, rfl, q⟩
  · exact op_catT0 pins s σ H _ _ v u Q I rx ry ⟨a, b, xs, ys, rfl, rfl, SqT.of h1, SqT.of h2, hz, q1, q2, q3⟩
  · exact op_cat pins s σ H _ _ v u Q I rx ry ⟨a, b, xs, ys, rfl, rfl, h1, h2, hz, q⟩
/-- ==, != -/
def rEqG : R2 := fun x y H Q => rEq x y H Q ∨ rEqS x y H Q
def rNeG : R2 := fun x y H Q => rNe x y H Q ∨ rNeS x y H Q
theorem op_eqH (hu : X.A.units + 64 < cLine) : OpR X (compareOp .Eq) rEqG := op_eqG hu
theorem op_neH (hu : X.A.units + 64 < cLine) : OpR X (compareOp .NotEq) rNeG := op_neG hu
theorem ap_eqI {i j : Int} {H : Hp} {Q : VK} : rEqG (.int i) (.int j) H Q = Q (.bl (decide (i = j))) H := by
  refine propext ⟨fun h => ?_, fun h => .inl ⟨rfl, by simpa only [V.int.injEq] using h⟩⟩
  rcases h with ⟨_, h⟩ | ⟨d, e, r, _, _, k, _⟩
  · simpa only [V.int.injEq] using h
  · cases r
    rcases k with ⟨_, _, e, _⟩ | ⟨_, _, e, _⟩ <;> cases e
theorem ap_neI {i j : Int} {H : Hp} {Q : VK} : rNeG (.int i) (.int j) H Q = Q (.bl (!decide (i = j))) H := by
  refine propext ⟨fun h => ?_, fun h => .inl ⟨rfl, by simpa only [V.int.injEq] using h⟩⟩
  rcases h with ⟨_, h⟩ | ⟨d, e, r, _, _, k, _⟩
  · simpa only [V.int.injEq] using h
  · cases r
    rcases k with ⟨_, _, e, _⟩ | ⟨_, _, e, _⟩ <;> cases e
theorem ap_eqBl {i j : Bool} {H : Hp} {Q : VK} : rEqG (.bl i) (.bl j) H Q = Q (.bl (decide (i = j))) H := by
  refine propext ⟨fun h => ?_, fun h => .inl ⟨rfl, by simpa only [V.bl.injEq] using h⟩⟩
  rcases h with ⟨_, h⟩ | ⟨d, e, r, _, _, k, _⟩
  · simpa only [V.bl.injEq] using h
  · cases r
    rcases k with ⟨_, _, e, _⟩ | ⟨_, _, e, _⟩ <;> cases e
theorem ap_eqD {x y : V} {d e : D} {H : Hp} {Q : VK} (r1 : Rep H x d) (r2 : Rep H y e) (hd : D.depth d ≤ 50) (k : (∃ ds es, d = .tup ds ∧ e = .tup es) ∨ ∃ ds es, d = .lst ds ∧ e = .lst es) (q : Q (.bl (D.eqv d e)) H) : rEqG x y H Q := .inr ⟨d, e, r1, r2, hd, k, q⟩
theorem ap_neD {x y : V} {d e : D} {H : Hp} {Q : VK} (r1 : Rep H x d) (r2 : Rep H y e) (hd : D.depth d ≤ 50) (k : (∃ ds es, d = .tup ds ∧ e = .tup es) ∨ ∃ ds es, d = .lst ds ∧ e = .lst es) (q : Q (.bl (!D.eqv d e)) H) : rNeG x y H Q := .inr ⟨d, e, r1, r2, hd, k, q⟩
/-- is -/
def rIsG : R2 := fun x y H Q => rIsB x y H Q ∨ (y = .non ∧ Q (.bl (decide (x = .non))) H)
def rIsntG : R2 := fun x y H Q => rIsntB x y H Q ∨ (y = .non ∧ Q (.bl (!decide (x = .non))) H)
theorem op_isH : OpR X (compareOp .Is) rIsG := op_isG
theorem op_isntH : OpR X (compareOp .IsNot) rIsntG := op_isntG
theorem ap_isBl {i j : Bool} {H : Hp} {Q : VK} : rIsG (.bl i) (.bl j) H Q = Q (.bl (i == j)) H := by
  refine propext ⟨fun h => ?_, fun h => .inl ⟨i, j, rfl, rfl, h⟩⟩
  rcases h with ⟨_, _, e1, e2, h⟩ | ⟨e, _⟩
  · cases e1; cases e2; exact h
  · cases e
theorem ap_isN {x : V} {H : Hp} {Q : VK} : rIsG x .non H Q = Q (.bl (decide (x = .non))) H := by
  refine propext ⟨fun h => ?_, fun h => .inr ⟨rfl, h⟩⟩
  rcases h with ⟨_, _, _, e2, h⟩ | ⟨_, h⟩
  · cases e2
  · exact h
theorem ap_isntBl {i j : Bool} {H : Hp} {Q : VK} : rIsntG (.bl i) (.bl j) H Q = Q (.bl (i != j)) H := by
  refine propext ⟨fun h => ?_, fun h => .inl ⟨i, j, rfl, rfl, h⟩⟩
  rcases h with ⟨_, _, e1, e2, h⟩ | ⟨e, _⟩
  · cases e1; cases e2; exact h
  · cases e
/-- all of truths, sorted of ints -/
def rAllH : List V → Hp → VK → Prop := fun vs H Q => ∃ (p : Addr) (bs : List Bool), vs = [.ref p] ∧ H p = some (.lst (bs.map V.bl)) ∧ Q (.bl (bs.all id)) H
theorem call_allH (hc : X.calm = true) : CallR X (.builtin "all") rAllH := by
  intro pins s σ H vs us Q I r h
  obtain ⟨p, bs, rfl, h, q⟩ := h
  exact call_allG hc pins s σ H _ us Q I r ⟨p, bs, rfl, SqL.of h, q⟩
def rSortedH : List V → Hp → VK → Prop := fun vs H Q => ∃ (p : Addr) (ns : List Int), vs = [.ref p] ∧ H p = some (.lst (ns.map V.int)) ∧ ns.length < 64 ∧ ∀ (l : Addr) (ms : List Int), H l = none → List.Perm ms ns → ms.Pairwise (· ≤ ·) → Q (.ref l) (upd H l (.lst (ms.map V.int)))
theorem call_sortedH : CallR X (.builtin "sorted") rSortedH := by
  intro pins s σ H vs us Q I r h
  obtain ⟨p, ns, rfl, h, hl, q⟩ := h
  exact call_sortedG pins s σ H _ us Q I r ⟨p, ns, rfl, SqL.of h, hl, q⟩
def rMax : List V → Hp → VK → Prop := fun vs H Q => ∃ i j, vs = [.int i, .int j] ∧ Q (.int (if j > i then j else i)) H
def rMin : List V → Hp → VK → Prop := fun vs H Q => ∃ i j, vs = [.int i, .int j] ∧ Q (.int (if j < i then j else i)) H
theorem call_maxH (hc : X.calm = true) : CallR X (.builtin "max") rMax := call_max2 hc
theorem call_minH (hc : X.calm = true) : CallR X (.builtin "min") rMin := call_min2 hc
theorem ap_max {vs : List V} {H : Hp} {Q : VK} : rMax vs H Q = ∃ i j, vs = [.int i, .int j] ∧ Q (.int (if j > i then j else i)) H := propext ⟨fun h => h, fun h => h⟩
theorem ap_min {vs : List V} {H : Hp} {Q : VK} : rMin vs H Q = ∃ i j, vs = [.int i, .int j] ∧ Q (.int (if j < i then j else i)) H := propext ⟨fun h => h, fun h => h⟩
/-- o.append(e) -/
def tApp (to te : TE) : TE := fun σ H Q => to σ H fun x H1 => ∃ l xs0, x = .ref l ∧ H1 l = some (.lst xs0) ∧ te σ H1 fun y H2 => ∃ xs, H2 l = some (.lst xs) ∧ xs.length < sizeLine ∧ Q .non (upd H2 l (.lst (xs ++ [y])))
theorem ap_app {to te : TE} {σ : St} {H : Hp} {Q : VK} : tApp to te σ H Q = to σ H fun x H1 => ∃ l xs0, x = .ref l ∧ H1 l = some (.lst xs0) ∧ te σ H1 fun y H2 => ∃ xs, H2 l = some (.lst xs) ∧ xs.length < sizeLine ∧ Q .non (upd H2 l (.lst (xs ++ [y]))) := propext ⟨fun h => h, fun h => h⟩
theorem pe_app {o e : Expr} {to te : TE} {apos cpos : Pos} (ho : PE X o to) (he : PE X e te)
    (hbase : attributeBase o "append" X.env (eval o X.env) = eval o X.env := by rfl)
    (hfew : ((backTo cpos (starEach [e] X.env)).all (fun x => !x.1) && (backToKw cpos (keywordEach [] X.env)).all (fun x => x.1.isSome) && decide ([e].length + ([] : List Keyword).length + (if ([] : List Keyword).isEmpty then 0 else 1) < 30)) = true := by rfl)
    (hline : (apos.endLine == cpos.line) = true := by rfl) (hs : starEach [e] X.env = (false, eval e X.env) :: starEach [] X.env := by rfl) : PE X (.Call (.Attribute o "append" apos) [e] [] cpos) (tApp to te) := by
  intro pins s σ H Q I h
  refine wpAny_Call_method_late hbase hfew hline rfl (thn (ho pins s σ H _ I h) fun v s1 ⟨x, H1, I1, r1, l, xs0, e0, hl, q1⟩ => ?_)
  subst e0
  have ty : tyV X.K "list" (.ref l) H1 := .inl ⟨rfl, _, SqL.of hl⟩
  obtain ⟨h1, h2⟩ := tyV_is I1 r1 ty
  refine ⟨"list", _, PySem.F.plainAttrs_list, PySem.F.slot_list_append, PySem.F.type_list_append, h1, h2, ?_⟩
  have hA := (pa_cons he pa_nil hs) cpos pins s1 σ H1 (fun vs H2 => ∃ y, vs = [y] ∧ ∃ xs, H2 l = some (.lst xs) ∧ xs.length < sizeLine ∧ Q .non (upd H2 l (.lst (xs ++ [y])))) I1 (by
    refine cast (congrArg (te σ H1) ?_) q1
    funext y H2
    refine propext ⟨fun q => ⟨y, rfl, q⟩, fun ⟨y', e', q⟩ => ?_⟩
    cases e'
    exact q)
  rw [hs] at hA ⊢
  refine Calls.callWith_builtin (by show (false || (backTo cpos (starEach ([] : List Expr) X.env)).any (·.1)) = false; rfl) (Calls.evalArgs_plain ?_)
  exact thn hA fun us s2 ⟨vs, H2, I2, r2, y, e2, xs, h3, hz, q2⟩ => mt_append pins s2 σ H2 (.ref l) vs v us Q I2 r1 r2 ⟨l, xs, y, rfl, e2, h3, hz, q2⟩
/-- what is walked -/
def iSeqH (K : PySem.W.Frag) (tl : TE) : TI := fun σ H R => tl σ H fun x H1 => ∃ a, x = .ref a ∧ ((∃ xs, H1 a = some (.tup xs) ∧ R (Itt K a) H1) ∨ ∃ xs, H1 a = some (.lst xs) ∧ R (Itl K a) H1)
theorem pi_seqH {tg l : Expr} {tl : TE} (hl : PE X l tl) : PI X tg l (iSeqH X.K tl) := by
  intro pins s σ H R I h
  refine thn (hl pins s σ H _ I h) fun v s1 ⟨x, H1, I1, r1, q1⟩ => ?_
  obtain ⟨a, e, q1⟩ := q1
  subst e
  cases r1
  rcases q1 with ⟨xs, hx, q⟩ | ⟨xs, hx, q⟩
  · obtain ⟨its, rv, p, hz⟩ := I1.tuple (SqT.of hx)
    refine wpAny_pyIter_tuple (show s1.heap.IsTuple a its.toArray from p) ?_
    refine ⟨s1.heap.objs.size, [s1.heap.objs.size], _, _, H1, rfl, I1.kept (t' := s1.toks) fun b o e => Heap.get?_push_of_some _ e, turn_tuple a _, ⟨_, Heap.get?_push_size _ rfl, rfl, rfl⟩, fun b hb => ?_, q⟩
    rw [List.mem_singleton.mp hb]
    exact I1.fpOk (Nat.le_refl _) (I1.hok.fresh (Nat.le_refl _))
  · obtain ⟨its, rv, p, hz⟩ := I1.list (SqL.of hx)
    refine wpAny_pyIter_list p.isList ?_
    refine ⟨s1.heap.objs.size, [s1.heap.objs.size], _, _, H1, rfl, I1.kept (t' := s1.toks) fun b o e => Heap.get?_push_of_some _ e, turn_list a _, ⟨_, Heap.get?_push_size _ rfl, rfl, rfl⟩, fun b hb => ?_, q⟩
    rw [List.mem_singleton.mp hb]
    exact I1.fpOk (Nat.le_refl _) (I1.hok.fresh (Nat.le_refl _))
def tRevH (te ts : TE) : TE := fun σ H Q => te σ H fun x H1 => ts σ H1 fun y H2 => ∃ a xs, x = .ref a ∧ y = .int (-1) ∧ H2 a = some (.tup xs) ∧ ∀ p, H2 p = none → Q (.ref p) (upd H2 p (.tup xs.reverse))
theorem ap_revH {te ts : TE} {σ : St} {H : Hp} {Q : VK} : tRevH te ts σ H Q = te σ H fun x H1 => ts σ H1 fun y H2 => ∃ a xs, x = .ref a ∧ y = .int (-1) ∧ H2 a = some (.tup xs) ∧ ∀ p, H2 p = none → Q (.ref p) (upd H2 p (.tup xs.reverse)) := propext ⟨fun h => h, fun h => h⟩
end

theorem pe_revH {X : Cx} {e st : Expr} {te ts : TE} {p2 pos : Pos} (he : PE X e te) (hs : PE X st ts) : PE X (.Subscript e (.Slice none none (some st) p2) pos) (tRevH te ts) := by
  intro pins s σ H Q I h
  refine Subscript_ (thn (he pins s σ H _ I h) fun v s1 ⟨x, H1, I1, r1, q1⟩ => ?_)
  refine wpAny_Slice ?_
  rw [evalPart_none]
  refine wpAny_pure (wpAny_pure ?_)
  rw [evalPart_some]
  refine thn (hs pins s1 σ H1 _ I1 q1) fun u s2 ⟨y, H2, I2, r2, q2⟩ => ?_
  obtain ⟨a, xs, rfl, rfl, hx, q⟩ := q2
  cases r1
  obtain ⟨tk, rfl⟩ := r2
  have I3 : Inv X pins σ H2 { s2 with heap := s2.heap.push { cls := .type "slice", data := .fields #[.none, .none, .int (-1) tk] } } := I2.kept (t' := s2.toks) fun b ob q => Heap.get?_push_of_some _ q
  obtain ⟨its, r, ht, hz⟩ := I3.tuple (SqT.of hx)
  show wpAny (model X.prog X.w) X.A (subscriptTail e (.Slice none none (some st) p2) (.ref a) (.ref s2.heap.objs.size)) (EP X pins σ Q) X.xe { s2 with heap := s2.heap.push { cls := .type "slice", data := .fields #[.none, .none, .int (-1) tk] } }
  refine tail_any (ops := [.ref a, .ref s2.heap.objs.size]) ht.typeIs PyProof.Rows.slot_tuple_getitem.lookup (sliceRev ht (Heap.IsSliceOf.new ..) (by rw [← r.length]; exact hz) ?_) (by with_unfolding_all rfl)
  refine ⟨.ref _, _, I3.laid (t' := s2.toks) (o := .tup xs.reverse) (fun b ob q => Heap.get?_push_of_some _ q) (Nat.le_refl _) ?_, rfl, q _ (I3.hok.fresh (Nat.le_refl _))⟩
  exact ⟨by rw [List.length_reverse]; exact hz, _, r.reverse, IsTup.new _ _⟩
/-- (a, b, ..) = a tuple of that length, the text's part and the length written out -/
theorem pg_tupN {X : Cx} (K : PySem.W.Frag) (n : Nat) {es : List Expr} {k : Nat} {t : TGs} {pos : Pos} (hK : X.K = K) (hc : X.calm = true) (h : PGs X es t) (hn : (assignEach es X.env).length = n := by rfl) (hst : (assignEach es X.env).findIdx? (·.1) = none := by rfl) : PG X (.Tuple es k pos) (gTup K n t) := by
  subst hK
  exact pg_tup hc h hn hst
theorem ix_ok {n : Nat} {k : Int} (h0 : 0 ≤ k) (h : k < (n : Int)) : ixN n k = some k.toNat := by
  unfold ixN
  rw [if_pos h0, if_pos h]
theorem start_cc {n : Str} {N : List Str} {v : V} {vs : List V} : start (n :: N) (v :: vs) = some v :: start N vs := by
  unfold start
  simp only [List.map_cons, List.length_cons, Nat.add_sub_add_right, List.cons_append]
theorem start_cn {n : Str} {N : List Str} : start (n :: N) [] = none :: start N [] := by
  unfold start
  simp only [List.map_nil, List.length_cons, List.length_nil, Nat.sub_zero, List.nil_append, List.replicate_succ]
theorem start_nn : start [] [] = [] := rfl

/-! ### loops and comprehensions by a word -/
section
variable {g : TG} {tb : TS} {D0 : Ends} {σ : St} {H : Hp} {K : PySem.W.Frag} {a : Addr} {xs ys : List V}
theorem ForW.range {lo : Int} {n : Nat} (Pv : Nat → St → Hp → Prop) (h0 : Pv 0 σ H)
    (hs : ∀ i σ H, i < n → Pv i σ H → g (.int (lo + i)) σ H fun σ2 H2 => tb { D0 with nx := Pv (i + 1), ct := Pv (i + 1), bk := D0.nx } σ2 H2) (hd : ∀ σ H, Pv n σ H → D0.nx σ H) : ForW (Itr lo n) g tb D0 σ H := for_range Pv h0 hs hd
theorem ForW.list (Pv : Nat → St → Hp → Prop) (h0 : Pv 0 σ H) (hl : ∀ i σ H, i ≤ xs.length → Pv i σ H → H a = some (.lst xs))
    (hs : ∀ i x σ H, xs[i]? = some x → Pv i σ H → g x σ H fun σ2 H2 => tb { D0 with nx := Pv (i + 1), ct := Pv (i + 1), bk := D0.nx } σ2 H2) (hd : ∀ σ H, Pv xs.length σ H → D0.nx σ H) : ForW (Itl K a) g tb D0 σ H :=
  for_list Pv h0 (fun i σ H h p => SqL.of (hl i σ H h p)) hs hd
theorem ForW.tup (Pv : Nat → St → Hp → Prop) (h0 : Pv 0 σ H) (hl : ∀ i σ H, i ≤ xs.length → Pv i σ H → H a = some (.tup xs))
    (hs : ∀ i x σ H, xs[i]? = some x → Pv i σ H → g x σ H fun σ2 H2 => tb { D0 with nx := Pv (i + 1), ct := Pv (i + 1), bk := D0.nx } σ2 H2) (hd : ∀ σ H, Pv xs.length σ H → D0.nx σ H) : ForW (Itt K a) g tb D0 σ H :=
  for_tup Pv h0 (fun i σ H h p => SqT.of (hl i σ H h p)) hs hd
/-- over enumerate of a list that the body leaves as it is -/
theorem ForW.enum (Pv : Nat → St → Hp → Prop) (h0 : Pv 0 σ H) (hl : ∀ i σ H, i ≤ xs.length → Pv i σ H → SqL K H a xs)
    (hs : ∀ i x σ H p, xs[i]? = some x → H p = none → Pv i σ H → g (.ref p) σ (upd H p (.tup [.int i, x])) fun σ2 H2 => tb { D0 with nx := Pv (i + 1), ct := Pv (i + 1), bk := D0.nx } σ2 H2) (hd : ∀ σ H, Pv xs.length σ H → D0.nx σ H) : ForW (Ite K a) g tb D0 σ H := by
  refine ⟨fun i m σ H => m = xs.length - i ∧ i ≤ xs.length ∧ Pv i σ H, ⟨xs.length, by simp, Nat.zero_le _, h0⟩, ?_⟩
  rintro i m σ H ⟨rfl, hi, p⟩
  have q := hl i σ H hi p
  by_cases hlt : i < xs.length
  · refine .inr ⟨⟨xs, xs[i], q, by simp [hlt]⟩, Pv (i + 1), fun σ' H' p' => ⟨xs.length - (i + 1), by omega, rfl, hlt, p'⟩, fun v H' y => ?_⟩
    obtain ⟨p1, y1, hp, rfl, rfl, y2⟩ := y
    exact hs i y1 σ _ p1 (y2 xs q) hp p
  · have e : i = xs.length := by omega
    subst e
    exact .inl ⟨⟨xs, q, Nat.le_refl _⟩, hd σ H p⟩
end
section
variable {tt : TT} {te : TE} {D : Addr} {σ : St} {H1 : Hp} {Q : Hp → Prop} {K : PySem.W.Frag} {a b : Addr} {xs ys : List V}
/-- one item of a comprehension: the test, the element, the list longer by one -/
def LCItem (tt : TT) (te : TE) (D : Addr) (σ' : St) (H : Hp) (N : Hp → Prop) : Prop := tt σ' H fun b H4 => if b = true then te σ' H4 fun v H5 => ∃ zs, H5 D = some (.lst zs) ∧ zs.length < sizeLine ∧ N (upd H5 D (.lst (zs ++ [v]))) else N H4
theorem LCW.range1 {lo : Int} {n : Nat} (Pv : Nat → Hp → Prop) (h0 : Pv 0 (upd H1 D (.lst []))) (hs : ∀ i H, i < n → Pv i H → LCItem tt te D (some (.int (lo + i)) :: σ) H (Pv (i + 1))) (hd : ∀ H, Pv n H → Q H) : LCW (Itr lo n) (gName 0) tt te 1 D σ H1 Q := by
  refine ⟨fun i m σ' H => m = n - i ∧ i ≤ n ∧ (∃ o, σ' = o :: σ) ∧ Pv i H, ⟨n, by simp, Nat.zero_le _, ⟨none, rfl⟩, h0⟩, ?_⟩
  rintro i m σ' H ⟨rfl, hi, ⟨o, rfl⟩, p⟩
  by_cases hlt : i < n
  · refine .inr ⟨hlt, fun σ2 H2 => (∃ o, σ2 = o :: σ) ∧ Pv (i + 1) H2, fun σ2 H2 p' => ⟨n - (i + 1), by omega, rfl, hlt, p'.1, p'.2⟩, fun x H' y => ?_⟩
    obtain ⟨e, y⟩ := y
    subst e y
    have q := hs i _ hlt p
    refine cast (congrArg (tt (some (.int (lo + i)) :: σ) H') ?_) q
    funext b H4
    by_cases hb : b = true
    · rw [if_pos hb, if_pos hb]
      refine congrArg (te (some (.int (lo + i)) :: σ) H4) ?_
      funext v H5
      refine propext ⟨fun ⟨zs, z1, z2, z3⟩ => ⟨zs, z1, z2, ⟨_, rfl⟩, z3⟩, fun ⟨zs, z1, z2, _, z3⟩ => ⟨zs, z1, z2, z3⟩⟩
    · rw [if_neg hb, if_neg hb]
      exact propext ⟨fun z => ⟨⟨_, rfl⟩, z⟩, fun z => z.2⟩
  · have e : i = n := by omega
    subst e
    exact .inl ⟨Nat.le_refl _, hd H p⟩
theorem LCW.tup1 (Pv : Nat → Hp → Prop) (h0 : Pv 0 (upd H1 D (.lst []))) (hl : ∀ i H, i ≤ xs.length → Pv i H → H a = some (.tup xs)) (hs : ∀ i x H, xs[i]? = some x → Pv i H → LCItem tt te D (some x :: σ) H (Pv (i + 1))) (hd : ∀ H, Pv xs.length H → Q H) : LCW (Itt K a) (gName 0) tt te 1 D σ H1 Q := by
  refine ⟨fun i m σ' H => m = xs.length - i ∧ i ≤ xs.length ∧ (∃ o, σ' = o :: σ) ∧ Pv i H, ⟨xs.length, by simp, Nat.zero_le _, ⟨none, rfl⟩, h0⟩, ?_⟩
  rintro i m σ' H ⟨rfl, hi, ⟨o, rfl⟩, p⟩
  have hq := hl i H hi p
  by_cases hlt : i < xs.length
  · refine .inr ⟨⟨xs, xs[i], SqT.of hq, by simp [hlt]⟩, fun σ2 H2 => (∃ o, σ2 = o :: σ) ∧ Pv (i + 1) H2, fun σ2 H2 p' => ⟨xs.length - (i + 1), by omega, rfl, hlt, p'.1, p'.2⟩, fun x H' y => ?_⟩
    obtain ⟨e, y⟩ := y
    subst e
    have q := hs i x _ (y xs (SqT.of hq)) p
    refine cast (congrArg (tt (some x :: σ) H') ?_) q
    funext b H4
    by_cases hb : b = true
    · rw [if_pos hb, if_pos hb]
      refine congrArg (te (some x :: σ) H4) ?_
      funext v H5
      refine propext ⟨fun ⟨zs, z1, z2, z3⟩ => ⟨zs, z1, z2, ⟨_, rfl⟩, z3⟩, fun ⟨zs, z1, z2, _, z3⟩ => ⟨zs, z1, z2, z3⟩⟩
    · rw [if_neg hb, if_neg hb]
      exact propext ⟨fun z => ⟨⟨_, rfl⟩, z⟩, fun z => z.2⟩
  · have e : i = xs.length := by omega
    subst e
    exact .inl ⟨⟨xs, SqT.of hq, Nat.le_refl _⟩, hd H p⟩
theorem LCW.list1 (Pv : Nat → Hp → Prop) (h0 : Pv 0 (upd H1 D (.lst []))) (hl : ∀ i H, i ≤ xs.length → Pv i H → H a = some (.lst xs)) (hs : ∀ i x H, xs[i]? = some x → Pv i H → LCItem tt te D (some x :: σ) H (Pv (i + 1))) (hd : ∀ H, Pv xs.length H → Q H) : LCW (Itl K a) (gName 0) tt te 1 D σ H1 Q := by
  refine ⟨fun i m σ' H => m = xs.length - i ∧ i ≤ xs.length ∧ (∃ o, σ' = o :: σ) ∧ Pv i H, ⟨xs.length, by simp, Nat.zero_le _, ⟨none, rfl⟩, h0⟩, ?_⟩
  rintro i m σ' H ⟨rfl, hi, ⟨o, rfl⟩, p⟩
  have hq := hl i H hi p
  by_cases hlt : i < xs.length
  · refine .inr ⟨⟨xs, xs[i], SqL.of hq, by simp [hlt]⟩, fun σ2 H2 => (∃ o, σ2 = o :: σ) ∧ Pv (i + 1) H2, fun σ2 H2 p' => ⟨xs.length - (i + 1), by omega, rfl, hlt, p'.1, p'.2⟩, fun x H' y => ?_⟩
    obtain ⟨e, y⟩ := y
    subst e
    have q := hs i x _ (y xs (SqL.of hq)) p
    refine cast (congrArg (tt (some x :: σ) H') ?_) q
    funext b H4
    by_cases hb : b = true
    · rw [if_pos hb, if_pos hb]
      refine congrArg (te (some x :: σ) H4) ?_
      funext v H5
      refine propext ⟨fun ⟨zs, z1, z2, z3⟩ => ⟨zs, z1, z2, ⟨_, rfl⟩, z3⟩, fun ⟨zs, z1, z2, _, z3⟩ => ⟨zs, z1, z2, z3⟩⟩
    · rw [if_neg hb, if_neg hb]
      exact propext ⟨fun z => ⟨⟨_, rfl⟩, z⟩, fun z => z.2⟩
  · have e : i = xs.length := by omega
    subst e
    exact .inl ⟨⟨xs, SqL.of hq, Nat.le_refl _⟩, hd H p⟩
theorem LCW.zip2 (Pv : Nat → Hp → Prop) (h0 : Pv 0 (upd H1 D (.lst []))) (hl : ∀ i H, i ≤ min xs.length ys.length → Pv i H → H a = some (.tup xs) ∧ H b = some (.tup ys))
    (hs : ∀ i x y H p, xs[i]? = some x → ys[i]? = some y → H p = none → Pv i H → LCItem tt te D (some x :: some y :: σ) (upd H p (.tup [x, y])) (Pv (i + 1))) (hd : ∀ H, Pv (min xs.length ys.length) H → Q H) : LCW (Itz a b) (gTup K 2 (gCons (gName 0) (gCons (gName 1) gNil))) tt te 2 D σ H1 Q := by
  refine ⟨fun i m σ' H => m = min xs.length ys.length - i ∧ i ≤ min xs.length ys.length ∧ (∃ o1 o2, σ' = o1 :: o2 :: σ) ∧ Pv i H, ⟨min xs.length ys.length, by simp, Nat.zero_le _, ⟨none, none, rfl⟩, h0⟩, ?_⟩
  rintro i m σ' H ⟨rfl, hi, ⟨o1, o2, rfl⟩, p⟩
  obtain ⟨hx, hy⟩ := hl i H hi p
  by_cases hlt : i < min xs.length ys.length
  · have l1 : i < xs.length := by omega
    have l2 : i < ys.length := by omega
    refine .inr ⟨⟨xs, ys, xs[i], ys[i], hx, hy, by simp [l1], by simp [l2]⟩, fun σ2 H2 => (∃ o1 o2, σ2 = o1 :: o2 :: σ) ∧ Pv (i + 1) H2, fun σ2 H2 p' => ⟨min xs.length ys.length - (i + 1), by omega, rfl, hlt, p'.1, p'.2⟩, fun v H' y => ?_⟩
    obtain ⟨q1, x, y, hn, rfl, rfl, e1, e2⟩ := y
    have q := hs i x y H q1 (e1 xs hx) (e2 ys hy) hn p
    refine ⟨q1, [x, y], rfl, SqT.of upd_same, rfl, x, [y], rfl, y, [], rfl, rfl, ?_⟩
    refine cast (congrArg (tt (some x :: some y :: σ) _) ?_) q
    funext b' H4
    by_cases hb : b' = true
    · rw [if_pos hb, if_pos hb]
      refine congrArg (te (some x :: some y :: σ) H4) ?_
      funext v H5
      refine propext ⟨fun ⟨zs, z1, z2, z3⟩ => ⟨zs, z1, z2, ⟨_, _, rfl⟩, z3⟩, fun ⟨zs, z1, z2, _, z3⟩ => ⟨zs, z1, z2, z3⟩⟩
    · rw [if_neg hb, if_neg hb]
      exact propext ⟨fun z => ⟨⟨_, _, rfl⟩, z⟩, fun z => z.2⟩
  · refine .inl ⟨⟨xs, ys, hx, hy, by omega, by omega, by omega⟩, ?_⟩
    have e : i = min xs.length ys.length := by omega
    subst e
    exact hd H p
end
end L2

namespace L2
open PySem PySem.Spec PyProof.Rows
/-- an argument without a star -/
class NS (e : Expr) : Prop where
  eq : ∀ (es : List Expr) (env : Env), starEach (e :: es) env = (false, eval e env) :: starEach es env
instance {c : Const} {k : Nat} {p : Pos} : NS (.Constant c k p) := ⟨fun _ _ => rfl⟩
instance {x : Str} {p : Pos} : NS (.Name x p) := ⟨fun _ _ => rfl⟩
instance {es : List Expr} {k : Nat} {p : Pos} : NS (.Tuple es k p) := ⟨fun _ _ => rfl⟩
instance {es : List Expr} {p : Pos} : NS (.List es p) := ⟨fun _ _ => rfl⟩
instance {a : Expr} {o : Operator} {b : Expr} {p : Pos} : NS (.BinOp a o b p) := ⟨fun _ _ => rfl⟩
instance {o : UnaryOp} {a : Expr} {p : Pos} : NS (.UnaryOp o a p) := ⟨fun _ _ => rfl⟩
instance {f : Expr} {es : List Expr} {ks : List Keyword} {p : Pos} : NS (.Call f es ks p) := ⟨fun _ _ => rfl⟩
instance {a b : Expr} {p : Pos} : NS (.Subscript a b p) := ⟨fun _ _ => rfl⟩
instance {a : Expr} {os : List CmpOp} {bs : List Expr} {p : Pos} : NS (.Compare a os bs p) := ⟨fun _ _ => rfl⟩
instance {o : BoolOp} {es : List Expr} {p : Pos} : NS (.BoolOp o es p) := ⟨fun _ _ => rfl⟩
instance {a b c : Expr} {p : Pos} : NS (.IfExp a b c p) := ⟨fun _ _ => rfl⟩
instance {e : Expr} {gs : List Comprehension} {sc : Scope} {p : Pos} : NS (.ListComp e gs sc p) := ⟨fun _ _ => rfl⟩
theorem pa_c {X : Cx} {e : Expr} {es : List Expr} {te : TE} {t : TA} [n : NS e] (ha : PE X e te) (hr : PA X es t) : PA X (e :: es) (tCons te t) := pa_cons ha hr (n.eq es X.env)
/-- the items of a display, wrapped -/
structure PL (X : Cx) (es : List Expr) (t : TA) : Prop where
  h : PA X es t
theorem pl_nil {X : Cx} : PL X [] tNil := ⟨pa_nil⟩
theorem pl_c {X : Cx} {e : Expr} {es : List Expr} {te : TE} {t : TA} [n : NS e] (ha : PE X e te) (hr : PL X es t) : PL X (e :: es) (tCons te t) := ⟨pa_cons ha hr.h (n.eq es X.env)⟩
theorem pe_lstW {X : Cx} {es : List Expr} {t : TA} {pos : Pos} (h : PL X es t) : PE X (.List es pos) (tLst t) := pe_lst h.h
theorem pe_tupW {X : Cx} {es : List Expr} {t : TA} {k : Nat} {pos : Pos} (h : PL X es t) : PE X (.Tuple es k pos) (tTup t) := pe_tup h.h
/-! ### data beside things that change: hide l H is H without the addresses l -/
def hide (l : List Addr) (H : Hp) : Hp := fun b => if b ∈ l then none else H b
theorem hide_get {l : List Addr} {H : Hp} {b : Addr} {o : HO} (n : b ∉ l) (h : H b = some o) : hide l H b = some o := by unfold hide; rw [if_neg n]; exact h
theorem of_hide {l : List Addr} {H : Hp} {b : Addr} {o : HO} (h : hide l H b = some o) : b ∉ l ∧ H b = some o := by
  unfold hide at h
  by_cases hb : b ∈ l
  · rw [if_pos hb] at h; cases h
  · rw [if_neg hb] at h; exact ⟨hb, h⟩
theorem hide_le (l : List Addr) (H : Hp) : Same (hide l H) H := fun _ _ h => (of_hide h).2
theorem hide_same {l : List Addr} {H H' : Hp} (k : ∀ b o, b ∉ l → H b = some o → H' b = some o) : Same (hide l H) (hide l H') := fun b o h => hide_get (of_hide h).1 (k b o (of_hide h).1 (of_hide h).2)
theorem hide_mono {l : List Addr} {H H' : Hp} (k : Same H H') : Same (hide l H) (hide l H') := hide_same fun b o _ h => k b o h
theorem hide_sub {l l' : List Addr} {H : Hp} (h : ∀ b ∈ l, b ∈ l') : Same (hide l' H) (hide l H) := fun b o e => hide_get (fun z => (of_hide e).1 (h b z)) (of_hide e).2
/-- all of l stand in H -/
def Tr (l : List Addr) (H : Hp) : Prop := ∀ b ∈ l, H b ≠ none
theorem Tr.mono {l : List Addr} {H H' : Hp} (t : Tr l H) (s : Same H H') : Tr l H' := fun b hb e => by
  cases q : H b with
  | none => exact t b hb q
  | some o => rw [s b o q] at e; cases e
theorem Tr.new {l : List Addr} {H : Hp} (t : Tr l H) {p : Addr} (h : H p = none) : p ∉ l := fun hb => t p hb h
theorem sameNew {H : Hp} {p : Addr} (h : H p = none) (o : HO) : Same H (upd H p o) := fun b u q => by rw [upd_ne (ne_of_none q h)]; exact q
/-- the data of t[lo:hi] -/
def cutD (xs : List D) (lo hi : Option Int) : List D := (xs.drop (HT.sIx xs.length 0 lo)).take (HT.sIx xs.length xs.length hi - HT.sIx xs.length 0 lo)
theorem cutD_length (xs : List D) (lo hi : Option Int) : (cutD xs lo hi).length ≤ xs.length := by
  unfold cutD
  rw [List.length_take, List.length_drop]
  omega
theorem Reps.cut {H : Hp} {vs : List V} {ds : List D} (r : Reps H vs ds) (lo hi : Option Int) : Reps H (cutV vs lo hi) (cutD ds lo hi) := by
  unfold cutV cutD
  rw [r.length]
  exact (r.drop _).take _
section
variable {l : List Addr} {H : Hp} {Q : VK}
theorem repT_new {vs : List V} {ds : List D} {p : Addr} (t : Tr l H) (h : H p = none) (r : Reps (hide l H) vs ds) : Rep (hide l (upd H p (.tup vs))) (.ref p) (.tup ds) :=
  .tup (hide_get (t.new h) upd_same) (r.mono (hide_mono (sameNew h _)))
theorem repL_new {vs : List V} {ds : List D} {p : Addr} (t : Tr l H) (h : H p = none) (r : Reps (hide l H) vs ds) : Rep (hide l (upd H p (.lst vs))) (.ref p) (.lst ds) :=
  .lst (hide_get (t.new h) upd_same) (r.mono (hide_mono (sameNew h _)))
theorem d_slice {v : V} {ds : List D} {lo hi : Option Int} (t : Tr l H) (r : Rep (hide l H) v (.tup ds)) (q : ∀ v' H', Same H H' → Rep (hide l H') v' (.tup (cutD ds lo hi)) → Q v' H') : rSlH v lo hi H Q := by
  cases r with
  | @tup a vs _ h r =>
    refine ⟨a, rfl, .inl ⟨vs, (of_hide h).2, fun w => ?_, fun _ p hp => q _ _ (sameNew hp _) (repT_new t hp (r.cut lo hi))⟩⟩
    refine q _ _ (Same.refl H) (.tup h ?_)
    have e : cutD ds lo hi = ds := by
      unfold cutD
      rw [← r.length, w.1, w.2, r.length]
      simp
    rw [e]
    exact r
theorem d_add {x y : V} {ds es : List D} (t : Tr l H) (r1 : Rep (hide l H) x (.tup ds)) (r2 : Rep (hide l H) y (.tup es)) (hz : ds.length + es.length ≤ 1000) (q : ∀ v' H', Same H H' → Rep (hide l H') v' (.tup (ds ++ es)) → Q v' H') : rAddH x y H Q := by
  cases r1 with
  | @tup a vs _ h1 r1 =>
    cases r2 with
    | @tup b us _ h2 r2 =>
      have l1 := r1.length
      have l2 := r2.length
      refine .inr ⟨a, b, rfl, rfl, .inl ⟨vs, us, (of_hide h1).2, (of_hide h2).2, ?_, fun e => ?_, fun _ e => ?_, fun _ _ p hp => ?_⟩⟩
      · exact Nat.le_trans (by omega) (Nat.le_of_lt (small1000 (Nat.le_refl 1000)))
      · have : ds = [] := List.eq_nil_of_length_eq_zero (by rw [← l1, e]; rfl)
        subst this
        exact q _ _ (Same.refl H) (.tup h2 r2)
      · have : es = [] := List.eq_nil_of_length_eq_zero (by rw [← l2, e]; rfl)
        subst this
        rw [List.append_nil] at q
        exact q _ _ (Same.refl H) (.tup h1 r1)
      · exact q _ _ (sameNew hp _) (repT_new t hp (r1.append r2))
theorem d_list {v : V} {ds : List D} (t : Tr l H) (r : Rep (hide l H) v (.tup ds)) (q : ∀ v' H', Same H H' → Rep (hide l H') v' (.lst ds) → Q v' H') : rListH [v] H Q := by
  cases r with
  | @tup a vs _ h r => exact ⟨a, vs, rfl, seqH_t (of_hide h).2, fun p hp => q _ _ (sameNew hp _) (repL_new t hp r)⟩
theorem seq_rep {v : V} {ds : List D} (r : Rep (hide l H) v (.tup ds)) : ∃ a vs, v = .ref a ∧ H a = some (.tup vs) ∧ Reps (hide l H) vs ds := by
  cases r with
  | @tup a vs _ h r => exact ⟨a, vs, rfl, (of_hide h).2, r⟩
end
end L2

namespace L2
open PySem PySem.Spec PyProof.Rows
section
variable {X : Cx}
/-! ### o.m(e), o a list of ours -/
def tLm (r : V → List V → Hp → VK → Prop) (to te : TE) : TE := fun σ H Q => to σ H fun x H1 => ∃ l xs0, x = .ref l ∧ H1 l = some (.lst xs0) ∧ te σ H1 fun y H2 => r (.ref l) [y] H2 Q
theorem ap_lm {r : V → List V → Hp → VK → Prop} {to te : TE} {σ : St} {H : Hp} {Q : VK} : tLm r to te σ H Q = to σ H fun x H1 => ∃ l xs0, x = .ref l ∧ H1 l = some (.lst xs0) ∧ te σ H1 fun y H2 => r (.ref l) [y] H2 Q := propext ⟨fun h => h, fun h => h⟩
theorem pe_lm {r : V → List V → Hp → VK → Prop} {name : Str} {id : String} {o e : Expr} {to te : TE} {apos cpos : Pos} (slot : Slot "list" name id) (hty : typeOf (.builtin id) = pure (.type "method_descriptor")) (hm : MtM X id r) (ho : PE X o to) (he : PE X e te)
    (hbase : attributeBase o name X.env (eval o X.env) = eval o X.env := by rfl)
    (hfew : ((backTo cpos (starEach [e] X.env)).all (fun x => !x.1) && (backToKw cpos (keywordEach [] X.env)).all (fun x => x.1.isSome) && decide ([e].length + ([] : List Keyword).length + (if ([] : List Keyword).isEmpty then 0 else 1) < 30)) = true := by rfl)
    (hline : (apos.endLine == cpos.line) = true := by rfl) (hs : starEach [e] X.env = (false, eval e X.env) :: starEach [] X.env := by rfl) : PE X (.Call (.Attribute o name apos) [e] [] cpos) (tLm r to te) := by
  intro pins s σ H Q I h
  refine wpAny_Call_method_late hbase hfew hline rfl (thn (ho pins s σ H _ I h) fun v s1 ⟨x, H1, I1, r1, l, xs0, e0, hl, q1⟩ => ?_)
  subst e0
  have ty : tyV X.K "list" (.ref l) H1 := .inl ⟨rfl, _, SqL.of hl⟩
  obtain ⟨h1, h2⟩ := tyV_is I1 r1 ty
  refine ⟨"list", _, PySem.F.plainAttrs_list, slot, hty, h1, h2, ?_⟩
  have hA := (pa_cons he pa_nil hs) cpos pins s1 σ H1 (fun vs H2 => ∃ y, vs = [y] ∧ r (.ref l) [y] H2 Q) I1 (by
    refine cast (congrArg (te σ H1) ?_) q1
    funext y H2
    refine propext ⟨fun q => ⟨y, rfl, q⟩, fun ⟨y', e', q⟩ => ?_⟩
    cases e'
    exact q)
  rw [hs] at hA ⊢
  refine Calls.callWith_builtin (by show (false || (backTo cpos (starEach ([] : List Expr) X.env)).any (·.1)) = false; rfl) (Calls.evalArgs_plain ?_)
  exact thn hA fun us s2 ⟨vs, H2, I2, r2, y, e2, q2⟩ => hm pins s2 σ H2 (.ref l) vs v us Q I2 r1 r2 (by rw [e2]; exact q2)
def rCountH : V → List V → Hp → VK → Prop := fun x vs H Q => ∃ (l : Addr) (ns : List Int) (k : Int), x = .ref l ∧ vs = [.int k] ∧ H l = some (.lst (ns.map V.int)) ∧ Q (.int (ns.count k : Nat)) H
theorem mt_countH : MtM X "list.count" rCountH := by
  intro pins s σ H x vs v us Q I rx rv h
  obtain ⟨l, ns, k, rfl, rfl, hH, q⟩ := h
  cases rx
  obtain ⟨u, rfl, ru⟩ := rv.one
  obtain ⟨t, rfl⟩ := ru
  obtain ⟨its, r, pl, hz⟩ := I.list (SqL.of hH)
  exact count_list_ints pl.isList (intsAre_of r) ⟨.int _, H, I.kept (t' := s.toks + 1) fun b o e => e, ⟨_, rfl⟩, q⟩
/-! ### any of truths, sum of ints -/
def rAnyH : List V → Hp → VK → Prop := fun vs H Q => ∃ (p : Addr) (bs : List Bool), vs = [.ref p] ∧ H p = some (.lst (bs.map V.bl)) ∧ Q (.bl (bs.any id)) H
theorem call_anyH (hc : X.calm = true) : CallR X (.builtin "any") rAnyH := by
  intro pins s σ H xs us Q I r h
  obtain ⟨p, bs, rfl, hq, q⟩ := h
  obtain ⟨u, rfl, rx⟩ := vals1 r
  cases rx
  obtain ⟨its, rv, pl, hz⟩ := I.list (SqL.of hq)
  have hits := vals_bl rv
  subst hits
  have hA : X.A.in1.handled = none := I.ok.hd hc
  obtain ⟨o, ho, hcl, n, hd⟩ := pl.isList
  have hne : p ≠ s.heap.objs.size := Nat.ne_of_lt (Heap.lt_size ho)
  refine call_any_walk (wpAny_pyIter_list pl.isList ?_)
  refine ⟨s.heap.objs.size, _, _, _, _, _, fun i => bs.getD i false, rfl, Walks.list (prog := X.prog) (w := X.w) hA s.heap.objs.size p hne (bs.map Value.bool).toArray, ⟨⟨_, Heap.get?_push_size _ rfl, rfl, rfl⟩, ⟨o, Heap.get?_push_of_some _ ho, hcl, n, hd⟩⟩, ?_, fun h' tk hk => ?_⟩
  · intro i v s' Q' E' hP hQ
    have hP' : (bs.map Value.bool).toArray[i]? = some v := hP
    rw [List.getElem?_toArray, List.getElem?_map] at hP'
    cases e : bs[i]? with
    | none => rw [e] at hP'; cases hP'
    | some b =>
      rw [e] at hP'
      cases hP'
      have hQ : Q' (bs.getD i false) s' := hQ
      rw [List.getD_eq_getElem?_getD, e] at hQ
      exact wpAny_truthy_bool hQ
  · have z : (List.range (bs.map Value.bool).toArray.size).any (fun i => bs.getD i false) = bs.any id := by
      rw [List.size_toArray, List.length_map, Bool.eq_iff_iff, List.any_eq_true, List.any_eq_true]
      constructor
      · rintro ⟨i, hi, hb⟩
        have hi' := List.mem_range.mp hi
        rw [List.getD_eq_getElem?_getD, List.getElem?_eq_getElem hi'] at hb
        exact ⟨_, List.getElem_mem hi', hb⟩
      · rintro ⟨b, hb, e⟩
        obtain ⟨i, hi, e'⟩ := List.mem_iff_getElem.mp hb
        refine ⟨i, List.mem_range.mpr hi, ?_⟩
        rw [List.getD_eq_getElem?_getD, List.getElem?_eq_getElem hi]
        simpa [e'] using e
    rw [z]
    have I1 : Inv X pins σ H { s with heap := s.heap.push { cls := .type "list_iterator", data := .fields #[.ref p, .int 0 0] } } := I.kept (t' := s.toks) fun b o e => Heap.get?_push_of_some _ e
    have fk : FpOk X pins H s.heap.objs.size := I.fpOk (Nat.le_refl _) (I.hok.fresh (Nat.le_refl _))
    obtain ⟨f0, f1, f2, f3, f4, f5⟩ := fk
    exact ⟨.bl _, H, I1.turned (t' := tk) (it := s.heap.objs.size) (fun b o hb e => hk b o (fun z => hb (List.mem_singleton.mp z)) e) f0 f1 f3 f4 f5, rfl, q⟩
theorem preSum_take (ns : List Int) : ∀ k, k ≤ ns.length → preSum (fun i => ns.getD i 0) k = (ns.take k).sum
  | 0, _ => by rw [List.take_zero]; rfl
  | k + 1, h => by
    rw [preSum.eq_2, preSum_take ns k (by omega), List.take_add_one, List.sum_append, List.getD_eq_getElem?_getD, List.getElem?_eq_getElem (show k < ns.length by omega)]
    simp
theorem sum_bound : ∀ (ns : List Int), (∀ n ∈ ns, -1000000 ≤ n ∧ n ≤ 1000000) → -(1000000 * (ns.length : Int)) ≤ ns.sum ∧ ns.sum ≤ 1000000 * (ns.length : Int)
  | [], _ => by simp
  | n :: ns, h => by
    have h1 := sum_bound ns fun m hm => h m (List.mem_cons_of_mem _ hm)
    have h2 := h n (by simp)
    rw [List.sum_cons, List.length_cons]
    push_cast
    omega
def rSumH : List V → Hp → VK → Prop := fun vs H Q => ∃ (p : Addr) (ns : List Int), vs = [.ref p] ∧ H p = some (.lst (ns.map V.int)) ∧ ns.length ≤ 1000 ∧ (∀ n ∈ ns, -1000000 ≤ n ∧ n ≤ 1000000) ∧ Q (.int ns.sum) H
theorem call_sumH (hc : X.calm = true) : CallR X (.builtin "sum") rSumH := by
  intro pins s σ H xs us Q I r h
  obtain ⟨p, ns, rfl, hq, hl, hb, q⟩ := h
  obtain ⟨u, rfl, rx⟩ := vals1 r
  cases rx
  obtain ⟨its, rv, pl, hz⟩ := I.list (SqL.of hq)
  have hI := intsAre_of rv
  have hlen : its.length = ns.length := by rw [← rv.length, List.length_map]
  have hA : X.A.in1.handled = none := I.ok.hd hc
  obtain ⟨o, ho, hcl, n, hd⟩ := pl.isList
  have hne : p ≠ s.heap.objs.size := Nat.ne_of_lt (Heap.lt_size ho)
  refine call_sum_walk (wpAny_pyIter_list pl.isList ?_)
  refine ⟨s.heap.objs.size, _, _, _, _, _, fun i => ns.getD i 0, rfl, Walks.list (prog := X.prog) (w := X.w) hA s.heap.objs.size p hne its.toArray, ⟨⟨_, Heap.get?_push_size _ rfl, rfl, rfl⟩, ⟨o, Heap.get?_push_of_some _ ho, hcl, n, hd⟩⟩, ?_, ?_, ?_, fun h' tk t' hk => ?_⟩
  · intro b hb'
    show b < (s.heap.push _).objs.size
    rw [Heap.size_push]
    simp only [List.mem_cons, List.not_mem_nil, or_false] at hb'
    rcases hb' with e | e
    · rw [e]; exact Nat.lt_succ_self _
    · rw [e]; exact Nat.lt_succ_of_lt (Heap.lt_size ho)
  · intro i v hv
    have hv' : its.toArray[i]? = some v := hv
    rw [List.getElem?_toArray] at hv'
    have hi : i < its.length := (List.getElem?_eq_some_iff.mp hv').1
    have e1 : (ns.map V.int)[i]? = some (.int (ns[i]'(by omega))) := by rw [List.getElem?_map, List.getElem?_eq_getElem (by omega)]; rfl
    obtain ⟨a1, b1, c1⟩ := rv.get e1
    rw [hv'] at b1
    cases b1
    obtain ⟨t, rfl⟩ := c1
    refine ⟨t, ?_⟩
    show Value.int _ t = Value.int (ns.getD i 0) t
    rw [List.getD_eq_getElem?_getD, List.getElem?_eq_getElem (show i < ns.length by omega)]
    rfl
  · intro j hj
    have hj' : j < ns.length := by have : its.toArray.size = its.length := List.size_toArray ..; omega
    have h1 : ns.getD j 0 ∈ ns := by rw [List.getD_eq_getElem?_getD, List.getElem?_eq_getElem hj']; exact List.getElem_mem hj'
    have h2 := hb _ h1
    have h3 := sum_bound (ns.take (j + 1)) fun m hm => hb m (List.mem_of_mem_take hm)
    have h4 : (ns.take (j + 1)).length ≤ 1000 := by rw [List.length_take]; omega
    refine ⟨⟨?_, ?_⟩, ?_⟩
    · show -2 ^ 63 ≤ ns.getD j 0
      omega
    · show ns.getD j 0 < 2 ^ 63
      omega
    · rw [preSum_take ns _ (by omega)]
      exact ⟨by omega, by omega⟩
  · have I1 : Inv X pins σ H { s with heap := s.heap.push { cls := .type "list_iterator", data := .fields #[.ref p, .int 0 0] } } := I.kept (t' := s.toks) fun b o e => Heap.get?_push_of_some _ e
    have fk : FpOk X pins H s.heap.objs.size := I.fpOk (Nat.le_refl _) (I.hok.fresh (Nat.le_refl _))
    obtain ⟨f0, f1, f2, f3, f4, f5⟩ := fk
    have z : preSum (fun i => ns.getD i 0) its.toArray.size = ns.sum := by
      rw [List.size_toArray, hlen, preSum_take ns _ (Nat.le_refl _), List.take_length]
    rw [z]
    exact ⟨.int _, H, I1.turned (t' := tk) (it := s.heap.objs.size) (fun b o hb e => hk b o (fun z => hb (List.mem_singleton.mp z)) e) f0 f1 f3 f4 f5, ⟨_, rfl⟩, q⟩
theorem vals_of {f : Nat → V} : ∀ (us : List Value) (k : Nat), (∀ j v, us[j]? = some v → RelV (f (k + j)) v) → Vals ((List.range' k us.length).map f) us
  | [], _, _ => .nil
  | u :: us, k, h => by
    rw [List.length_cons, List.range'_succ, List.map_cons]
    refine .cons (h 0 u rfl) (vals_of us (k + 1) fun j v e => ?_)
    have := h (j + 1) v (by simpa using e)
    rw [show k + 1 + j = k + (j + 1) by omega]
    exact this
/-! ### list(range(e)) -/
def tLR (ta : TA) : TE := fun σ H Q => ta σ H fun vs H1 => ∃ j : Int, vs = [.int j] ∧ 0 ≤ j ∧ j ≤ 1000 ∧ ∀ l, H1 l = none → Q (.ref l) (upd H1 l (.lst ((List.range j.toNat).map fun i => V.int (i : Nat))))
theorem ap_LR {ta : TA} {σ : St} {H : Hp} {Q : VK} : tLR ta σ H Q = ta σ H fun vs H1 => ∃ j : Int, vs = [.int j] ∧ 0 ≤ j ∧ j ≤ 1000 ∧ ∀ l, H1 l = none → Q (.ref l) (upd H1 l (.lst ((List.range j.toNat).map fun i => V.int (i : Nat)))) := propext ⟨fun h => h, fun h => h⟩
theorem pe_listRange {a : Expr} {ta : TA} {p1 p2 pos1 pos2 : Pos} (hc : X.calm = true) (hgl : Gl X "list") (hml : X.mg "list" = none) (hgr : Gl X "range") (hmr : X.mg "range" = none) (hbl : bootBuiltins "list" = some (.type "list")) (ha : PA X [a] ta)
    (hs : starEach [a] X.env = [(false, eval a X.env)] := by rfl)
    (hs2 : starEach [Expr.Call (.Name "range" p2) [a] [] pos2] X.env = (false, eval (Expr.Call (.Name "range" p2) [a] [] pos2) X.env) :: starEach [] X.env := by rfl) :
    PE X (.Call (.Name "list" p1) [.Call (.Name "range" p2) [a] [] pos2] [] pos1) (tLR ta) := by
  intro pins s σ H Q I h
  refine wpAny_Call_Name_kw (ld_blt I hgl hml hbl ?_)
  refine PyProof.Rows.callWith_type1 ?_ hs2 rfl
  rw [hs2]
  show wpAny _ _ (spliced ((false, eval (Expr.Call (.Name "range" p2) [a] [] pos2) X.env) :: backTo pos1 (starEach [] X.env))) _ _ s
  refine Calls.spliced_cons ?_
  refine Call_ (ld_blt I hgr hmr boot_range (PyProof.Rows.callWith_type1 (thn (ha pos2 pins s σ H _ I h) fun us s1 ⟨vs, H1, I1, r1, q1⟩ => ?_) hs rfl))
  obtain ⟨j, e, j0, j1, q⟩ := q1
  subst e
  cases r1 with
  | cons r rr =>
    cases rr
    obtain ⟨t, rfl⟩ := r
    refine call_range_1 ?_
    have hA : X.A.handled = none := I.ok.hd hc
    have I2 : Inv X pins σ H1 { s1 with heap := s1.heap.push { cls := .type "range", data := .fields #[.int 0 s1.toks, .int j t, .int 1 (s1.toks + 1)] }, toks := s1.toks + 1 + 1 } := I1.kept fun b o e => Heap.get?_push_of_some _ e
    refine wpAny_pure ?_
    have hsz : Builtin.Range.rangeSize 0 j 1 = ((j.toNat : Nat) : Int) := by rw [rangeSize_one]; split <;> omega
    refine call_list_range hA (IsRange.new ..) (small_one (by omega) (by omega) (by omega) (by omega)) hsz (by omega) fun h' tk acc c' hk hnew hit => ?_
    have hvals : Vals ((List.range j.toNat).map fun i => V.int (i : Nat)) acc.toList := by
      have hl : acc.toList.length = j.toNat := by rw [Array.length_toList]; exact hit.1
      rw [← hl, List.range_eq_range']
      refine vals_of acc.toList 0 fun i v e => ?_
      obtain ⟨t2, rfl⟩ := hit.2 i v (by simpa using e)
      exact ⟨t2, by congr 1; omega⟩
    refine ⟨.ref _, _, I2.laid (t' := tk) (o := .lst ((List.range j.toNat).map fun i => V.int (i : Nat))) hk (Nat.le_refl _) ⟨?_, acc.toList, c', hvals, ?_⟩, rfl, q _ (I2.hok.fresh (Nat.le_refl _))⟩
    · rw [List.length_map, List.length_range]
      exact Nat.le_of_lt (small1000 (by omega))
    · simpa using hnew
end
end L2

namespace L2
open PySem PySem.Spec PyProof.Rows
section
variable {X : Cx}
/-! ### len(set(l)), l a list of ints -/
theorem dedup_len : ∀ (ns acc : List Int), acc.Nodup → (ns.foldl step_dedup acc).length ≤ acc.length + ns.length ∧ ((ns.foldl step_dedup acc).length = acc.length + ns.length ↔ (acc ++ ns).Nodup)
  | [], acc, h => by simp [h]
  | n :: ns, acc, h => by
    rw [List.foldl_cons]
    unfold step_dedup
    by_cases hn : (acc.any fun x => x == n) = true
    · rw [if_pos hn]
      obtain ⟨i1, i2⟩ := dedup_len ns acc h
      unfold step_dedup at i1 i2
      have hm : n ∈ acc := by
        obtain ⟨x, hx, e⟩ := List.any_eq_true.mp hn
        rw [← (beq_iff_eq.mp e)]; exact hx
      refine ⟨by simp only [List.length_cons]; omega, ⟨fun e => ?_, fun e => ?_⟩⟩
      · simp only [List.length_cons] at e; omega
      · rw [List.nodup_append] at e
        exact absurd rfl (e.2.2 n hm n (by simp))
    · rw [if_neg hn]
      have hm : n ∉ acc := fun hm => hn (List.any_eq_true.mpr ⟨n, hm, by simp⟩)
      have hnd : (acc ++ [n]).Nodup := by
        rw [List.nodup_append]
        refine ⟨h, by simp, fun x hx y hy => ?_⟩
        rw [List.mem_singleton.mp hy]
        rintro rfl
        exact hm hx
      obtain ⟨i1, i2⟩ := dedup_len ns (acc ++ [n]) hnd
      unfold step_dedup at i1 i2
      rw [List.append_assoc, List.singleton_append, List.length_append, List.length_singleton] at i2
      rw [List.length_append, List.length_singleton] at i1
      refine ⟨by simp only [List.length_cons]; omega, ?_⟩
      rw [← i2]
      simp only [List.length_cons]
      omega
theorem firstMet_eq (ns : List Int) : firstMet (fun i => ns.getD i 0) ns.length = ns.foldl step_dedup [] := by
  unfold firstMet
  congr 1
  refine List.ext_getElem? fun i => ?_
  rw [List.getElem?_map]
  by_cases hi : i < ns.length
  · rw [List.getElem?_range hi, List.getElem?_eq_getElem hi]
    show some (ns.getD i 0) = _
    rw [List.getD_eq_getElem?_getD, List.getElem?_eq_getElem hi]
    rfl
  · rw [List.getElem?_eq_none (by simp; omega), List.getElem?_eq_none (by omega)]
    rfl
def rSetH : List V → Hp → VK → Prop := fun vs H Q => ∃ (p : Addr) (ns : List Int), vs = [.ref p] ∧ H p = some (.lst (ns.map V.int)) ∧ ns.length ≤ 1000 ∧ ∀ (l : Addr) (S : Int → Bool) (n : Nat), H l = none → n ≤ ns.length → (n = ns.length ↔ ns.Nodup) → Q (.ref l) (upd H l (.set S n))
theorem call_setH (hc : X.calm = true) : CallR X (.type "set") rSetH := by
  intro pins s σ H xs us Q I r h
  obtain ⟨p, ns, rfl, hq, hl, q⟩ := h
  obtain ⟨u, rfl, rx⟩ := vals1 r
  cases rx
  obtain ⟨its, rv, pl, hz⟩ := I.list (SqL.of hq)
  have hI := intsAre_of rv
  have hlen : its.length = ns.length := by rw [← rv.length, List.length_map]
  have hA : X.A.handled = none := I.ok.hd hc
  refine call_set_list hA pl.isList hI (by rw [List.size_toArray, hlen]; unfold scanBound; omega) fun h' tk hS hk => ?_
  have e0 : its.toArray.size = ns.length := by rw [List.size_toArray, hlen]
  rw [e0, firstMet_eq] at hS
  obtain ⟨d1, d2⟩ := dedup_len ns [] List.nodup_nil
  refine ⟨.ref _, _, I.laid (t' := tk) (o := .set _ _) (fun b o e => hk b o (Heap.lt_size e) e) (Nat.le_refl _) hS, rfl, q _ _ _ (I.hok.fresh (Nat.le_refl _)) ?_ ?_⟩
  · simpa using d1
  · simpa using d2
def rLenS : List V → Hp → VK → Prop := fun vs H Q => rLenH vs H Q ∨ ∃ p S n, vs = [.ref p] ∧ H p = some (.set S n) ∧ Q (.int (n : Nat)) H
theorem call_lenS : CallR X (.builtin "len") rLenS := by
  intro pins s σ H vs us Q I r h
  rcases h with h | ⟨p, S, n, rfl, hp, q⟩
  · exact call_lenH pins s σ H vs us Q I r h
  · obtain ⟨u, rfl, rx⟩ := vals1 r
    cases rx
    obtain ⟨o, es, ep, t, h1, h2, h3, h4, h5, h6, h7, h8⟩ := (I.hok p _ hp : s.heap.SetOf (intKind X.prog X.w) p S n)
    refine call_len_set h1 h2 h3 h7 (by unfold scanBound at h6; omega) ⟨.int _, H, I.kept (t' := s.toks + 1 + 1) fun b o e => e, ⟨_, rfl⟩, ?_⟩
    rw [h8]
    exact q
/-! ### in, by data -/
theorem relV_inj : ∀ {x y : V} {u : Value}, RelV x u → RelV y u → x = y := by
  intro x y u h1 h2
  cases x <;> cases y <;> simp only [RelV] at h1 h2 <;> first
    | rfl
    | (subst h1; cases h2; done)
    | (subst h1; cases h2; rfl)
    | (obtain ⟨t, rfl⟩ := h1; cases h2; done)
    | (obtain ⟨t, rfl⟩ := h1; obtain ⟨t2, e⟩ := h2; cases e; rfl)
    | (obtain ⟨t, rfl⟩ := h1; obtain ⟨t2, e⟩ := h2; cases e; done)
    | (obtain ⟨t, rfl⟩ := h2; cases h1; done)
def rInD (neg : Bool) : R2 := fun x y H Q => ∃ (p : Addr) (vs : List V) (d : D) (ds : List D), y = .ref p ∧ H p = some (.lst vs) ∧ Reps H vs ds ∧ Rep H x d ∧ D.depths ds ≤ 50 ∧ Q (.bl (if neg then !ds.any (fun e => D.eqv e d) else ds.any fun e => D.eqv e d)) H
theorem in_data {pins : List (Addr × Obj)} {σ : St} {H : Hp} {s : Shared} {p : Addr} {vs : List V} {d : D} {ds : List D} {x : V} {v : Value} (hu : X.A.units + 64 < cLine) (I : Inv X pins σ H s) (rx : RelV x v) (hq : H p = some (.lst vs)) (rs : Reps H vs ds) (rd : Rep H x d) (hd : D.depths ds ≤ 50) :
    ∃ (its : List Value) (e : Value → Bool), s.heap.IsList p its.toArray ∧ (∀ y ∈ its.toArray, SeqAt.EqAt X.A.in1 s y v (e y)) ∧ its.toArray.any e = ds.any fun e => D.eqv e d := by
  classical
  obtain ⟨its, r, pl, hz⟩ := I.list (SqL.of hq)
  have l1 := r.length
  have l2 := rs.length
  have key : ∀ (j : Nat) (u : Value), its[j]? = some u → ∃ (y : V) (e : D), vs[j]? = some y ∧ ds[j]? = some e ∧ RelV y u ∧ Rep H y e := by
    intro j u hj
    have hlt := (List.getElem?_eq_some_iff.mp hj).1
    have e1 : vs[j]? = some (vs[j]'(by omega)) := List.getElem?_eq_getElem _
    obtain ⟨a1, b1, c1⟩ := r.get e1
    obtain ⟨f1, g1, k1⟩ := rs.get e1
    rw [hj] at b1
    cases b1
    exact ⟨_, f1, e1, g1, c1, k1⟩
  refine ⟨its, fun u => decide (∃ (j : Nat) (y : V) (e : D), its[j]? = some u ∧ vs[j]? = some y ∧ ds[j]? = some e ∧ D.eqv e d = true), pl.isList, ?_, ?_⟩
  · intro u hm
    have hm' : u ∈ its := by simpa using hm
    obtain ⟨j, hj⟩ := List.mem_iff_getElem?.mp hm'
    obtain ⟨y, e, h1, h2, h3, h4⟩ := key j u hj
    have q := eqAt_D I 60 X.A.in1 y x u v e d (by show X.A.units + 1 + 60 < cLine; omega) (Nat.le_trans (D.depths_get h2) (by omega)) h3 rx h4 rd
    have z : decide (∃ (j : Nat) (y : V) (e : D), its[j]? = some u ∧ vs[j]? = some y ∧ ds[j]? = some e ∧ D.eqv e d = true) = D.eqv e d := by
      rw [Bool.eq_iff_iff, decide_eq_true_eq]
      refine ⟨fun ⟨j', y', e', g1, g2, g3, g4⟩ => ?_, fun h => ⟨j, y, e, hj, h1, h2, h⟩⟩
      obtain ⟨y2, e2, k1, k2, k3, k4⟩ := key j' u g1
      rw [g2] at k1; cases k1
      rw [g3] at k2; cases k2
      have := relV_inj h3 k3
      subst this
      rw [Rep.inj h4 k4]
      exact g4
    show SeqAt.EqAt X.A.in1 s u v (decide _)
    rw [z]
    exact q
  · rw [List.any_toArray, Bool.eq_iff_iff, List.any_eq_true, List.any_eq_true]
    constructor
    · rintro ⟨u, hu', h⟩
      obtain ⟨j, y, e, g1, g2, g3, g4⟩ := of_decide_eq_true h
      exact ⟨e, List.mem_of_getElem? g3, g4⟩
    · rintro ⟨e, he, h⟩
      obtain ⟨j, hj⟩ := List.mem_iff_getElem?.mp he
      have hlt := (List.getElem?_eq_some_iff.mp hj).1
      have e1 : its[j]? = some (its[j]'(by omega)) := List.getElem?_eq_getElem _
      obtain ⟨y, e', h1, h2, h3, h4⟩ := key j _ e1
      exact ⟨_, List.mem_of_getElem? e1, decide_eq_true ⟨j, y, e, e1, h1, hj, h⟩⟩
theorem op_inD (hu : X.A.units + 64 < cLine) : OpR X (compareOp .In) (rInD false) := by
  intro pins s σ H x y v u Q I rx ry h
  obtain ⟨p, vs, d, ds, rfl, hq, rs, rd, hd, q⟩ := h
  cases ry
  obtain ⟨its, e, h1, h2, h3⟩ := in_data hu I rx hq rs rd hd
  refine SeqAt.in_listAt e h1 h2 ⟨.bl _, H, I, rfl, ?_⟩
  rw [h3]
  exact q
theorem op_notInD (hu : X.A.units + 64 < cLine) : OpR X (compareOp .NotIn) (rInD true) := by
  intro pins s σ H x y v u Q I rx ry h
  obtain ⟨p, vs, d, ds, rfl, hq, rs, rd, hd, q⟩ := h
  cases ry
  obtain ⟨its, e, h1, h2, h3⟩ := in_data hu I rx hq rs rd hd
  refine SeqAt.notIn_listAt e h1 h2 ⟨.bl _, H, I, rfl, ?_⟩
  rw [h3]
  exact q
theorem ap_eqStr {a b : Str} {H : Hp} {Q : VK} : rEqG (.str a) (.str b) H Q = Q (.bl (decide (a = b))) H := by
  refine propext ⟨fun h => ?_, fun h => .inl ⟨rfl, by simpa only [V.str.injEq] using h⟩⟩
  rcases h with ⟨_, h⟩ | ⟨d, e, r, _, _, k, _⟩
  · simpa only [V.str.injEq] using h
  · cases r
    rcases k with ⟨_, _, e, _⟩ | ⟨_, _, e, _⟩ <;> cases e
end
end L2

namespace L2
open PySem PySem.Spec PyProof.Rows
section
variable {prog : Program} {w : World} {A : Around} {E : Value → Shared → Prop} {s : Shared}
/-! ### zip(t, u) made, t a list, u a tuple -/
abbrev zL (h : Heap) (t : Addr) : Heap := h.push { cls := .type "list_iterator", data := .fields #[.ref t, .int 0 0] }
abbrev yTT (h : Heap) (t u : Addr) : Heap := zT (zL h t) u
abbrev yPI (h : Heap) (t u : Addr) : Heap := (yTT h t u).push { cls := .type "tuple", data := .seq #[.ref h.objs.size, .ref (zL h t).objs.size] }
abbrev yPO (h : Heap) (t u : Addr) : Heap := (yPI h t u).push { cls := .type "tuple", data := .seq #[.none, .none] }
abbrev yAll (h : Heap) (t u : Addr) : Heap := (yPO h t u).push { cls := .type "zip", data := .fields #[.none, .bool false, .bool false, .ref (yTT h t u).objs.size, .ref (yPI h t u).objs.size] }
theorem zipL_new (t u : Addr) (xs ys : Array Value) : Meets (Builtin.«zip.__new__» ⟨[.type "zip", .ref t, .ref u], []⟩) (fun _ R s => s.heap.IsList t xs ∧ s.heap.IsTuple u ys ∧ R (.ok (.ret (.ref (yPO s.heap t u).objs.size))) { s with heap := yAll s.heap t u }) :=
  .of_wp fun prog w A R s h => by
    obtain ⟨hp, g, d, tk, os⟩ := s
    obtain ⟨ht, hu, h⟩ := h
    have hsub := sub_zip
    have h1 : Heap.IsList (Shared.heap ⟨hp, g, d, tk, os⟩) t xs := ht
    have h2 : Heap.IsTuple (Shared.heap ⟨hp.push { cls := .type "list_iterator", data := .fields #[.ref t, .int 0 0] }, g, d, tk, os⟩) u ys := by
      obtain ⟨o, e, r⟩ := hu
      exact ⟨o, Heap.get?_push_of_some _ e, r⟩
    wp_walk using wpAny_pyIter_list h1, wpAny_pyIter_tuple h2
    exact ⟨_, rfl, h⟩
theorem call_zipL {t u : Addr} {xs ys : Array Value} {Q : Value → Shared → Prop} (ht : s.heap.IsList t xs) (hu : s.heap.IsTuple u ys)
    (h : ∀ h', IsZip h' (s.heap.objs.size + 4) (s.heap.objs.size + 2) (s.heap.objs.size + 3) .none → IsPair h' (s.heap.objs.size + 2) (.ref s.heap.objs.size) (.ref (s.heap.objs.size + 1)) → IsPair h' (s.heap.objs.size + 3) .none .none →
      h'.IsListIter s.heap.objs.size t 0 → h'.IsTupleIter (s.heap.objs.size + 1) u 0 → (∀ c o, s.heap.get? c = some o → h'.get? c = some o) → Q (.ref (s.heap.objs.size + 4)) { s with heap := h' }) :
    wpAny (model prog w) A (call (.type "zip") [.ref t, .ref u]) Q E s := by
  refine callType_new F.called_zip (by decide) (F.typeCall_zip_2 _ _) (F.newCall_zip_2 _ _) (fun obj => F.args_object_init_3 obj _ _) F.entry_zip_new (zipL_new t u xs ys) ⟨ht, hu, ?_⟩
  have s1 : (zL s.heap t).objs.size = s.heap.objs.size + 1 := Heap.size_push ..
  have s2 : (yTT s.heap t u).objs.size = s.heap.objs.size + 2 := by rw [Heap.size_push, s1]
  have s3 : (yPI s.heap t u).objs.size = s.heap.objs.size + 3 := by rw [Heap.size_push, s2]
  have s4 : (yPO s.heap t u).objs.size = s.heap.objs.size + 4 := by rw [Heap.size_push, s3]
  have g5 : (yAll s.heap t u).get? (yPO s.heap t u).objs.size = some _ := Heap.get?_push_size _ rfl
  have g4 : (yAll s.heap t u).get? (yPI s.heap t u).objs.size = some _ := Heap.get?_push_of_some _ (Heap.get?_push_size _ rfl)
  have g3 : (yAll s.heap t u).get? (yTT s.heap t u).objs.size = some _ := Heap.get?_push_of_some _ (Heap.get?_push_of_some _ (Heap.get?_push_size _ rfl))
  have g2 : (yAll s.heap t u).get? (zL s.heap t).objs.size = some _ := Heap.get?_push_of_some _ (Heap.get?_push_of_some _ (Heap.get?_push_of_some _ (Heap.get?_push_size _ rfl)))
  have g1 : (yAll s.heap t u).get? s.heap.objs.size = some _ := Heap.get?_push_of_some _ (Heap.get?_push_of_some _ (Heap.get?_push_of_some _ (Heap.get?_push_of_some _ (Heap.get?_push_size _ rfl))))
  show _ ∧ _
  rw [s2, s3, s4] at g5
  rw [s1, s2] at g3
  rw [s3] at g4
  rw [s1] at g2
  rw [s4]
  exact ⟨⟨_, g5, rfl⟩, h _ g5 g3 g4 ⟨_, g1, rfl, rfl⟩ ⟨_, g2, rfl, rfl⟩ fun c o q => Heap.get?_push_of_some _ (Heap.get?_push_of_some _ (Heap.get?_push_of_some _ (Heap.get?_push_of_some _ (Heap.get?_push_of_some _ q))))⟩
end
def Ity (t u : Addr) : It :=
  ⟨fun i H => ∃ xs ys x y, H t = some (.lst xs) ∧ H u = some (.tup ys) ∧ xs[i]? = some x ∧ ys[i]? = some y, fun i H v H' => ∃ p x y, H p = none ∧ v = .ref p ∧ H' = upd H p (.tup [x, y]) ∧ (∀ xs, H t = some (.lst xs) → xs[i]? = some x) ∧ ∀ ys, H u = some (.tup ys) → ys[i]? = some y,
   fun i H => ∃ xs ys, H t = some (.lst xs) ∧ H u = some (.tup ys) ∧ i ≤ xs.length ∧ i ≤ ys.length ∧ (i = xs.length ∨ i = ys.length)⟩
theorem turn_zipL {P : Program} {w : World} {K : PySem.W.Frag} {es : List Expr} {kk : Nat} {tp : Pos} (t u N : Addr) :
    Turn P w K (.Tuple es kk tp) (Ity t u) [N + 4, N + 2, N + 3, N, N + 1] (N + 4)
      (fun i h => IsZip h (N + 4) (N + 2) (N + 3) .none ∧ IsPair h (N + 2) (.ref N) (.ref (N + 1)) ∧ (∃ a b, IsPair h (N + 3) a b) ∧ h.IsListIter N t i ∧ h.IsTupleIter (N + 1) u i) where
  mem := by simp
  obj := fun i h st b hb => by
    obtain ⟨h1, h2, ⟨x, y, h3⟩, ⟨o4, h4, _, d4⟩, ⟨o5, h5, _, d5⟩⟩ := st
    simp only [List.mem_cons, List.not_mem_nil, or_false] at hb
    rcases hb with z | z | z | z | z
    · rw [z]; exact ⟨_, h1, fun v z => by
        have z' : Data.fields _ = Data.cell v := z
        cases z'⟩
    · rw [z]; exact ⟨_, h2, fun v z => by
        have z' : Data.seq _ _ = Data.cell v := z
        cases z'⟩
    · rw [z]; exact ⟨_, h3, fun v z => by
        have z' : Data.seq _ _ = Data.cell v := z
        cases z'⟩
    · rw [z]; exact ⟨o4, h4, fun v z => by rw [d4] at z; cases z⟩
    · rw [z]; exact ⟨o5, h5, fun v z => by rw [d5] at z; cases z⟩
  keep := fun i h h' st k => by
    obtain ⟨h1, h2, ⟨x, y, h3⟩, h4, h5⟩ := st
    exact ⟨k _ (by simp) _ h1, k _ (by simp) _ h2, ⟨x, y, k _ (by simp) _ h3⟩, h4.at fun o q => k _ (by simp) o q, h5.at fun o q => k _ (by simp) o q⟩
  item := by
    intro X hP hw hK hc i pins s σ H E I hf st hg
    subst hP hw hK
    obtain ⟨h1, h2, ⟨a0, b0, h3⟩, h4, h5⟩ := st
    obtain ⟨xs, ys, x, y, hx, hy, ex, ey⟩ := hg
    obtain ⟨its, rv, p, hz⟩ := I.list (SqL.of hx)
    obtain ⟨its2, rv2, p2, hz2⟩ := I.tuple (SqT.of hy)
    obtain ⟨a, ha, ra⟩ := rv.get ex
    obtain ⟨b, hb, rb⟩ := rv2.get ey
    have D0 := zApart (N := N) (t := t) (u := u) (fun c hc e => by rw [e, (hf c hc).1] at hx; cases hx) (fun c hc e => by rw [e, (hf c hc).1] at hy; cases hy)
    have hA : X.A.in1.handled = none := I.ok.hd hc
    have tn : t ≠ N := fun e => by rw [e, (hf N (by simp)).1] at hx; cases hx
    have un : u ≠ N + 1 := fun e => by rw [e, (hf (N + 1) (by simp)).1] at hy; cases hy
    have la : i < its.toArray.size := by
      have := (List.getElem?_eq_some_iff.mp ha).1
      simpa using this
    have lb : i < its2.toArray.size := by
      have := (List.getElem?_eq_some_iff.mp hb).1
      simpa using this
    refine zipN_item D0 (Draws.list (prog := X.prog) (w := X.w) hA N t tn its.toArray) (drawsT (prog := X.prog) (w := X.w) hA (N + 1) u un its2.toArray) h1 h2 h3 ⟨h4, p.isList⟩ ⟨h5, p2⟩ la lb fun x' y' g1 tk px py z1 z2 z3 z4 z5 z6 z7 k1 => ?_
    obtain rfl : x' = a := by
      have e : its.toArray[i]? = some x' := px
      rw [List.getElem?_toArray, ha] at e
      exact (Option.some.inj e).symm
    obtain rfl : y' = b := by
      have e : its2.toArray[i]? = some y' := py
      rw [List.getElem?_toArray, hb] at e
      exact (Option.some.inj e).symm
    refine ⟨_, rfl, wpAny_letOwnedTupleGo_zip (s := { s with heap := g1, toks := tk }) z1 fun g2 y1 e2 => ?_⟩
    replace e2 : Heap.SameBut (N + 4) g1 g2 := e2
    have hl4 : N + 4 < s.heap.objs.size := Heap.lt_size h1
    have d : ∀ i j : Nat, i ≠ j → (N + i : Nat) ≠ N + j := fun i j h e => h (Nat.add_left_cancel e)
    have ht2 : IsPair g2 s.heap.objs.size x' y' := e2.extBut _ _ (Nat.ne_of_gt hl4) z6
    have k2 : ∀ c o, c ∉ [N + 4, N + 2, N + 3, N, N + 1] → s.heap.get? c = some o → g2.get? c = some o := fun c o hc q => by
      have c4 : c ≠ N + 4 := fun z => hc (by simp [z])
      have c3 : c ≠ N + 3 := fun z => hc (by simp [z])
      have c0 : c ≠ N := fun z => hc (by simp [z])
      have c1 : c ≠ N + 1 := fun z => hc (by simp [z])
      exact e2.extBut c o c4 (k1 c o c4 c3 c0 c1 q)
    have I2 : Inv X pins σ (upd H s.heap.objs.size (.tup [x, y])) { s with heap := g2, toks := tk } := by
      refine I.turnLaid (fp := [N + 4, N + 2, N + 3, N, N + 1]) (Nat.le_refl _) k2 hf ?_
      exact ⟨by show 2 ≤ sizeLine; decide, [x', y'], .cons ra (.cons rb .nil), ⟨_, ht2, rfl, _, rfl⟩⟩
    refine ⟨.ref s.heap.objs.size, _, I2, rfl, ⟨s.heap.objs.size, x, y, I.hok.fresh (Nat.le_refl _), rfl, rfl, fun zs hy => ?_, fun zs hy' => ?_⟩, ⟨y1, e2.extBut _ _ (d 2 4 (by decide)) z2, ⟨_, _, e2.extBut _ _ (d 3 4 (by decide)) z3⟩, z4.1.extBut e2.extBut (d 0 4 (by decide)), z5.1.extBut e2.extBut (d 1 4 (by decide))⟩, fun b hb => ?_⟩
    · rw [hx] at hy; cases hy; exact ex
    · rw [hy] at hy'; cases hy'; exact ey
    · have hlt : b < s.heap.objs.size := by
        simp only [List.mem_cons, List.not_mem_nil, or_false] at hb
        rcases hb with z | z | z | z | z
        · rw [z]; exact hl4
        · rw [z]; exact Heap.lt_size h2
        · rw [z]; exact Heap.lt_size h3
        · obtain ⟨o, q, _⟩ := h4; rw [z]; exact Heap.lt_size q
        · obtain ⟨o, q, _⟩ := h5; rw [z]; exact Heap.lt_size q
      rw [upd_ne (Nat.ne_of_lt hlt)]
      exact (hf b hb).1
  done := by
    intro X hP hw hK hc i pins s σ H E I hf st hg
    subst hP hw hK
    obtain ⟨h1, h2, ⟨a0, b0, h3⟩, h4, h5⟩ := st
    obtain ⟨xs, ys, hx, hy, lx, ly, hend⟩ := hg
    obtain ⟨its, rv, p, hz⟩ := I.list (SqL.of hx)
    obtain ⟨its2, rv2, p2, hz2⟩ := I.tuple (SqT.of hy)
    have D0 := zApart (N := N) (t := t) (u := u) (fun c hc e => by rw [e, (hf c hc).1] at hx; cases hx) (fun c hc e => by rw [e, (hf c hc).1] at hy; cases hy)
    have hA : X.A.in1.handled = none := I.ok.hd hc
    have tn : t ≠ N := fun e => by rw [e, (hf N (by simp)).1] at hx; cases hx
    have un : u ≠ N + 1 := fun e => by rw [e, (hf (N + 1) (by simp)).1] at hy; cases hy
    have l1 := rv.length
    have l2 := rv2.length
    refine zipN_end D0 (Draws.list (prog := X.prog) (w := X.w) hA N t tn its.toArray) (drawsT (prog := X.prog) (w := X.w) hA (N + 1) u un its2.toArray) h1 h2 h3 ⟨h4, p.isList⟩ ⟨h5, p2⟩ ?_ fun h' tk hk => ⟨rfl, ?_⟩
    · simp only [List.size_toArray]
      omega
    · refine I.turnedN (fp := [N + 4, N + 2, N + 3, N, N + 1]) (fun c o hc q => ?_) hf
      exact hk c o (fun z => hc (by simp [z])) (fun z => hc (by simp [z])) (fun z => hc (by simp [z])) (fun z => hc (by simp [z])) q
  self := fun _ _ _ _ _ st h => wpAny_pyIter_zip st.1 h
def iZipL (ta : TA) : TI := fun σ H R => ta σ H fun vs H1 => ∃ t u xs ys, vs = [.ref t, .ref u] ∧ H1 t = some (.lst xs) ∧ H1 u = some (.tup ys) ∧ R (Ity t u) H1
section
variable {X : Cx}
theorem pi_zipL {es : List Expr} {kk : Nat} {tp : Pos} {a b : Expr} {ta : TA} {p pos : Pos} (hg : Gl X "zip") (hm : X.mg "zip" = none) (ha : PA X [a, b] ta) (hb : bootBuiltins "zip" = some (.type "zip") := by decide +kernel)
    (hs : starEach [a, b] X.env = [(false, eval a X.env), (false, eval b X.env)] := by rfl) (hs2 : starEach [b] X.env = [(false, eval b X.env)] := by rfl) : PI X (.Tuple es kk tp) (.Call (.Name "zip" p) [a, b] [] pos) (iZipL ta) := by
  intro pins s σ H R I h
  refine Call_ (ld_blt I hg hm hb (PyProof.Rows.callWith_type1 (thn (ha pos pins s σ H _ I h) fun us s1 ⟨vs, H1, I1, r1, q1⟩ => ?_) (by rw [hs, hs2]) (by rw [hs2]; rfl)))
  obtain ⟨t, u, xs, ys, e, hx, hy, q⟩ := q1
  subst e
  obtain ⟨u1, u2, rfl, ru, rw'⟩ := r1.two
  cases ru; cases rw'
  obtain ⟨its, rv, pl, hz⟩ := I1.list (SqL.of hx)
  obtain ⟨its2, rv2, pl2, hz2⟩ := I1.tuple (SqT.of hy)
  refine call_zipL pl.isList pl2 fun h' z1 z2 z3 z4 z5 hk => ?_
  refine wpAny_pyIter_zip (s := { s1 with heap := h' }) z1 ?_
  have I2 : Inv X pins σ H1 { s1 with heap := h' } := I1.kept (t' := s1.toks) hk
  refine ⟨s1.heap.objs.size + 4, _, _, _, H1, rfl, I2, turn_zipL t u s1.heap.objs.size, ⟨z1, z2, ⟨_, _, z3⟩, z4, z5⟩, fun b hb => ?_, q⟩
  have hle : s1.heap.objs.size ≤ b := by
    simp only [List.mem_cons, List.not_mem_nil, or_false] at hb
    rcases hb with z | z | z | z | z <;> rw [z]
    · exact Nat.le_add_right _ _
    · exact Nat.le_add_right _ _
    · exact Nat.le_add_right _ _
    · exact Nat.le_refl _
    · exact Nat.le_add_right _ _
  exact I1.fpOk hle (I1.hok.fresh hle)
end
end L2

namespace L2
open PySem PySem.Spec PyProof.Rows
theorem ap_seqI {K : PySem.W.Frag} {tl : TE} {σ : St} {H : Hp} {R : It → Hp → Prop} : iSeqH K tl σ H R = tl σ H fun x H1 => ∃ a, x = .ref a ∧ ((∃ xs, H1 a = some (.tup xs) ∧ R (Itt K a) H1) ∨ ∃ xs, H1 a = some (.lst xs) ∧ R (Itl K a) H1) := propext ⟨fun h => h, fun h => h⟩
theorem ap_zipL {ar : TA} {σ : St} {H : Hp} {R : It → Hp → Prop} : iZipL ar σ H R = ar σ H fun vs H1 => ∃ t u xs ys, vs = [.ref t, .ref u] ∧ H1 t = some (.lst xs) ∧ H1 u = some (.tup ys) ∧ R (Ity t u) H1 := propext ⟨fun h => h, fun h => h⟩
section
variable {g : TG} {tb : TS} {D0 : Ends} {σ : St} {H : Hp} {K : PySem.W.Frag} {a b : Addr} {xs ys : List V}
theorem ForW.zipT (Pv : Nat → St → Hp → Prop) (h0 : Pv 0 σ H) (hl : ∀ i σ H, i ≤ min xs.length ys.length → Pv i σ H → H a = some (.tup xs) ∧ H b = some (.tup ys))
    (hs : ∀ i x y σ H p, xs[i]? = some x → ys[i]? = some y → H p = none → Pv i σ H → g (.ref p) σ (upd H p (.tup [x, y])) fun σ2 H2 => tb { D0 with nx := Pv (i + 1), ct := Pv (i + 1), bk := D0.nx } σ2 H2) (hd : ∀ σ H, Pv (min xs.length ys.length) σ H → D0.nx σ H) : ForW (Itz a b) g tb D0 σ H := by
  refine ⟨fun i m σ H => m = min xs.length ys.length - i ∧ i ≤ min xs.length ys.length ∧ Pv i σ H, ⟨min xs.length ys.length, by simp, Nat.zero_le _, h0⟩, ?_⟩
  rintro i m σ H ⟨rfl, hi, p⟩
  obtain ⟨hx, hy⟩ := hl i σ H hi p
  by_cases hlt : i < min xs.length ys.length
  · have l1 : i < xs.length := by omega
    have l2 : i < ys.length := by omega
    refine .inr ⟨⟨xs, ys, xs[i], ys[i], hx, hy, by simp [l1], by simp [l2]⟩, Pv (i + 1), fun σ' H' p' => ⟨min xs.length ys.length - (i + 1), by omega, rfl, hlt, p'⟩, fun v H' y => ?_⟩
    obtain ⟨q1, x, y, hn, rfl, rfl, e1, e2⟩ := y
    exact hs i x y σ H q1 (e1 xs hx) (e2 ys hy) hn p
  · refine .inl ⟨⟨xs, ys, hx, hy, by omega, by omega, by omega⟩, ?_⟩
    have e : i = min xs.length ys.length := by omega
    subst e
    exact hd σ H p
theorem ForW.zipL (Pv : Nat → St → Hp → Prop) (h0 : Pv 0 σ H) (hl : ∀ i σ H, i ≤ min xs.length ys.length → Pv i σ H → H a = some (.lst xs) ∧ H b = some (.tup ys))
    (hs : ∀ i x y σ H p, xs[i]? = some x → ys[i]? = some y → H p = none → Pv i σ H → g (.ref p) σ (upd H p (.tup [x, y])) fun σ2 H2 => tb { D0 with nx := Pv (i + 1), ct := Pv (i + 1), bk := D0.nx } σ2 H2) (hd : ∀ σ H, Pv (min xs.length ys.length) σ H → D0.nx σ H) : ForW (Ity a b) g tb D0 σ H := by
  refine ⟨fun i m σ H => m = min xs.length ys.length - i ∧ i ≤ min xs.length ys.length ∧ Pv i σ H, ⟨min xs.length ys.length, by simp, Nat.zero_le _, h0⟩, ?_⟩
  rintro i m σ H ⟨rfl, hi, p⟩
  obtain ⟨hx, hy⟩ := hl i σ H hi p
  by_cases hlt : i < min xs.length ys.length
  · have l1 : i < xs.length := by omega
    have l2 : i < ys.length := by omega
    refine .inr ⟨⟨xs, ys, xs[i], ys[i], hx, hy, by simp [l1], by simp [l2]⟩, Pv (i + 1), fun σ' H' p' => ⟨min xs.length ys.length - (i + 1), by omega, rfl, hlt, p'⟩, fun v H' y => ?_⟩
    obtain ⟨q1, x, y, hn, rfl, rfl, e1, e2⟩ := y
    exact hs i x y σ H q1 (e1 xs hx) (e2 ys hy) hn p
  · refine .inl ⟨⟨xs, ys, hx, hy, by omega, by omega, by omega⟩, ?_⟩
    have e : i = min xs.length ys.length := by omega
    subst e
    exact hd σ H p
end
section
variable {tt : TT} {te : TE} {D : Addr} {σ : St} {H1 : Hp} {Q : Hp → Prop} {K : PySem.W.Frag} {a b : Addr} {xs ys : List V}
theorem LCW.zipL2 (Pv : Nat → Hp → Prop) (h0 : Pv 0 (upd H1 D (.lst []))) (hl : ∀ i H, i ≤ min xs.length ys.length → Pv i H → H a = some (.lst xs) ∧ H b = some (.tup ys))
    (hs : ∀ i x y H p, xs[i]? = some x → ys[i]? = some y → H p = none → Pv i H → LCItem tt te D (some x :: some y :: σ) (upd H p (.tup [x, y])) (Pv (i + 1))) (hd : ∀ H, Pv (min xs.length ys.length) H → Q H) : LCW (Ity a b) (gTup K 2 (gCons (gName 0) (gCons (gName 1) gNil))) tt te 2 D σ H1 Q := by
  refine ⟨fun i m σ' H => m = min xs.length ys.length - i ∧ i ≤ min xs.length ys.length ∧ (∃ o1 o2, σ' = o1 :: o2 :: σ) ∧ Pv i H, ⟨min xs.length ys.length, by simp, Nat.zero_le _, ⟨none, none, rfl⟩, h0⟩, ?_⟩
  rintro i m σ' H ⟨rfl, hi, ⟨o1, o2, rfl⟩, p⟩
  obtain ⟨hx, hy⟩ := hl i H hi p
  by_cases hlt : i < min xs.length ys.length
  · have l1 : i < xs.length := by omega
    have l2 : i < ys.length := by omega
    refine .inr ⟨⟨xs, ys, xs[i], ys[i], hx, hy, by simp [l1], by simp [l2]⟩, fun σ2 H2 => (∃ o1 o2, σ2 = o1 :: o2 :: σ) ∧ Pv (i + 1) H2, fun σ2 H2 p' => ⟨min xs.length ys.length - (i + 1), by omega, rfl, hlt, p'.1, p'.2⟩, fun v H' y => ?_⟩
    obtain ⟨q1, x, y, hn, rfl, rfl, e1, e2⟩ := y
    have q := hs i x y H q1 (e1 xs hx) (e2 ys hy) hn p
    refine ⟨q1, [x, y], rfl, SqT.of upd_same, rfl, x, [y], rfl, y, [], rfl, rfl, ?_⟩
    refine cast (congrArg (tt (some x :: some y :: σ) _) ?_) q
    funext b' H4
    by_cases hb : b' = true
    · rw [if_pos hb, if_pos hb]
      refine congrArg (te (some x :: some y :: σ) H4) ?_
      funext v H5
      refine propext ⟨fun ⟨zs, z1, z2, z3⟩ => ⟨zs, z1, z2, ⟨_, _, rfl⟩, z3⟩, fun ⟨zs, z1, z2, _, z3⟩ => ⟨zs, z1, z2, z3⟩⟩
    · rw [if_neg hb, if_neg hb]
      exact propext ⟨fun z => ⟨⟨_, _, rfl⟩, z⟩, fun z => z.2⟩
  · refine .inl ⟨⟨xs, ys, hx, hy, by omega, by omega, by omega⟩, ?_⟩
    have e : i = min xs.length ys.length := by omega
    subst e
    exact hd H p
theorem LCW.tup3 (Pv : Nat → Hp → Prop) (h0 : Pv 0 (upd H1 D (.lst []))) (hl : ∀ i H, i ≤ xs.length → Pv i H → H a = some (.tup xs))
    (hs : ∀ i x H, xs[i]? = some x → Pv i H → ∃ t u v w, x = .ref t ∧ H t = some (.tup [u, v, w]) ∧ LCItem tt te D (some u :: some v :: some w :: σ) H (Pv (i + 1))) (hd : ∀ H, Pv xs.length H → Q H) : LCW (Itt K a) (gTup K 3 (gCons (gName 0) (gCons (gName 1) (gCons (gName 2) gNil)))) tt te 3 D σ H1 Q := by
  refine ⟨fun i m σ' H => m = xs.length - i ∧ i ≤ xs.length ∧ (∃ o1 o2 o3, σ' = o1 :: o2 :: o3 :: σ) ∧ Pv i H, ⟨xs.length, by simp, Nat.zero_le _, ⟨none, none, none, rfl⟩, h0⟩, ?_⟩
  rintro i m σ' H ⟨rfl, hi, ⟨o1, o2, o3, rfl⟩, p⟩
  have hq := hl i H hi p
  by_cases hlt : i < xs.length
  · refine .inr ⟨⟨xs, xs[i], SqT.of hq, by simp [hlt]⟩, fun σ2 H2 => (∃ o1 o2 o3, σ2 = o1 :: o2 :: o3 :: σ) ∧ Pv (i + 1) H2, fun σ2 H2 p' => ⟨xs.length - (i + 1), by omega, rfl, hlt, p'.1, p'.2⟩, fun x H' y => ?_⟩
    obtain ⟨e, y⟩ := y
    subst e
    obtain ⟨t, u, v, w, rfl, ht, q⟩ := hs i x _ (y xs (SqT.of hq)) p
    refine ⟨t, [u, v, w], rfl, SqT.of ht, rfl, u, [v, w], rfl, v, [w], rfl, w, [], rfl, rfl, ?_⟩
    refine cast (congrArg (tt (some u :: some v :: some w :: σ) _) ?_) q
    funext b' H4
    by_cases hb : b' = true
    · rw [if_pos hb, if_pos hb]
      refine congrArg (te (some u :: some v :: some w :: σ) H4) ?_
      funext v H5
      refine propext ⟨fun ⟨zs, z1, z2, z3⟩ => ⟨zs, z1, z2, ⟨_, _, _, rfl⟩, z3⟩, fun ⟨zs, z1, z2, _, z3⟩ => ⟨zs, z1, z2, z3⟩⟩
    · rw [if_neg hb, if_neg hb]
      exact propext ⟨fun z => ⟨⟨_, _, _, rfl⟩, z⟩, fun z => z.2⟩
  · have e : i = xs.length := by omega
    subst e
    exact .inl ⟨⟨xs, SqT.of hq, Nat.le_refl _⟩, hd H p⟩
end
end L2

namespace L2
open PySem PySem.Spec PyProof.Rows
/-! ### sets of at most four small ints: the table, place by place -/
def allPl : Nat → List (List Nat)
  | 0 => [[]]
  | n + 1 => (List.range 8).flatMap fun j => ((allPl n).filter fun l => l.all fun x => decide (j < x)).map fun l => j :: l
abbrev tabOf (pl : List Nat) : SetTable := { mask := 7, place := pl.toArray, dummies := #[], finger := 0, led := true, moves := 0, plain := true }
def smallInts : List Int := [-9, -8, -7, -6, -5, -4, -3, -2, -1, 0, 1, 2, 3, 4, 5, 6, 7, 8, 9]
def stepOk (n : Nat) (pl : List Nat) (k : Int) : Bool := match (tabOf pl).freeSlot (hashInt k) with
  | some (j, d) => !d && decide ((SetTable.insertAt pl.toArray (SetTable.below pl.toArray j) j).toList ∈ allPl (n + 1)) && decide (SetTable.below pl.toArray j ≤ n)
  | none => false
theorem step0 : ∀ pl ∈ allPl 0, ∀ k ∈ smallInts, stepOk 0 pl k = true := by decide +kernel
theorem step1 : ∀ pl ∈ allPl 1, ∀ k ∈ smallInts, stepOk 1 pl k = true := by decide +kernel
theorem step2 : ∀ pl ∈ allPl 2, ∀ k ∈ smallInts, stepOk 2 pl k = true := by decide +kernel
theorem step3 : ∀ pl ∈ allPl 3, ∀ k ∈ smallInts, stepOk 3 pl k = true := by decide +kernel
def walkOk (n : Nat) (pl : List Nat) : Bool := decide (pl.length = n) && decide (SetTable.below pl.toArray 0 = 0) && (List.range n).all fun i => decide (SetTable.below pl.toArray (pl.getD i 0 + 1) = i + 1)
theorem walk0 : ∀ pl ∈ allPl 0, walkOk 0 pl = true := by decide +kernel
theorem walk1 : ∀ pl ∈ allPl 1, walkOk 1 pl = true := by decide +kernel
theorem walk2 : ∀ pl ∈ allPl 2, walkOk 2 pl = true := by decide +kernel
theorem walk3 : ∀ pl ∈ allPl 3, walkOk 3 pl = true := by decide +kernel
theorem walk4 : ∀ pl ∈ allPl 4, walkOk 4 pl = true := by decide +kernel
theorem stepAll {n : Nat} (hn : n ≤ 3) {pl : List Nat} (h : pl ∈ allPl n) {k : Int} (hk : -9 ≤ k ∧ k ≤ 9) : stepOk n pl k = true := by
  have hm : k ∈ smallInts := by
    have : k = -9 ∨ k = -8 ∨ k = -7 ∨ k = -6 ∨ k = -5 ∨ k = -4 ∨ k = -3 ∨ k = -2 ∨ k = -1 ∨ k = 0 ∨ k = 1 ∨ k = 2 ∨ k = 3 ∨ k = 4 ∨ k = 5 ∨ k = 6 ∨ k = 7 ∨ k = 8 ∨ k = 9 := by omega
    simp only [smallInts, List.mem_cons, List.not_mem_nil, or_false]
    exact this
  match n, hn, h with
  | 0, _, h => exact step0 pl h k hm
  | 1, _, h => exact step1 pl h k hm
  | 2, _, h => exact step2 pl h k hm
  | 3, _, h => exact step3 pl h k hm
theorem walkAll {n : Nat} (hn : n ≤ 4) {pl : List Nat} (h : pl ∈ allPl n) : walkOk n pl = true := by
  match n, hn, h with
  | 0, _, h => exact walk0 pl h
  | 1, _, h => exact walk1 pl h
  | 2, _, h => exact walk2 pl h
  | 3, _, h => exact walk3 pl h
  | 4, _, h => exact walk4 pl h
theorem slot_congr {t u : SetTable} (h2 : t.place = u.place) (h3 : t.dummies = u.dummies) (j : Nat) : t.slot j = u.slot j := by
  unfold SetTable.slot
  rw [h2, h3]
theorem adv_congr {t u : SetTable} (h1 : t.mask = u.mask) (p : SetTable.Probe) : t.advance p = u.advance p := by
  unfold SetTable.advance
  rw [h1]
theorem go_congr {t u : SetTable} (h1 : t.mask = u.mask) (h2 : t.place = u.place) (h3 : t.dummies = u.dummies) (f : Nat → Int) (h : Int) : ∀ (fuel : Nat) (p : SetTable.Probe), SetTable.probe.go t f h fuel p = SetTable.probe.go u f h fuel p
  | 0, p => by rw [SetTable.probe.go.eq_1, SetTable.probe.go.eq_1]
  | fuel + 1, p => by
    rw [SetTable.probe.go.eq_2, SetTable.probe.go.eq_2, slot_congr h2 h3]
    simp only [adv_congr h1, go_congr h1 h2 h3 f h fuel]
theorem free_congr {t u : SetTable} (h1 : t.mask = u.mask) (h2 : t.place = u.place) (h3 : t.dummies = u.dummies) (h : Int) : t.freeSlot h = u.freeSlot h := by
  unfold SetTable.freeSlot SetTable.probe SetTable.probeStart
  rw [go_congr h1 h2 h3, h1]
end L2

namespace L2
open PySem PySem.Spec PyProof.Rows
/-- the set at a: keys in the order of its table -/
def SetT (w : World) (h : Heap) (a : Addr) (ks : List Int) : Prop :=
  ∃ (o : Obj) (es : Array (Int × Value)) (ep : Nat) (t : SetTable) (pl : List Nat), h.get? a = some o ∧ o.ExactSet ∧ o.data = .set es ep t ∧ t.mask = 7 ∧ t.dummies = #[] ∧ t.plain = true ∧ t.led = !(w.params.followText "set-order") ∧
    t.place = pl.toArray ∧ pl ∈ allPl ks.length ∧ IntsAre (es.toList.map Prod.snd) ks ∧ (∀ e ∈ es.toList, ∃ k, Value.isInt k e.2 = true ∧ e.1 = hashInt k) ∧ ks.Nodup ∧ ks.length ≤ 4 ∧ ∀ k ∈ ks, -9 ≤ k ∧ k ≤ 9
theorem intsAre_len : ∀ {vs : List Value} {ns : List Int}, IntsAre vs ns → vs.length = ns.length
  | _, _, .nil => rfl
  | _, _, .cons n t r => by simp [intsAre_len r]
theorem pl_len {n : Nat} (hn : n ≤ 4) {pl : List Nat} (h : pl ∈ allPl n) : pl.length = n := by
  have := walkAll hn h
  unfold walkOk at this
  simp only [Bool.and_eq_true, decide_eq_true_eq] at this
  exact this.1.1
theorem fits_of {t : SetTable} {n : Nat} (h1 : t.mask = 7) (h2 : t.dummies = #[]) (h3 : t.place.size = n) (hn : n ≤ 4) : t.fits n = true := by
  unfold SetTable.fits SetTable.fill
  rw [h1, h2, h3]
  simp
  omega
theorem isInt_int {k : Int} {t : Tok} : Value.isInt k (.int k t) = true := by simp [Value.isInt]
theorem isInt_iff {k j : Int} {t : Tok} : Value.isInt k (.int j t) = true ↔ k = j := by
  constructor
  · intro h
    obtain ⟨t', e⟩ := Value.isInt_shape h
    cases e; rfl
  · rintro rfl; exact isInt_int
theorem findIdx_ints : ∀ {es : List (Int × Value)} {ks : List Int} {k : Int}, IntsAre (es.map Prod.snd) ks → (k ∈ ks ↔ (es.findIdx? fun e => Value.isInt k e.2).isSome = true)
  | [], _, k, r => by cases r; simp
  | e :: es, _, k, r => by
    obtain ⟨h, v⟩ := e
    cases r with
    | cons n t r =>
      have ih := findIdx_ints (k := k) r
      rw [List.findIdx?_cons]
      by_cases hk : k = n
      · subst hk
        simp [isInt_int]
      · have : Value.isInt k (.int n t) = false := by rw [← Bool.not_eq_true, isInt_iff]; exact hk
        simp only [this, List.mem_cons, hk, false_or]
        rw [ih]
        simp
theorem insertAt_list {α : Type} (xs : Array α) (p : Nat) (x : α) (hp : p ≤ xs.size) : (SetTable.insertAt xs p x).toList = xs.toList.take p ++ x :: xs.toList.drop p := by
  unfold SetTable.insertAt
  simp
  rw [List.take_of_length_le (by simp)]
section
variable {prog : Program} {w : World} {A : Around} {E : Value → Shared → Prop} {s : Shared}
theorem IntsAre.app : ∀ {vs us : List Value} {ns ms : List Int}, IntsAre vs ns → IntsAre us ms → IntsAre (vs ++ us) (ns ++ ms)
  | _, _, _, _, .nil, r => r
  | _, _, _, _, .cons n t q, r => .cons n t (IntsAre.app q r)
theorem IntsAre.takeN : ∀ {vs : List Value} {ns : List Int} (p : Nat), IntsAre vs ns → IntsAre (vs.take p) (ns.take p)
  | _, _, 0, _ => .nil
  | _, _, _ + 1, .nil => .nil
  | _, _, p + 1, .cons n t q => .cons n t (IntsAre.takeN p q)
theorem IntsAre.dropN : ∀ {vs : List Value} {ns : List Int} (p : Nat), IntsAre vs ns → IntsAre (vs.drop p) (ns.drop p)
  | _, _, 0, r => r
  | _, _, _ + 1, .nil => .nil
  | _, _, p + 1, .cons _ _ q => IntsAre.dropN p q
theorem setT_add {a : Addr} {ks : List Int} {k : Int} {tk : Tok} {Q : Bool → Shared → Prop} (hS : SetT w s.heap a ks) (hk : -9 ≤ k ∧ k ≤ 9) (hl : k ∉ ks → ks.length ≤ 3)
    (h : ∀ (h' : Heap) (ks' : List Int) (b : Bool), Heap.SameBut a s.heap h' → SetT w h' a ks' → (∀ x, x ∈ ks' ↔ x ∈ ks ∨ x = k) → (k ∈ ks → ks'.length = ks.length) → (k ∉ ks → ks'.length = ks.length + 1) → Q b { s with heap := h', toks := s.toks + 1 }) :
    wpAny (model prog w) A (setAdd a (.int k tk)) Q E s := by
  obtain ⟨o, es, ep, t, pl, g1, g2, g3, g4, g5, g6, g7, g8, g9, g10, g11, g12, g13, g14⟩ := hS
  have lks : es.size = ks.length := by
    have := intsAre_len g10
    rw [List.length_map, Array.length_toList] at this
    exact this
  have lpl := pl_len g13 g9
  have hfit : t.fits es.size = true := fits_of g4 g5 (by rw [g8, lks]; simpa using lpl) (by omega)
  have hel : ElemsOf (intKind prog w) es.toList := fun e he => by
    obtain ⟨k', e1, e2⟩ := g11 e he
    refine ⟨⟨k', e1, e2⟩, ?_⟩
    obtain ⟨t', e'⟩ := Value.isInt_shape e1
    rw [e']; rfl
  have hint : (intKind prog w).is k (.int k tk) = true := isInt_int (k := k) (t := tk)
  unfold setAdd
  refine wpAny_holding (wpAny_bind ((intKind prog w).pyHash (k := k) (v := .int k tk) hint ?_))
  unfold setAddHashed
  refine wpAny_holding ?_
  show wpAny _ _ (setAddHashedIn a (.int k tk) _ (99999 + 1)) _ _ _
  rw [setAddHashedIn.eq_2]
  refine wpAny_bind (wpAny_setState_of g1 g3 hfit ?_)
  show wpAny _ _ (if byScan (.int k tk) es = true then _ else _) _ _ _
  rw [if_pos (byScan_of (knd := intKind prog w) rfl (by unfold scanBound; omega) hel)]
  refine wpAny_bind ?_
  unfold setAddByScan
  refine wpAny_bind (wpAny_rule (wpAny_bind (wpAny_setScan_of (knd := intKind prog w) (k := k) hint g1 g3 hfit hel ?_)))
  have hfi := findIdx_ints (k := k) g10
  by_cases hm : k ∈ ks
  · have hs := hfi.mp hm
    cases hf : List.findIdx? (fun e => (intKind prog w).is k e.snd) es.toList with
    | none =>
      have hf' : List.findIdx? (fun e : Int × Value => Value.isInt k e.2) es.toList = none := hf
      rw [hf'] at hs; cases hs
    | some j =>
      refine wpAny_pure (wpAny_pure ?_)
      exact h s.heap ks false (Heap.SameBut.refl ..) ⟨o, es, ep, t, pl, g1, g2, g3, g4, g5, g6, g7, g8, g9, g10, g11, g12, g13, g14⟩ (fun x => ⟨.inl, fun z => z.elim id fun e => e ▸ hm⟩) (fun _ => rfl) (fun z => absurd hm z)
  · have hl3 := hl hm
    have hnone : List.findIdx? (fun e => (intKind prog w).is k e.snd) es.toList = none := by
      have hf' : List.findIdx? (fun e : Int × Value => Value.isInt k e.2) es.toList = none := by
        cases hf : List.findIdx? (fun e : Int × Value => Value.isInt k e.2) es.toList with
        | none => rfl
        | some j => exact absurd (hfi.mpr (by rw [hf]; rfl)) hm
      exact hf'
    rw [hnone]
    have st := stepAll hl3 g9 hk
    unfold stepOk at st
    have hfree : t.freeSlot (hashInt k) = (tabOf pl).freeSlot (hashInt k) := free_congr g4 g8 g5 _
    cases hfs : (tabOf pl).freeSlot (hashInt k) with
    | none => rw [hfs] at st; cases st
    | some jd =>
      obtain ⟨j, d⟩ := jd
      rw [hfs] at st hfree
      simp only [Bool.and_eq_true, Bool.not_eq_true', decide_eq_true_eq] at st
      obtain ⟨⟨st1, st2⟩, st3⟩ := st
      subst st1
      generalize hp : SetTable.below pl.toArray j = p at st2 st3
      have hput : t.put j = ({ mask := t.mask, place := SetTable.insertAt t.place p j, dummies := #[], finger := t.finger, led := t.led, moves := t.moves, plain := t.plain }, p) := by
        unfold SetTable.put
        rw [g8, hp, g5]
        rfl
      generalize ht' : ({ mask := t.mask, place := SetTable.insertAt t.place p j, dummies := #[], finger := t.finger, led := t.led, moves := t.moves, plain := t.plain } : SetTable) = t' at hput
      have m1 : t'.mask = 7 := by rw [← ht']; exact g4
      have m2 : t'.dummies = #[] := by rw [← ht']
      have m3 : t'.plain = true := by rw [← ht']; exact g6
      have m4 : t'.led = !(w.params.followText "set-order") := by rw [← ht']; exact g7
      have m5 : t'.place = (SetTable.insertAt pl.toArray p j).toList.toArray := by rw [← ht', g8]
      have lpl' : (SetTable.insertAt pl.toArray p j).toList.length = ks.length + 1 := pl_len (by omega) st2
      have les : (SetTable.insertAt es p (hashInt k, Value.int k tk)).toList = es.toList.take p ++ (hashInt k, Value.int k tk) :: es.toList.drop p := insertAt_list _ _ _ (by omega)
      have lsz : (SetTable.insertAt es p (hashInt k, Value.int k tk)).size = ks.length + 1 := by
        rw [← Array.length_toList, les]
        simp
        omega
      have hfit' : t'.fits (SetTable.insertAt es p (hashInt k, Value.int k tk)).size = true := fits_of m1 m2 (by rw [m5, lsz]; simpa using lpl') (by omega)
      have hlay : layNew t es (hashInt k) (.int k tk) = (SetTable.insertAt es p (hashInt k, Value.int k tk), t', false, false) := by
        unfold layNew
        rw [hfree]
        simp only [hput]
        unfold SetTable.orStandIn
        rw [if_pos hfit', hfit']
        rfl
      have hlay2 : layNew t es ((intKind prog w).hash k) (.int k tk) = (SetTable.insertAt es p (hashInt k, Value.int k tk), t', false, false) := hlay
      rw [hlay2]
      dsimp only
      refine wpAny_bind (wpAny_pure ?_)
      rw [if_pos m3, hashByValue_scannable 8 (x := .int k tk) rfl]
      refine wpAny_bind (wpAny_pure ?_)
      have hpk : plainKind (Value.int k tk) = true := rfl
      rw [if_pos hpk]
      have hsz : ¬ (SetTable.insertAt es p (hashInt k, Value.int k tk)).size > sizeLine := by rw [lsz]; have : (1000 : Nat) ≤ sizeLine := Nat.le_of_lt (small1000 (Nat.le_refl 1000)); omega
      have hfull : (!false && t'.tooFull) = false := by
        unfold SetTable.tooFull SetTable.fill
        rw [m1, m2, m5]
        simp
        have lx : (SetTable.insertAt pl.toArray p j).size = ks.length + 1 := by rw [← Array.length_toList]; exact lpl'
        omega
      rw [hfull]
      refine wpAny_bind ?_
      unfold storeSet
      refine wpAny_bind (wpAny_load' g1 ?_)
      rw [g3]
      dsimp only
      rw [if_neg hsz]
      refine wpAny_update' g1 ?_
      have hupd : Obj.putSet (SetTable.insertAt es p (hashInt k, Value.int k tk)) t' o = { o with data := .set (SetTable.insertAt es p (hashInt k, Value.int k tk)) (ep + 1) t' } := by
        obtain ⟨oc, od, oda, osl⟩ := o
        have g3' : oda = .set es ep t := g3
        subst g3'
        rfl
      rw [if_neg (by simp)]
      refine wpAny_pure (wpAny_pure ?_)
      refine h _ (ks.take p ++ k :: ks.drop p) true (Heap.SameBut.update ..) ⟨_, SetTable.insertAt es p (hashInt k, Value.int k tk), ep + 1, t', (SetTable.insertAt pl.toArray p j).toList, Heap.get?_update_self _ g1 (by rw [hupd]; rfl), ?_, ?_, m1, m2, m3, m4, m5, ?_, ?_, ?_, ?_, ?_, ?_⟩ ?_ ?_ ?_
      · rw [hupd]; exact g2
      · rw [hupd]
      · have e : (ks.take p ++ k :: ks.drop p).length = ks.length + 1 := by simp; omega
        rw [e]; exact st2
      · rw [les, List.map_append, List.map_cons, List.map_take, List.map_drop]
        exact IntsAre.app (IntsAre.takeN p g10) (.cons k tk (IntsAre.dropN p g10))
      · intro e he
        rw [les] at he
        rcases List.mem_append.mp he with z | z
        · exact g11 e (List.mem_of_mem_take z)
        · rcases List.mem_cons.mp z with z | z
          · rw [z]; exact ⟨k, isInt_int, rfl⟩
          · exact g11 e (List.mem_of_mem_drop z)
      · have hp : List.Perm (ks.take p ++ k :: ks.drop p) (k :: ks) := by
          have := List.perm_middle (a := k) (l₁ := ks.take p) (l₂ := ks.drop p)
          rw [List.take_append_drop] at this
          exact this
        rw [hp.nodup_iff, List.nodup_cons]
        exact ⟨hm, g12⟩
      · simp; omega
      · intro x hx
        rcases List.mem_append.mp hx with z | z
        · exact g14 x (List.mem_of_mem_take z)
        · rcases List.mem_cons.mp z with z | z
          · rw [z]; exact hk
          · exact g14 x (List.mem_of_mem_drop z)
      · intro x
        have hp : List.Perm (ks.take p ++ k :: ks.drop p) (k :: ks) := by
          have := List.perm_middle (a := k) (l₁ := ks.take p) (l₂ := ks.drop p)
          rw [List.take_append_drop] at this
          exact this
        rw [hp.mem_iff, List.mem_cons]
        exact or_comm
      · exact fun z => absurd z hm
      · intro _; simp; omega
end
end L2

namespace L2
open PySem PySem.Spec PyProof.Rows
section
variable {prog : Program} {w : World} {A : Around} {E : Value → Shared → Prop} {s : Shared}
theorem SetT.at {h h' : Heap} {S : Addr} {ks : List Int} (H : SetT w h S ks) (k : ∀ o, h.get? S = some o → h'.get? S = some o) : SetT w h' S ks := by
  obtain ⟨o, es, ep, t, pl, g1, r⟩ := H
  exact ⟨o, es, ep, t, pl, k o g1, r⟩
theorem setT_loop {R : Result → Shared → Prop} {I : Addr} {fp wr : List Addr} {n : Nat} {P : Nat → Value → Prop} {St : Nat → Heap → Prop} (W : Walks prog w A.in1 I fp wr n P St) (S : Addr) (hSf : S ∉ fp) (val : Nat → Int) (hval : ∀ i v, P i v → ∃ t, v = Value.int (val i) t) (hn : n ≤ 4) (hb : ∀ i < n, -9 ≤ val i ∧ val i ≤ 9) :
    ∀ (k i : Nat) (s : Shared) (ks : List Int), n - i = k → i ≤ n → St i s.heap → SetT w s.heap S ks → (∀ x, x ∈ ks ↔ ∃ j, j < i ∧ val j = x) → ks.length ≤ i →
      (∀ (h' : Heap) (tk : Nat) (ks' : List Int), (∀ b o, b ≠ S → b ∉ wr → s.heap.get? b = some o → h'.get? b = some o) → SetT w h' S ks' → (∀ x, x ∈ ks' ↔ ∃ j, j < n ∧ val j = x) → R (.ok (.ret .none)) { s with heap := h', toks := tk }) →
      codeAny (model prog w) A (Code.builtin "set.update.loop" ⟨[.ref S, .ref I], []⟩) R s := by
  have hSw : S ∉ wr := fun h => hSf (W.sub S h)
  intro k
  induction k with
  | zero =>
    intro i s ks hk hi hst hS hks hlen hR
    have hin : i = n := by omega
    subst hin
    refine codeAny_builtin F.entry_set_update_loop ?_
    rw [Around.under_plainId F.plain_set_update_loop]
    refine (show wpAny _ _ (pyNext (.ref I) >>= _) _ _ _ from wpAny_bind (W.done s _ _ hst fun h' tk hk' => ?_))
    exact wpAny_pure (hR h' tk ks (fun b o _ hw e => hk' b o hw e) (hS.at fun o e => hk' S o hSw e) hks)
  | succ k ih =>
    intro i s ks hk hi hst hS hks hlen hR
    refine codeAny_builtin F.entry_set_update_loop ?_
    rw [Around.under_plainId F.plain_set_update_loop]
    refine (show wpAny _ _ (pyNext (.ref I) >>= _) _ _ _ from wpAny_bind (W.item i s _ _ (by omega) hst fun v h' tk hP hst' hk' => ?_))
    obtain ⟨t, rfl⟩ := hval i v hP
    refine (show wpAny _ _ (holding [Value.int (val i) t] (setAdd S (.int (val i) t)) >>= _) _ _ _ from wpAny_bind (wpAny_holding ?_))
    refine setT_add (s := { s with heap := h', toks := tk }) (hS.at fun o e => hk' S o hSw e) (hb i (by omega)) (fun _ => by omega) fun h2 ks2 b sb hS2 hm l1 l2 => ?_
    refine wpAny_pure ⟨plainId_quiet F.plain_set_update_loop _, ih (i + 1) _ ks2 (by omega) (by omega) ?_ hS2 ?_ ?_ fun h3 tk3 ks3 q1 q2 q3 => ?_⟩
    · exact W.frame _ _ _ hst' fun b hb' o e => sb.extBut b o (fun z => hSf (z ▸ hb')) e
    · intro x
      rw [hm, hks]
      constructor
      · rintro (⟨j, h1, h2⟩ | rfl)
        · exact ⟨j, by omega, h2⟩
        · exact ⟨i, by omega, rfl⟩
      · rintro ⟨j, h1, h2⟩
        by_cases e : j = i
        · subst e; exact .inr h2.symm
        · exact .inl ⟨j, by omega, h2⟩
    · by_cases hin : val i ∈ ks
      · have := l1 hin; omega
      · have := l2 hin; omega
    · exact hR h3 tk3 ks3 (fun b o hb1 hb2 e => q1 b o hb1 hb2 (sb.extBut b o hb1 (hk' b o hb2 e))) q2 q3
theorem code_set_newL (a : Value) {Q₁ : Value → Shared → Prop}
    (h : Q₁ (.ref s.heap.objs.size) { s with heap := s.heap.push { cls := .type "set", data := .set #[] 0 (SetTable.fresh 0 0 (!(w.params.followText "set-order"))) } }) :
    codeAny (model prog w) A (Code.call (.builtin "set.__new__") ⟨[.type "set", a], []⟩) (wants Q₁ E) s := by
  refine codeAny_of_tree ?_
  refine (show wpAny _ _ (checkBuiltinCall "set.__new__" ⟨[.type "set", a], []⟩ >>= _) _ _ _ from wpAny_bind (wpAny_of_eq (F.newCall_set_1 a) (wpAny_pure ⟨plainId_quiet F.plain_set_new _, codeAny_builtin F.entry_set_new ?_⟩)))
  rw [Around.under_plainId F.plain_set_new]
  have hsub := sub_set_self
  refine (show wpAny _ _ (Builtin.Frozenset.newClass "set" _ >>= _) _ _ _ from wpAny_bind ?_)
  unfold Builtin.Frozenset.newClass
  refine wpAny_bind (wpAny_pure ?_)
  refine wpAny_ite_false rfl (wpAny_bind (wpAny_of_eq hsub (wpAny_ite_false rfl (wpAny_pure ?_))))
  refine (show wpAny _ _ (newSet (.type "set") >>= _) _ _ _ from wpAny_bind ?_)
  unfold newSet
  refine wpAny_bind ?_
  unfold setsByText
  refine wpAny_bind (wpAny_askSetting (wpAny_pure ?_))
  exact (show wpAny _ _ (newObj (.type "set") (Data.set #[] 0 (SetTable.fresh 0 0 (!(w.params.followText "set-order"))))) _ _ _ from wpAny_newObj_type (wpAny_pure h) (by first | size_fits | (intro _; decide)))
theorem intsAre_get : ∀ {vs : List Value} {ns : List Int} {i : Nat} {v : Value}, IntsAre vs ns → vs[i]? = some v → ∃ t, v = Value.int (ns.getD i 0) t
  | _, _, _, _, .nil, e => by simp at e
  | _, _, 0, _, .cons n t _, e => ⟨t, by simpa using e.symm⟩
  | _, _, i + 1, v, .cons n t r, e => by
    obtain ⟨t', e'⟩ := intsAre_get (i := i) (v := v) r (by simpa using e)
    exact ⟨t', by simpa using e'⟩
theorem init_setT {S l : Addr} {items : Array Value} {ns : List Int} {F : PySem.Fin → Shared → Prop} {hp : Heap} {g : Array GenState} {d : Drawn} {tk : Nat} {os : OsState} (hh : A.handled = none) (hS : hp.get? S = some { cls := .type "set", data := .set #[] 0 (SetTable.fresh 0 0 (!(w.params.followText "set-order"))) }) (hl : hp.IsTuple l items) (hi : IntsAre items.toList ns) (hn : ns.length ≤ 4) (hb : ∀ n ∈ ns, -9 ≤ n ∧ n ≤ 9)
    (h : ∀ (h' : Heap) (tk' : Nat) (ks : List Int), SetT w h' S ks → (∀ x, x ∈ ks ↔ x ∈ ns) → (∀ b o, b ≠ S → hp.get? b = some o → h'.get? b = some o) → F (.done (.ret .none)) ⟨h', g, d, tk', os⟩) :
    wpAny (model prog w) A (Builtin.«set.__init__» ⟨[.ref S, .ref l], []⟩) F E ⟨hp, g, d, tk, os⟩ := by
  have hT : Shared.TypeIs ⟨hp, g, d, tk, os⟩ (.ref S) "set" := ⟨_, hS, rfl⟩
  have hTt : Shared.TypeIs ⟨hp, g, d, tk, os⟩ (.ref l) "tuple" := hl.typeIs
  unfold Builtin.«set.__init__»
  refine wpAny_bind ?_
  unfold noKeywords
  refine wpAny_ite_true rfl (wpAny_pure ?_)
  dsimp only
  refine wpAny_bind ?_
  unfold typeNameOfCut
  refine wpAny_bind ?_
  unfold shownTypeOf
  refine wpAny_bind (wpAny_typeOf hT ?_)
  first
  | refine wpAny_ite_false rfl (wpAny_pure ?_)
  | refine wpAny_pure ?_
  refine (show wpAny _ _ (pure _) _ _ _ from wpAny_pure ?_)
  refine wpAny_bind ?_
  unfold checkCount
  refine wpAny_ite_false rfl (wpAny_ite_false rfl (wpAny_ite_false rfl (wpAny_pure ?_)))
  refine wpAny_bind (wpAny_pure ?_)
  refine wpAny_bind ?_
  unfold setUsed
  refine wpAny_bind (wpAny_setState_of hS rfl (by rfl) (wpAny_pure ?_))
  refine wpAny_ite_false rfl ?_
  refine wpAny_bind ?_
  unfold Builtin.Frozenset.updateFrom
  refine wpAny_bind ?_
  unfold Builtin.Frozenset.isAnySet
  refine (show wpAny _ _ (isInstance (.ref l) (.type "set") >>= _) _ _ _ from wpAny_bind (wpAny_isInstance hTt PySem.F.sub_tuple_set ?_))
  refine (show wpAny _ _ (isInstance (.ref l) (.type "frozenset")) _ _ _ from wpAny_isInstance hTt PySem.F.sub_tuple_frozenset ?_)
  refine wpAny_ite_false rfl (wpAny_bind (wpAny_typeOf hTt (wpAny_ite_false rfl (wpAny_bind (wpAny_pyIter_tuple hl ?_)))))
  refine wpAny_bind (wpAny_runValue ?_)
  have hlt : S < hp.objs.size := Heap.lt_size hS
  obtain ⟨o, ho, hor⟩ := hl
  have hlt2 : l < hp.objs.size := Heap.lt_size ho
  have hne : l ≠ hp.objs.size := Nat.ne_of_lt hlt2
  have W := Walks.tuple (prog := prog) (w := w) (A := A.in1) hh hp.objs.size l hne items
  have lit : items.size = ns.length := by rw [← Array.length_toList]; exact intsAre_len hi
  have hSl : S ≠ l := fun e => by
    rw [e, ho] at hS
    cases hS
    exact absurd (Value.type.inj hor.1) (by decide)
  refine setT_loop W S (by simp only [List.mem_cons, List.not_mem_nil, or_false, not_or]; exact ⟨Nat.ne_of_lt hlt, hSl⟩) (fun i => ns.getD i 0) ?_ (by omega) ?_ items.size 0 _ [] (by omega) (Nat.zero_le _) ?_ ?_ ?_ (Nat.le_refl 0) ?_
  · intro i v hv
    exact intsAre_get hi (by simpa using hv)
  · intro i hi2
    have : ns.getD i 0 ∈ ns := by rw [List.getD_eq_getElem?_getD, List.getElem?_eq_getElem (show i < ns.length by omega)]; exact List.getElem_mem _
    exact hb _ this
  · exact ⟨⟨_, Heap.get?_push_size _ rfl, rfl, rfl⟩, ⟨o, Heap.get?_push_of_some _ ho, hor⟩⟩
  · refine ⟨_, #[], 0, _, [], Heap.get?_push_of_some _ hS, ⟨rfl, rfl, rfl⟩, rfl, rfl, rfl, rfl, rfl, rfl, by decide, .nil, by simp, List.nodup_nil, by simp, by simp⟩
  · intro x
    simp
  · intro h' tk' ks' q1 q2 q3
    refine wpAny_pure (wpAny_pure (h h' tk' ks' q2 ?_ ?_))
    · intro x
      rw [q3]
      constructor
      · rintro ⟨j, hj, rfl⟩
        show ns.getD j 0 ∈ ns
        rw [List.getD_eq_getElem?_getD, List.getElem?_eq_getElem (show j < ns.length by omega)]
        exact List.getElem_mem _
      · intro hx
        obtain ⟨j, hj, e⟩ := List.mem_iff_getElem.mp hx
        refine ⟨j, by omega, ?_⟩
        show ns.getD j 0 = x
        rw [List.getD_eq_getElem?_getD, List.getElem?_eq_getElem hj]
        exact e
    · intro b o' hbS e
      refine q1 b o' hbS ?_ (Heap.get?_push_of_some _ e)
      simp only [List.mem_singleton]
      exact Nat.ne_of_lt (Heap.lt_size e)
theorem call_setT {l : Addr} {items : Array Value} {ns : List Int} {Q : Value → Shared → Prop} (hh : A.handled = none) (hl : s.heap.IsTuple l items) (hi : IntsAre items.toList ns) (hn : ns.length ≤ 4) (hb : ∀ n ∈ ns, -9 ≤ n ∧ n ≤ 9)
    (h : ∀ (h' : Heap) (tk : Nat) (ks : List Int), SetT w h' s.heap.objs.size ks → (∀ x, x ∈ ks ↔ x ∈ ns) → (∀ b o, s.heap.get? b = some o → h'.get? b = some o) → Q (.ref s.heap.objs.size) { s with heap := h', toks := tk }) : wpAny (model prog w) A (call (.type "set") [.ref l]) Q E s := by
  obtain ⟨c, tl, hmro⟩ := F.called_set.mro
  have hmade := F.called_set.made
  have hsub := F.called_set.sub
  have h1 := F.called_set.notType
  have h2 := F.called_set.canCreate
  have hct := F.typeCall_set_1 (Value.ref l)
  refine wpAny_call (codeAny_of_tree ?_)
  refine (show wpAny _ _ (pure (Fin.again (Code.builtin "type.__call__" ⟨[.type "set", .ref l], []⟩))) _ _ _ from wpAny_pure ⟨Code.quiet_builtin _ (by decide +kernel), codeAny_builtin F.entry_type_call ?_⟩)
  rw [Around.under_plain (weight_type_call_type "set" [Value.ref l] []) rfl]
  unfold Builtin.«type.__call__»
  dsimp only
  refine wpAny_ite_false rfl (wpAny_ite_false (by rw [h2]; rfl) (wpAny_bind (wpAny_of_eq hct (wpAny_bind (wpAny_of_eq hmro (wpAny_ite_false rfl (wpAny_bind (wpAny_of_eq hmade ?_))))))))
  dsimp only
  refine wpAny_bind (wpAny_pure (wpAny_bind (wpAny_holding (wpAny_call (codeAny_mono (code_set_newL (E := fun _ _ => False) (Q₁ := fun obj s₁ => obj = .ref s.heap.objs.size ∧ s₁ = { s with heap := s.heap.push { cls := .type "set", data := .set #[] 0 (SetTable.fresh 0 0 (!(w.params.followText "set-order"))) } }) (.ref l) ⟨rfl, rfl⟩) fun r s₁ hr => ?_)))))
  generalize hs1 : ({ s with heap := s.heap.push { cls := .type "set", data := .set #[] 0 (SetTable.fresh 0 0 (!(w.params.followText "set-order"))) } } : Shared) = sN at hr
  cases r with
  | error e => exact False.elim hr
  | ok f =>
    cases f with
    | ret v =>
      obtain ⟨e1, e2⟩ := hr
      subst e1 e2
      have hT : Shared.TypeIs s₁ (.ref s.heap.objs.size) "set" := by
        rw [← hs1]
        exact ⟨_, Heap.get?_push_size _ rfl, rfl⟩
      show wpAny _ _ _ _ _ _
      refine wpAny_bind (wpAny_isInstance (T := "set") (b := true) hT hsub ?_)
      refine wpAny_ite_false rfl (wpAny_bind (wpAny_holding ?_))
      refine wpAny_callSpecial?_slot (name := Str.ofString "__init__") hT F.called_set.init (wpAny_call (codeAny_call_builtin F.called_set.init.plain F.entry_set_init (check_set_init_1 hT ?_)))
      subst hs1
      obtain ⟨hp, g, d, tk, os⟩ := s
      refine init_setT (hp := hp.push _) hh (Heap.get?_push_size _ rfl) (by
        obtain ⟨o, e, r⟩ := hl
        exact ⟨o, Heap.get?_push_of_some _ e, r⟩) hi hn hb fun h' tk' ks q1 q2 q3 => ?_
      refine wpAny_ite_false rfl (wpAny_pure (h h' tk' ks q1 q2 fun b o e => q3 b o (Nat.ne_of_lt (Heap.lt_size e)) (Heap.get?_push_of_some _ e)))
    | _ => exact False.elim hr
end
end L2

namespace L2
open PySem PySem.Spec PyProof.Rows
/-! ### a set is walked -/
theorem slot_set_iterator_next : Slot "set_iterator" (Str.ofString "__next__") "set_iterator.__next__" :=
  Slot.of (owner := "set_iterator") (n := "__next__") (by rw [typeLookup_type, builtinLookup_eq_fast]; rfl) (by decide +kernel) (by decide +kernel) (by decide +kernel) (Or.inl (by decide +kernel)) (by rw [isSubtype_type]; rfl) (by decide +kernel)
theorem slot_set_iterator_iter : ∃ id, Slot "set_iterator" (Str.ofString "__iter__") id := ⟨_, Slot.of (id := "set_iterator.__iter__") (owner := "set_iterator") (n := "__iter__") (by rw [typeLookup_type, builtinLookup_eq_fast]; rfl) (by decide +kernel) (by decide +kernel) (by decide +kernel) (Or.inl (by decide +kernel)) (by rw [isSubtype_type]; rfl) (by decide +kernel)⟩
theorem entry_set_iterator_next : entryFor table "set_iterator.__next__" = some Builtin.«set_iterator.__next__» := entryFor_of_tree (by rfl)
theorem entry_set_iter : entryFor table "set.__iter__" = some Builtin.«frozenset.__iter__» := entryFor_alias (id' := "frozenset.__iter__") (by rfl) (by decide +kernel) (by decide +kernel) (by rfl)
theorem owner_set_iterator : List.lookup (String.ofList "set_iterator".toList) Manifest.owners = some Manifest.sig_set_iterator := by rfl
theorem args_set_iterator_next (a : Value) : argsOk "set_iterator.__next__" ⟨[a], []⟩ := by
  have h : Manifest.signature? "set_iterator.__next__" = List.lookup (String.ofList (['_', '_', 't', 'x', 'e', 'n', '_', '_'] : List Char).reverse) Manifest.sig_set_iterator := signature?_of (o := ['r', 'o', 't', 'a', 'r', 'e', 't', 'i', '_', 't', 'e', 's']) (by decide +kernel) owner_set_iterator
  unfold argsOk
  rw [h]
  rfl
theorem hint_set {prog : Program} {w : World} {A : Around} {E : Value → Shared → Prop} {s : Shared} {r : Addr} {Q : Bool → Shared → Prop} (hT : s.TypeIs (.ref r) "set") (h : Q false s) : wpAny (model prog w) A (Builtin.List.listLengthHint (.ref r)) Q E s := by
  unfold Builtin.List.listLengthHint
  refine wpAny_bind (wpAny_specialOf hT F.slot_set_len.lookup ?_)
  dsimp only
  rw [show splitId "set.__len__" = some ("set", "__len__") by decide +kernel]
  dsimp only
  refine wpAny_bind (wpAny_isInstance hT F.called_set.sub (wpAny_ite_false rfl ?_))
  refine wpAny_ite_true rfl (wpAny_bind (wpAny_typeOf hT ?_))
  exact wpAny_pure h
theorem perm_erase {α : Type} : ∀ (l : List α) (k : Nat) (h : k < l.length), List.Perm (l[k] :: l.eraseIdx k) l
  | x :: l, 0, _ => by simp
  | x :: l, k + 1, h => by
    have hk : k < l.length := by simpa using h
    have ih := perm_erase l k hk
    simp only [List.getElem_cons_succ, List.eraseIdx_cons_succ]
    exact (List.Perm.swap ..).trans (List.Perm.cons x ih)
theorem pick_go {α : Type} (next : Nat → Nat) : ∀ (fuel a : Nat) (l : List α) (acc : Array α), fuel = l.length → List.Perm (pickOrder.go next fuel a l acc).toList (acc.toList ++ l)
  | 0, a, l, acc, h => by
    have : l = [] := List.eq_nil_of_length_eq_zero h.symm
    subst this
    rw [pickOrder.go.eq_1, List.append_nil]
  | fuel + 1, a, l, acc, h => by
    rw [pickOrder.go.eq_2]
    have hlt : next a % l.length < l.length := Nat.mod_lt _ (by omega)
    rw [List.getElem?_eq_getElem hlt]
    refine (pick_go next fuel (a + 1) (l.eraseIdx (next a % l.length)) (acc.push l[next a % l.length]) (by rw [List.length_eraseIdx_of_lt hlt]; omega)).trans ?_
    rw [Array.toList_push, List.append_assoc]
    refine List.Perm.append_left _ ?_
    rw [List.singleton_append]
    exact perm_erase l _ hlt
theorem pick_perm {α : Type} (next : Nat → Nat) (xs : Array α) : List.Perm (pickOrder next xs).toList xs.toList := by
  unfold pickOrder
  have := pick_go next xs.size 0 xs.toList #[] (by simp)
  simpa using this
section
variable {prog : Program} {w : World} {A : Around} {E : Value → Shared → Prop} {s : Shared}
abbrev byText (w : World) : Bool := w.params.followText "set-order"
/-- the order in which a set's things come -/
def orderOf (w : World) (S : Addr) (ep : Nat) (es : Array (Int × Value)) : Array (Int × Value) := if byText w = true then pickOrder (w.params.setOrder S ep) es else es
theorem order_perm (w : World) (S : Addr) (ep : Nat) (es : Array (Int × Value)) : List.Perm (orderOf w S ep es).toList es.toList := by
  unfold orderOf
  split
  · exact pick_perm _ _
  · exact List.Perm.refl _
def slotAt (w : World) (pl : List Nat) : Nat → Nat
  | 0 => 0
  | i + 1 => if byText w = true then 0 else pl.getD i 0 + 1
/-- the set at S as it is, and its iterator at its i-th thing -/
structure SetO (w : World) (o : Obj) (es : Array (Int × Value)) (ep : Nat) (t : SetTable) (pl : List Nat) : Prop where
  dat : o.data = .set es ep t
  cls : o.cls = .type "set"
  mask : t.mask = 7
  dum : t.dummies = #[]
  plain : t.plain = true
  led : t.led = !byText w
  place : t.place = pl.toArray
  mem : pl ∈ allPl es.size
  few : es.size ≤ 4
def itObj (w : World) (S : Addr) (es : Array (Int × Value)) (ep : Nat) (pl : List Nat) (i : Nat) : Obj := { cls := .type "set_iterator", data := .fields #[rawInt (slotAt w pl i : Nat), rawInt (i : Nat), .ref S, rawInt (es.size : Nat), rawInt (ep : Nat)] }
theorem SetO.fits {o : Obj} {es : Array (Int × Value)} {ep : Nat} {t : SetTable} {pl : List Nat} (H : SetO w o es ep t pl) : t.fits es.size = true :=
  fits_of H.mask H.dum (by rw [H.place]; simpa using pl_len H.few H.mem) H.few
theorem slot_below {pl : List Nat} {n i : Nat} (hn : n ≤ 4) (h : pl ∈ allPl n) (hi : i ≤ n) (hw : byText w = false) : SetTable.below pl.toArray (slotAt w pl i) = i := by
  have := walkAll hn h
  unfold walkOk at this
  simp only [Bool.and_eq_true, decide_eq_true_eq, List.all_eq_true, List.mem_range] at this
  obtain ⟨⟨_, h0⟩, hs⟩ := this
  cases i with
  | zero => exact h0
  | succ i =>
    unfold slotAt
    rw [hw]
    exact hs i (by omega)
/-- the i-th thing, or the end -/
theorem next_set {S : Addr} {o : Obj} {es : Array (Int × Value)} {ep : Nat} {t : SetTable} {pl : List Nat} {i : Nat} {Q : Option (Value × Nat) → Shared → Prop} (H : SetO w o es ep t pl) (hS : s.heap.get? S = some o) (hi : i ≤ es.size)
    (h : Q (((orderOf w S ep es)[i]?).map fun e => (e.2, slotAt w pl (i + 1))) s) : wpAny (model prog w) A (setNext S (slotAt w pl i) i ep) Q E s := by
  unfold setNext
  refine wpAny_bind (wpAny_setState_of hS H.dat H.fits ?_)
  dsimp only
  unfold setsByText
  refine wpAny_bind (wpAny_bind (wpAny_askSetting (wpAny_pure ?_)))
  show wpAny _ _ (if byText w = true then _ else _) _ _ _
  by_cases hb : byText w = true
  · rw [if_pos hb]
    refine wpAny_ite_false (by simp) ?_
    refine wpAny_bind ?_
    unfold setWalk
    refine wpAny_bind (wpAny_setState_of hS H.dat H.fits ?_)
    dsimp only
    unfold setsByText
    refine wpAny_bind (wpAny_bind (wpAny_askSetting (wpAny_pure ?_)))
    show wpAny _ _ (if byText w = true then _ else _) _ _ _
    rw [if_pos hb]
    refine wpAny_bind (wpAny_askSetting (wpAny_pure (wpAny_pure ?_)))
    have e1 : orderOf w S ep es = pickOrder (w.params.setOrder S ep) es := by unfold orderOf; rw [if_pos hb]
    rw [e1] at h
    have e2 : slotAt w pl (i + 1) = slotAt w pl i := by
      cases i with
      | zero => simp [slotAt, hb]
      | succ j => simp [slotAt, hb]
    rw [e2] at h
    exact h
  · rw [if_neg hb]
    have hbf : byText w = false := by simpa using hb
    refine wpAny_ite_false (by
      show decide ((!t.plain && decide (es.size > 1)) = true) = false
      rw [H.plain]
      rfl) ?_
    refine wpAny_bind ?_
    refine wpAny_ite_false (by
      rw [H.led, hbf]
      rfl) (wpAny_pure (wpAny_pure ?_))
    have e1 : orderOf w S ep es = es := by unfold orderOf; rw [if_neg hb]
    rw [e1] at h
    rw [H.place, slot_below H.few H.mem hi hbf]
    have lpl := pl_len H.few H.mem
    by_cases hlt : i < es.size
    · have a1 : es[i]? = some es[i] := by simp [hlt]
      have a2 : pl.toArray[i]? = some (pl.getD i 0) := by
        rw [List.getElem?_toArray, List.getD_eq_getElem?_getD, List.getElem?_eq_getElem (show i < pl.length by omega)]
        rfl
      rw [a1] at h
      rw [a1, a2]
      have e3 : slotAt w pl (i + 1) = pl.getD i 0 + 1 := by simp [slotAt, hb]
      rw [e3] at h
      exact h
    · have a1 : es[i]? = none := by simp; omega
      rw [a1] at h
      rw [a1]
      exact h
theorem SetO.typeIs {o : Obj} {es : Array (Int × Value)} {ep : Nat} {t : SetTable} {pl : List Nat} {S : Addr} (H : SetO w o es ep t pl) (hS : s.heap.get? S = some o) : s.TypeIs (.ref S) "set" := ⟨o, hS, H.cls⟩
theorem pyIter_set {S : Addr} {o : Obj} {es : Array (Int × Value)} {ep : Nat} {t : SetTable} {pl : List Nat} {Q : Value → Shared → Prop} (H : SetO w o es ep t pl) (hS : s.heap.get? S = some o)
    (h : Q (.ref s.heap.objs.size) { s with heap := s.heap.push (itObj w S es ep pl 0) }) : wpAny (model prog w) A (pyIter (.ref S)) Q E s := by
  refine wpAny_pyIter_slot (H.typeIs hS) F.slot_set_iter (wpAny_call_entry F.slot_set_iter (H.typeIs hS) entry_set_iter ?_ (F.args_set_iter_1 _))
  unfold Builtin.«frozenset.__iter__»
  refine wpAny_bind ?_
  unfold Builtin.Frozenset.slot0 slotArgs
  refine wpAny_bind (wpAny_ite_false rfl (wpAny_ite_false rfl (wpAny_pure ?_)))
  refine wpAny_pure ?_
  refine wpAny_bind ?_
  unfold Builtin.Frozenset.sizeOf setEntries
  refine wpAny_bind (wpAny_bind (wpAny_setState_of hS H.dat H.fits (wpAny_pure (wpAny_pure ?_))))
  refine wpAny_bind ?_
  unfold setDrawn
  refine wpAny_bind (wpAny_setState_of hS H.dat H.fits ?_)
  dsimp only
  unfold setsByText
  refine wpAny_bind (wpAny_bind (wpAny_askSetting (wpAny_pure (wpAny_pure ?_))))
  refine wpAny_ite_false (by
    show decide ((!byText w && (!t.plain && decide (es.size > 1))) = true) = false
    rw [H.plain]
    simp) ?_
  refine wpAny_bind (wpAny_pure ?_)
  refine wpAny_bind ?_
  unfold setEpoch
  refine wpAny_bind (wpAny_setState_of hS H.dat H.fits (wpAny_pure ?_))
  refine wpAny_bind ?_
  unfold newFields
  exact wpAny_newObj_type (wpAny_pure ⟨_, rfl, "set_iterator", _, ⟨_, Heap.get?_push_size _ rfl, rfl⟩, slot_set_iterator_next.lookup, h⟩) (by first | size_fits | (intro _; decide) | decide)
end
end L2

namespace L2
open PySem PySem.Spec PyProof.Rows
section
variable {prog : Program} {w : World} {A : Around} {E : Value → Shared → Prop} {s : Shared}
/-- the i-th thing -/
theorem iter_item {S I : Addr} {o : Obj} {es : Array (Int × Value)} {ep : Nat} {t : SetTable} {pl : List Nat} {i : Nat} {x : Int × Value} {Q : Value → Shared → Prop} (H : SetO w o es ep t pl) (hI : s.heap.get? I = some (itObj w S es ep pl i)) (hS : s.heap.get? S = some o) (hx : (orderOf w S ep es)[i]? = some x) (hi : i ≤ es.size)
    (hQ : ∀ h', h'.get? I = some (itObj w S es ep pl (i + 1)) → Heap.SameBut I s.heap h' → Q x.2 { s with heap := h' }) :
    wpAny (model prog w) A (Builtin.«set_iterator.__next__» ⟨[.ref I], []⟩) (fun fin s' => ∃ v, fin = .done (.ret v) ∧ Q v s') E s := by
  unfold Builtin.«set_iterator.__next__»
  refine wpAny_bind ?_
  unfold slotArgs
  refine wpAny_ite_false rfl (wpAny_ite_false rfl (wpAny_pure ?_))
  dsimp only
  refine wpAny_bind (wpAny_fieldsOf hI rfl ?_)
  refine (show wpAny _ _ (setEntries S >>= _) _ _ _ from wpAny_bind ?_)
  unfold setEntries
  refine wpAny_bind (wpAny_setState_of hS H.dat H.fits (wpAny_pure ?_))
  refine wpAny_ite_false (by simp) ?_
  refine (show wpAny _ _ (setNext S ((slotAt w pl i : Nat) : Int).toNat ((i : Nat) : Int).toNat ((ep : Nat) : Int).toNat >>= _) _ _ _ from wpAny_bind ?_)
  rw [Int.toNat_natCast, Int.toNat_natCast, Int.toNat_natCast]
  refine next_set H hS hi ?_
  rw [hx]
  dsimp only [Option.map]
  refine wpAny_bind (wpAny_setField_rec hI (by simp) fun h1 g1 e1 => ?_)
  refine wpAny_bind (wpAny_setField_rec g1 (by simp) fun h2 g2 e2 => ?_)
  refine wpAny_pure ⟨_, rfl, hQ h2 ?_ (e1.trans e2)⟩
  rw [g2]
  rfl
theorem iter_end {S I : Addr} {o : Obj} {es : Array (Int × Value)} {ep : Nat} {t : SetTable} {pl : List Nat} {i : Nat} {Q : PySem.Fin → Shared → Prop} (hh : A.handled = none) (H : SetO w o es ep t pl) (hI : s.heap.get? I = some (itObj w S es ep pl i)) (hS : s.heap.get? S = some o) (hx : (orderOf w S ep es)[i]? = none) (hi : i ≤ es.size)
    (hE : ∀ h' e, Heap.ExtBut I s.heap h' → (∃ o, h'.get? e = some o ∧ o.cls = .type "StopIteration") → E (.ref e) { s with heap := h' }) :
    wpAny (model prog w) A (Builtin.«set_iterator.__next__» ⟨[.ref I], []⟩) Q E s := by
  unfold Builtin.«set_iterator.__next__»
  refine wpAny_bind ?_
  unfold slotArgs
  refine wpAny_ite_false rfl (wpAny_ite_false rfl (wpAny_pure ?_))
  dsimp only
  refine wpAny_bind (wpAny_fieldsOf hI rfl ?_)
  refine (show wpAny _ _ (setEntries S >>= _) _ _ _ from wpAny_bind ?_)
  unfold setEntries
  refine wpAny_bind (wpAny_setState_of hS H.dat H.fits (wpAny_pure ?_))
  refine wpAny_ite_false (by simp) ?_
  refine (show wpAny _ _ (setNext S ((slotAt w pl i : Nat) : Int).toNat ((i : Nat) : Int).toNat ((ep : Nat) : Int).toNat >>= _) _ _ _ from wpAny_bind ?_)
  rw [Int.toNat_natCast, Int.toNat_natCast, Int.toNat_natCast]
  refine next_set H hS hi ?_
  rw [hx]
  dsimp only [Option.map]
  refine wpAny_bind (wpAny_setField hI rfl (by simp) ?_)
  refine (show wpAny _ _ (newExc (.type "StopIteration") [] >>= _) _ _ _ from wpAny_bind ?_)
  simp only [newExc, newTuple]
  refine wpAny_bind (wpAny_newObj_type (wpAny_bind (m := firstArgMember _ _) (wpAny_of_eq (a := Value.none) (by first | rfl | (simp only [firstArgMember]; rfl)) (wpAny_newObj_type ?_ (by size_fits)))) (by size_fits))
  simp only [raiseNew]
  refine wpAny_bind (wpAny_handled ?_)
  first | rw [show A.in1.handled = none from hh] | rw [hh]
  exact wpAny_bind (wpAny_pure (wpAny_throw (hE _ _ (((Heap.SameBut.update ..).extBut.push _).push _) ⟨_, Heap.get?_push_size _ rfl, rfl⟩)))
theorem slot_set_iterator_iter' : Slot "set_iterator" (Str.ofString "__iter__") "set_iterator.__iter__" := Slot.of (owner := "set_iterator") (n := "__iter__") (by rw [typeLookup_type, builtinLookup_eq_fast]; rfl) (by decide +kernel) (by decide +kernel) (by decide +kernel) (Or.inl (by decide +kernel)) (by rw [isSubtype_type]; rfl) (by decide +kernel)
theorem entry_set_iterator_iter : entryFor table "set_iterator.__iter__" = some Builtin.«dict_keyiterator.__iter__» := entryFor_alias (id' := "dict_keyiterator.__iter__") (by rfl) (by decide +kernel) (by decide +kernel) (by rfl)
theorem args_set_iterator_iter (a : Value) : argsOk "set_iterator.__iter__" ⟨[a], []⟩ := by
  have h : Manifest.signature? "set_iterator.__iter__" = List.lookup (String.ofList (['_', '_', 'r', 'e', 't', 'i', '_', '_'] : List Char).reverse) Manifest.sig_set_iterator := signature?_of (o := ['r', 'o', 't', 'a', 'r', 'e', 't', 'i', '_', 't', 'e', 's']) (by decide +kernel) owner_set_iterator
  unfold argsOk
  rw [h]
  rfl
theorem order_size (w : World) (S : Addr) (ep : Nat) (es : Array (Int × Value)) : (orderOf w S ep es).size = es.size := by
  have := (order_perm w S ep es).length_eq
  simpa using this
theorem walks_set (hh : A.handled = none) {S I : Addr} (hne : S ≠ I) {o : Obj} {es : Array (Int × Value)} {ep : Nat} {t : SetTable} {pl : List Nat} (H : SetO w o es ep t pl) :
    Walks prog w A I [I, S] [I] es.size (fun i v => ∃ x, (orderOf w S ep es)[i]? = some x ∧ v = x.2) (fun i h => h.get? I = some (itObj w S es ep pl i) ∧ h.get? S = some o) where
  sub := fun b hb => by rw [List.mem_singleton.mp hb]; simp
  frame := fun i h h' st hk => ⟨hk I (by simp) _ st.1, hk S (by simp) _ st.2⟩
  item := fun i s Q E hi st hQ => by
    have hx : (orderOf w S ep es)[i]? = some ((orderOf w S ep es)[i]'(by rw [order_size]; exact hi)) := by rw [Array.getElem?_eq_getElem]
    have hT : s.TypeIs (.ref I) "set_iterator" := ⟨_, st.1, rfl⟩
    unfold pyNext
    refine wpAny_bind (wpAny_attempt (wpAny_callSpecial?_slot (name := Str.ofString "__next__") hT slot_set_iterator_next (wpAny_call_entry slot_set_iterator_next hT entry_set_iterator_next ?_ (args_set_iterator_next _))))
    refine iter_item H st.1 st.2 hx (by omega) fun h' g1 e1 => wpAny_pure ?_
    exact hQ _ h' s.toks ⟨_, hx, rfl⟩ ⟨g1, e1.extBut _ _ hne st.2⟩ fun b o hb q => e1.extBut b o (fun z => hb (by simp [z])) q
  done := fun s Q E st hQ => by
    have hx : (orderOf w S ep es)[es.size]? = none := by rw [Array.getElem?_eq_none_iff, order_size]; exact Nat.le_refl _
    have hT : s.TypeIs (.ref I) "set_iterator" := ⟨_, st.1, rfl⟩
    unfold pyNext
    refine wpAny_bind (wpAny_attempt (wpAny_callSpecial?_slot (name := Str.ofString "__next__") hT slot_set_iterator_next (wpAny_call_entry slot_set_iterator_next hT entry_set_iterator_next ?_ (args_set_iterator_next _))))
    refine iter_end hh H st.1 st.2 hx (Nat.le_refl _) fun h' e ext he => ?_
    obtain ⟨o', ho', hc'⟩ := he
    exact wpAny_bind (wpAny_isInstance (T := "StopIteration") (b := true) ⟨o', ho', hc'⟩ isSubtype_stop (wpAny_pure (hQ _ s.toks fun b o hb q => ext b o (fun z => hb (by simp [z])) q)))
  self := fun i s Q E st h => by
    have hT : s.TypeIs (.ref I) "set_iterator" := ⟨_, st.1, rfl⟩
    exact wpAny_pyIter_slot hT slot_set_iterator_iter' (wpAny_call_entry slot_set_iterator_iter' hT entry_set_iterator_iter (wpAny_pure ⟨_, rfl, "set_iterator", _, hT, slot_set_iterator_next.lookup, h⟩) (args_set_iterator_iter _))
theorem src_set {S : Addr} {o : Obj} {es : Array (Int × Value)} {ep : Nat} {t : SetTable} {pl : List Nat} (H : SetO w o es ep t pl) :
    PySem.W.KdlSrc prog w "set" S S es.size (fun i v => ∃ x, (orderOf w S ep es)[i]? = some x ∧ v = x.2) (fun h => h.get? S = some o) where
  type := fun s hs => H.typeIs hs
  there := fun h hs => ⟨Heap.lt_size hs, Heap.lt_size hs⟩
  keep := fun h h' hs hk => hk S (.inl rfl) o hs
  notList := by decide
  notTuple := by decide
  hint := fun A E s Q hs h => hint_set (H.typeIs hs) h
  iter := fun A s hh hs => ⟨itObj w S es ep pl 0, fun i h => h.get? s.heap.objs.size = some (itObj w S es ep pl i) ∧ h.get? S = some o, fun E Q hq => pyIter_set H hs hq,
    walks_set hh (Nat.ne_of_lt (Heap.lt_size hs)) H, Heap.get?_push_size _ rfl, Heap.get?_push_of_some _ hs⟩
end
end L2

namespace L2
open PySem PySem.Spec PyProof.Rows
/-! ### sorted(set(t)), t a tuple of few small ints -/
def valI : Value → Int
  | .int k _ => k
  | _ => 0
theorem intsAre_map : ∀ {vs : List Value} {ns : List Int}, IntsAre vs ns → (∀ v ∈ vs, ∃ k t, v = Value.int k t) ∧ ns = vs.map valI
  | _, _, .nil => ⟨by simp, rfl⟩
  | _, _, .cons n t r => by
    obtain ⟨h1, h2⟩ := intsAre_map r
    refine ⟨fun v hv => ?_, by rw [List.map_cons, ← h2]; rfl⟩
    rcases List.mem_cons.mp hv with z | z
    · exact ⟨n, t, z⟩
    · exact h1 v z
theorem intsAre_mk : ∀ (vs : List Value), (∀ v ∈ vs, ∃ k t, v = Value.int k t) → IntsAre vs (vs.map valI)
  | [], _ => .nil
  | v :: vs, h => by
    obtain ⟨k, t, rfl⟩ := h v (by simp)
    exact .cons k t (intsAre_mk vs fun u hu => h u (by simp [hu]))
theorem intsAre_perm {vs us : List Value} {ns : List Int} (hp : List.Perm vs us) (r : IntsAre us ns) : ∃ ms, IntsAre vs ms ∧ List.Perm ms ns := by
  obtain ⟨h1, h2⟩ := intsAre_map r
  refine ⟨vs.map valI, intsAre_mk vs fun v hv => h1 v (hp.mem_iff.mp hv), ?_⟩
  rw [h2]
  exact hp.map valI
section
variable {prog : Program} {w : World} {A : Around} {E : Value → Shared → Prop} {s : Shared}
theorem sorted_set {S : Addr} {ks : List Int} {Q : Value → Shared → Prop} (hh : A.handled = none) (hS : SetT w s.heap S ks)
    (h : ∀ (h' : Heap) (tk : Nat) (out : Array Value) (ms : List Int) (l : Addr) (c : Nat), (∀ b o, s.heap.get? b = some o → h'.get? b = some o) → S < l → h'.get? l = some (seqObj "list" out c) → IntsAre out.toList ms → ms.Pairwise (· < ·) → (∀ x, x ∈ ms ↔ x ∈ ks) → ms.length ≤ 4 → Q (.ref l) { s with heap := h', toks := tk }) :
    wpAny (model prog w) A (call (.builtin "sorted") [.ref S]) Q E s := by
  obtain ⟨o, es, ep, t, pl, g1, g2, g3, g4, g5, g6, g7, g8, g9, g10, g11, g12, g13, g14⟩ := hS
  have lks : es.size = ks.length := by
    have := intsAre_len g10
    rw [List.length_map, Array.length_toList] at this
    exact this
  have H : SetO w o es ep t pl := ⟨g3, g2.1, g4, g5, g6, g7, g8, by rw [lks]; exact g9, by omega⟩
  refine Calls.call_function_entry kind_sorted plain_sorted entry_sorted (args_sorted1 _) ?_
  unfold Builtin.sorted
  refine wpAny_bind ?_
  unfold checkCount
  refine wpAny_ite_false rfl (wpAny_ite_false rfl (wpAny_ite_false rfl (wpAny_pure ?_)))
  refine wpAny_bind (PySem.W.kdu_collect (src_set H) hh g1 (Nat.le_trans H.few (Nat.le_of_lt (small1000 (by decide)))) fun h1 tk acc hk hacc => ?_)
  have hacc1 : acc.toList = (orderOf w S ep es).toList.map Prod.snd := by
    refine List.ext_getElem? fun i => ?_
    by_cases hi : i < acc.size
    · have e1 : acc.toList[i]? = some acc[i] := by simp [hi]
      obtain ⟨x, hx, hv⟩ := hacc.2 i acc[i] (by simp [hi])
      rw [e1, List.getElem?_map]
      rw [show (orderOf w S ep es).toList[i]? = some x by simpa using hx]
      rw [hv]
      rfl
    · rw [List.getElem?_eq_none (by simp; omega), List.getElem?_eq_none]
      rw [List.length_map, Array.length_toList, order_size]
      have := hacc.1
      omega
  obtain ⟨ns0, i1, i2⟩ := intsAre_perm (vs := acc.toList) (by rw [hacc1]; exact (order_perm w S ep es).map Prod.snd) g10
  have l0 : acc.toList.length = ks.length := by rw [intsAre_len i1]; exact i2.length_eq
  refine wpAny_bind (wpAny_newList ?_ (by rw [l0]; exact Nat.le_of_lt (small1000 (by omega))))
  refine wpAny_bind (wpAny_holding ?_)
  have hat : (h1.push (seqObj "list" acc.toList.toArray 0)).get? h1.objs.size = some (seqObj "list" acc.toList.toArray 0) := Heap.get?_push_size _ rfl
  refine wpAny_call_entry slot_list_sort ⟨_, hat, rfl⟩ entry_list_sort ?_ (args_list_sort _)
  refine list_sort_tree hat i1 (by omega) fun out ms r1 r2 r3 => ⟨_, rfl, wpAny_pure ⟨_, rfl, ?_⟩⟩
  obtain ⟨c, hc⟩ := sortedHeap_at (out := out) hat
  have hnd : ms.Nodup := r2.nodup_iff.mpr (i2.nodup_iff.mpr g12)
  refine h _ tk out ms h1.objs.size c ?_ ?_ hc r1 ?_ ?_ ?_
  · intro b o' e
    have e1 := hk b o' e
    have hb : b < h1.objs.size := Heap.lt_size e1
    rw [sortedHeap_old (Nat.ne_of_lt hb) (by rw [Heap.size_push]; exact Nat.lt_succ_of_lt hb)]
    exact Heap.get?_push_of_some _ e1
  · exact Heap.lt_size (hk S o g1)
  · exact (List.Pairwise.and r3 hnd).imp fun z => by have := z.1; have := z.2; omega
  · intro x
    rw [r2.mem_iff, i2.mem_iff]
  · have := r2.length_eq
    have := i2.length_eq
    omega
end
section
variable {X : Cx}
def tSS (te : TE) : TE := fun σ H Q => te σ H fun x H1 => ∃ (a : Addr) (ns : List Int), x = .ref a ∧ H1 a = some (.tup (ns.map V.int)) ∧ ns.length ≤ 4 ∧ (∀ n ∈ ns, -9 ≤ n ∧ n ≤ 9) ∧ ∀ (l : Addr) (ms : List Int), H1 l = none → ms.Pairwise (· < ·) → (∀ x, x ∈ ms ↔ x ∈ ns) → Q (.ref l) (upd H1 l (.lst (ms.map V.int)))
theorem ap_SS {te : TE} {σ : St} {H : Hp} {Q : VK} : tSS te σ H Q = te σ H fun x H1 => ∃ (a : Addr) (ns : List Int), x = .ref a ∧ H1 a = some (.tup (ns.map V.int)) ∧ ns.length ≤ 4 ∧ (∀ n ∈ ns, -9 ≤ n ∧ n ≤ 9) ∧ ∀ (l : Addr) (ms : List Int), H1 l = none → ms.Pairwise (· < ·) → (∀ x, x ∈ ms ↔ x ∈ ns) → Q (.ref l) (upd H1 l (.lst (ms.map V.int))) := propext ⟨fun h => h, fun h => h⟩
theorem pe_sortedSet {e : Expr} {te : TE} {p1 p2 pos1 pos2 : Pos} (hc : X.calm = true) (hgs : Gl X "sorted") (hms : X.mg "sorted" = none) (hgt : Gl X "set") (hmt : X.mg "set" = none) (hbs : bootBuiltins "sorted" = some (.builtin "sorted")) (hbt : bootBuiltins "set" = some (.type "set")) (he : PE X e te)
    (hs : starEach [e] X.env = (false, eval e X.env) :: starEach [] X.env := by rfl)
    (hs2 : starEach [Expr.Call (.Name "set" p2) [e] [] pos2] X.env = (false, eval (Expr.Call (.Name "set" p2) [e] [] pos2) X.env) :: starEach [] X.env := by rfl) :
    PE X (.Call (.Name "sorted" p1) [.Call (.Name "set" p2) [e] [] pos2] [] pos1) (tSS te) := by
  intro pins s σ H Q I h
  refine wpAny_Call_Name_kw (ld_blt I hgs hms hbs ?_)
  rw [hs2]
  refine Calls.callWith_builtin (by show (false || (backTo pos1 (starEach ([] : List Expr) X.env)).any (·.1)) = false; rfl) (Calls.evalArgs_plain ?_)
  show wpAny _ _ (spliced ((false, eval (Expr.Call (.Name "set" p2) [e] [] pos2) X.env) :: backTo pos1 (starEach [] X.env))) _ _ s
  refine Calls.spliced_cons ?_
  have hA := (pa_cons he pa_nil hs) pos2 pins s σ H (fun vs H1 => ∃ x, vs = [x] ∧ ∃ (a : Addr) (ns : List Int), x = .ref a ∧ H1 a = some (.tup (ns.map V.int)) ∧ ns.length ≤ 4 ∧ (∀ n ∈ ns, -9 ≤ n ∧ n ≤ 9) ∧ ∀ (l : Addr) (ms : List Int), H1 l = none → ms.Pairwise (· < ·) → (∀ x, x ∈ ms ↔ x ∈ ns) → Q (.ref l) (upd H1 l (.lst (ms.map V.int)))) I (by
    refine cast (congrArg (te σ H) ?_) h
    funext y H2
    refine propext ⟨fun q => ⟨y, rfl, q⟩, fun ⟨y', e', q⟩ => ?_⟩
    cases e'
    exact q)
  refine Call_ (ld_blt I hgt hmt hbt (PyProof.Rows.callWith_type1 (thn hA fun us s1 ⟨vs, H1, I1, r1, x, e1, a, ns, e2, hx, hn, hb, q⟩ => ?_) hs rfl))
  subst e1 e2
  obtain ⟨u, rfl, rx⟩ := vals1 r1
  cases rx
  obtain ⟨its, rv, pl, hz⟩ := I1.tuple (SqT.of hx)
  have hI := intsAre_of rv
  have hA0 : X.A.handled = none := I.ok.hd hc
  refine call_setT hA0 pl (by simpa using hI) hn hb fun h' tk ks S1 S2 S3 => ?_
  refine wpAny_pure ?_
  refine sorted_set hA0 S1 fun h2 tk2 out ms l c k1 k2 k3 k4 k5 k6 k7 => ?_
  refine ⟨.ref l, _, I1.laid (t' := tk2) (o := .lst (ms.map V.int)) (fun b o e => k1 b o (S3 b o e)) (Nat.le_of_lt k2) ⟨?_, out.toList, c, vals_ints k4, ?_⟩, rfl, q l ms (I1.hok.fresh (Nat.le_of_lt k2)) k5 fun x => by rw [k6, S2]⟩
  · rw [List.length_map]
    exact Nat.le_of_lt (small1000 (by omega))
  · simpa [seqObj] using k3
end
end L2

namespace L2
open PySem PySem.Spec PyProof.Rows
/-! ### a tuple times an int -/
theorem noFill_tuple_mul : fillsNumberSlot (.type "tuple") "mul" = pure false := PySem.fillsNumberSlot_seq F.slot_tuple_mul.lookup (by first | rfl | decide +kernel) F.slot_tuple_rmul.lookup (by first | rfl | decide +kernel)
theorem repeat_tuple : seqRepeat? (.type "tuple") = pure (some (.builtin "tuple.__mul__")) := by
  unfold seqRepeat?
  have e1 : seqSlot? (.type "tuple") (Str.ofString "__mul__") = pure (some (.builtin "tuple.__mul__")) := PySem.seqSlot_of F.slot_tuple_mul.lookup (by first | rfl | decide +kernel)
  have e2 : seqSlot? (.type "tuple") (Str.ofString "__rmul__") = pure (some (.builtin "tuple.__rmul__")) := PySem.seqSlot_of F.slot_tuple_rmul.lookup (by first | rfl | decide +kernel)
  rw [e1, e2]
  rfl
section
variable {prog : Program} {w : World} {A : Around} {E : Value → Shared → Prop} {s : Shared}
theorem rmul_tuple {a : Int} {t : Tok} {l : Addr} {o : Obj} {items : Array Value} {n : Nat} {hp : Heap} {g : Array GenState} {d : Drawn} {tk : Nat} {os : OsState} {Q : Value → Shared → Prop} (hl : hp.get? l = some o) (hd : o.data = .seq items n) (h : Q .notImplemented ⟨hp, g, d, tk, os⟩) :
    wpAny (model prog w) A (call (.builtin "int.__rmul__") [.int a t, .ref l]) Q E ⟨hp, g, d, tk, os⟩ := by
  refine wpAny_call_entry F.slot_int_rmul (typeIs_int _ a t) F.entry_int_rmul ?_ (F.args_int_rmul_2 _ _)
  unfold Builtin.«int.__rmul__» Builtin.Int.intBinary
  wp_walk
  rw [hd]
  exact wpAny_pure (wpAny_bind (wpAny_rule (wpAny_pure ⟨_, rfl, h⟩)))
section
theorem fold_one (u : Value) : ∀ (m : Nat) (acc : Array Value), List.foldl (fun x1 x2 => x1 ++ x2) acc (List.replicate m #[u]) = acc ++ (List.replicate m u).toArray
  | 0, acc => by simp
  | m + 1, acc => by
    rw [List.replicate_succ, List.foldl_cons, fold_one u m]
    apply Array.toList_inj.mp
    simp [List.replicate_succ]
end
theorem mul_tuple {k : Int} {t : Tok} {l : Addr} {items : Array Value} {Q : Value → Shared → Prop} (hl : s.heap.IsTuple l items) (h1 : 2 ≤ k) (h2 : k ≤ 100) (hne : items.size = 1)
    (h : Q (.ref s.heap.objs.size) { s with heap := s.heap.push { cls := .type "tuple", data := .seq (List.foldl (fun x1 x2 => x1 ++ x2) #[] (List.replicate k.toNat items)) } }) :
    wpAny (model prog w) A (call (.builtin "tuple.__mul__") [.ref l, .int k t]) Q E s := by
  refine wpAny_call_entry F.slot_tuple_mul hl.typeIs F.entry_tuple_mul ?_ (F.args_tuple_mul_2 _ _)
  unfold Builtin.«tuple.__mul__»
  have hb : decide ((decide (k < -2 ^ 63) || decide (k ≥ 2 ^ 63)) = true) = false := by
    rw [decide_eq_false (show ¬ k < -2 ^ 63 by omega), decide_eq_false (show ¬ k ≥ 2 ^ 63 by omega)]
    rfl
  refine wpAny_ite_false hb ?_
  refine wpAny_bind ?_
  obtain ⟨o, ho, hc, n, hd⟩ := hl
  unfold Builtin.Tuple.tupleItemsOf
  refine wpAny_bind (wpAny_seqItems ho hd (wpAny_pure ?_))
  have he : items.isEmpty = false := by
    rw [Array.isEmpty_eq_false_iff]
    intro z
    rw [z] at hne
    simp at hne
  have hz : (1000 : Nat) ≤ sizeLine := Nat.le_of_lt (small1000 (Nat.le_refl 1000))
  refine wpAny_ite_false (by rw [he]; simp; omega) ?_
  refine wpAny_ite_false (by rw [he]; simp; omega) ?_
  refine wpAny_ite_false (by rw [hne]; simp; omega) ?_
  refine wpAny_ite_false (by unfold Builtin.Tuple.tupleTooMany; rw [hne]; simp; omega) ?_
  refine wpAny_bind ?_
  unfold Builtin.Tuple.tupleExact
  refine wpAny_newObj_type (wpAny_pure ⟨_, rfl, h⟩) ?_
  obtain ⟨u, rfl⟩ : ∃ u, items = #[u] := by
    refine ⟨items[0]'(by omega), ?_⟩
    apply Array.ext
    · simpa using hne
    · intro i hi1 hi2
      have : i = 0 := by omega
      subst this
      rfl
  rw [fold_one]
  show (#[] ++ (List.replicate k.toNat u).toArray).size ≤ sizeLine
  simp
  omega
end
section
variable {X : Cx}
def rRepT : R2 := fun x y H Q => ∃ (l : Addr) (k : Int) (z : V), x = .ref l ∧ y = .int k ∧ H l = some (.tup [z]) ∧ 2 ≤ k ∧ k ≤ 100 ∧ ∀ p, H p = none → Q (.ref p) (upd H p (.tup (List.replicate k.toNat z)))
theorem vals_rep {z : V} {u : Value} (r : RelV z u) : ∀ m : Nat, Vals (List.replicate m z) (List.replicate m u)
  | 0 => .nil
  | m + 1 => by rw [List.replicate_succ, List.replicate_succ]; exact .cons r (vals_rep r m)
theorem op_repT : OpR X (binaryOp .Mult) rRepT := by
  intro pins s σ H x y v u Q I rx ry h
  obtain ⟨l, k, z, rfl, rfl, hH, h1, h2, q⟩ := h
  cases rx
  obtain ⟨t, rfl⟩ := ry
  obtain ⟨its, r, pl, hz⟩ := I.tuple (SqT.of hH)
  obtain ⟨u, rfl, ru⟩ := vals1 r
  obtain ⟨o, ho, hc, n, hd⟩ := id pl
  refine wpAny_binaryOp_repeat_ref (T := "tuple") (U := "int") (by decide) ⟨o, ho, hc⟩ (fun s' => typeIs_int s' k t) noFill_tuple_mul F.fills_int_mul F.slot_int_rmul repeat_tuple F.slot_int_index.lookup ?_
  refine rmul_tuple ho hd ⟨rfl, ⟨o, ho, hc⟩, mul_tuple pl h1 h2 rfl ?_⟩
  have e : List.foldl (fun x1 x2 => x1 ++ x2) #[] (List.replicate k.toNat [u].toArray) = (List.replicate k.toNat u).toArray := by
    have := fold_one u k.toNat #[]
    simpa using this
  rw [e]
  refine ⟨.ref _, _, I.laid (t' := s.toks) (o := .tup (List.replicate k.toNat z)) (fun b ob q => Heap.get?_push_of_some _ q) (Nat.le_refl _) ?_, rfl, q _ (I.hok.fresh (Nat.le_refl _))⟩
  refine ⟨?_, _, vals_rep ru k.toNat, IsTup.new _ _⟩
  rw [List.length_replicate]
  exact Nat.le_of_lt (small1000 (by omega))
end
end L2

set_option maxHeartbeats 4000000
namespace My
open PySem L2
def top (i : Nat) : Stmt := PySem.Challenge.pw_wishstrike_k01_what_is_a_stand.main.body.getD i (.Pass ⟨0, 0, 0, 0⟩)
abbrev s_is_whole : Stmt := top 1
abbrev s_is_within : Stmt := top 2
abbrev s_are_within : Stmt := top 3
abbrev s_are_rising : Stmt := top 4
abbrev s_are_worths : Stmt := top 6
abbrev s_is_stand : Stmt := top 7
abbrev s_l_spread : Stmt := top 9
abbrev s_l_open : Stmt := top 10
abbrev s_l_anew : Stmt := top 11
abbrev s_l_take : Stmt := top 12
abbrev s_l_is_whole : Stmt := top 13
abbrev s_l_same : Stmt := top 14
abbrev s_l_worths : Stmt := top 15
abbrev s_l_stand : Stmt := top 16
abbrev s_l_is_stand : Stmt := top 17
abbrev s_l_bent : Stmt := top 18
abbrev s_law : Stmt := top 19
theorem sc_is_whole : FnScope ["thing"] ["thing"] (defScope s_is_whole) := ⟨rfl, rfl, rfl, by decide +kernel, rfl, by decide +kernel, by decide +kernel⟩
theorem sc_is_within : FnScope ["thing", "low", "high"] ["thing", "low", "high"] (defScope s_is_within) := ⟨rfl, rfl, rfl, by decide +kernel, rfl, by decide +kernel, by decide +kernel⟩
theorem sc_are_within : FnScope ["thing", "low", "high"] ["thing", "low", "high"] (defScope s_are_within) := ⟨rfl, rfl, rfl, by decide +kernel, rfl, by decide +kernel, by decide +kernel⟩
theorem sc_are_rising : FnScope ["things"] ["things"] (defScope s_are_rising) := ⟨rfl, rfl, rfl, by decide +kernel, rfl, by decide +kernel, by decide +kernel⟩
theorem sc_are_worths : FnScope ["thing"] ["thing"] (defScope s_are_worths) := ⟨rfl, rfl, rfl, by decide +kernel, rfl, by decide +kernel, by decide +kernel⟩
theorem sc_is_stand : FnScope ["thing"] ["thing"] (defScope s_is_stand) := ⟨rfl, rfl, rfl, by decide +kernel, rfl, by decide +kernel, by decide +kernel⟩
theorem sc_l_spread : FnScope ["cell", "at", "one", "two", "three"] ["cell", "at"] (defScope s_l_spread) := ⟨rfl, rfl, rfl, by decide +kernel, rfl, by decide +kernel, by decide +kernel⟩
theorem sc_l_open : FnScope ["script", "cells", "k", "cell"] ["script"] (defScope s_l_open) := ⟨rfl, rfl, rfl, by decide +kernel, rfl, by decide +kernel, by decide +kernel⟩
theorem sc_l_anew : FnScope ["pen"] ["pen"] (defScope s_l_anew) := ⟨rfl, rfl, rfl, by decide +kernel, rfl, by decide +kernel, by decide +kernel⟩
theorem sc_l_take : FnScope ["pen", "many", "at", "cell", "found"] ["pen", "many"] (defScope s_l_take) := ⟨rfl, rfl, rfl, by decide +kernel, rfl, by decide +kernel, by decide +kernel⟩
theorem sc_l_is_whole : FnScope ["thing"] ["thing"] (defScope s_l_is_whole) := ⟨rfl, rfl, rfl, by decide +kernel, rfl, by decide +kernel, by decide +kernel⟩
theorem sc_l_same : FnScope ["found", "due"] ["found", "due"] (defScope s_l_same) := ⟨rfl, rfl, rfl, by decide +kernel, rfl, by decide +kernel, by decide +kernel⟩
theorem sc_l_worths : FnScope ["pen", "most", "near", "found", "k", "worth"] ["pen", "most", "near"] (defScope s_l_worths) := ⟨rfl, rfl, rfl, by decide +kernel, rfl, by decide +kernel, by decide +kernel⟩
theorem sc_l_stand : FnScope ["pen", "names", "most", "near"] ["pen", "names", "most"] (defScope s_l_stand) := ⟨rfl, rfl, rfl, by decide +kernel, rfl, by decide +kernel, by decide +kernel⟩
theorem sc_l_is_stand : FnScope ["thing", "worths"] ["thing"] (defScope s_l_is_stand) := ⟨rfl, rfl, rfl, by decide +kernel, rfl, by decide +kernel, by decide +kernel⟩
theorem sc_l_bent : FnScope ["pen", "thing", "deep", "at", "number", "odd", "some"] ["pen", "thing", "deep"] (defScope s_l_bent) := ⟨rfl, rfl, rfl, by decide +kernel, rfl, by decide +kernel, by decide +kernel⟩
theorem sc_law : FnScope ["script", "pen", "turn", "stand", "k", "thing", "some"] ["script"] (defScope s_law) := ⟨rfl, rfl, rfl, by decide +kernel, rfl, by decide +kernel, by decide +kernel⟩
structure Adr where
  is_whole : Addr
  is_whole_fd : FuncData
  is_within : Addr
  is_within_fd : FuncData
  are_within : Addr
  are_within_fd : FuncData
  are_rising : Addr
  are_rising_fd : FuncData
  are_worths : Addr
  are_worths_fd : FuncData
  is_stand : Addr
  is_stand_fd : FuncData
  l_spread : Addr
  l_spread_fd : FuncData
  l_open : Addr
  l_open_fd : FuncData
  l_anew : Addr
  l_anew_fd : FuncData
  l_take : Addr
  l_take_fd : FuncData
  l_is_whole : Addr
  l_is_whole_fd : FuncData
  l_same : Addr
  l_same_fd : FuncData
  l_worths : Addr
  l_worths_fd : FuncData
  l_stand : Addr
  l_stand_fd : FuncData
  l_is_stand : Addr
  l_is_stand_fd : FuncData
  l_bent : Addr
  l_bent_fd : FuncData
  law : Addr
  law_fd : FuncData
structure Txt (K : PySem.W.Frag) (mg : Str → Option Value) (a : Adr) : Prop where
  F_is_whole : Fun K "is_whole" "is_whole" s_is_whole a.is_whole a.is_whole_fd
  m_is_whole : mg "is_whole" = some (.ref a.is_whole)
  F_is_within : Fun K "is_within" "is_within" s_is_within a.is_within a.is_within_fd
  m_is_within : mg "is_within" = some (.ref a.is_within)
  F_are_within : Fun K "are_within" "are_within" s_are_within a.are_within a.are_within_fd
  m_are_within : mg "are_within" = some (.ref a.are_within)
  F_are_rising : Fun K "are_rising" "are_rising" s_are_rising a.are_rising a.are_rising_fd
  m_are_rising : mg "are_rising" = some (.ref a.are_rising)
  F_are_worths : Fun K "are_worths" "are_worths" s_are_worths a.are_worths a.are_worths_fd
  m_are_worths : mg "are_worths" = some (.ref a.are_worths)
  F_is_stand : Fun K "is_stand" "is_stand" s_is_stand a.is_stand a.is_stand_fd
  m_is_stand : mg "is_stand" = some (.ref a.is_stand)
  F_l_spread : Fun K "_law_spread" "_law_spread" s_l_spread a.l_spread a.l_spread_fd
  m_l_spread : mg "_law_spread" = some (.ref a.l_spread)
  F_l_open : Fun K "_law_open" "_law_open" s_l_open a.l_open a.l_open_fd
  m_l_open : mg "_law_open" = some (.ref a.l_open)
  F_l_anew : Fun K "_law_anew" "_law_anew" s_l_anew a.l_anew a.l_anew_fd
  m_l_anew : mg "_law_anew" = some (.ref a.l_anew)
  F_l_take : Fun K "_law_take" "_law_take" s_l_take a.l_take a.l_take_fd
  m_l_take : mg "_law_take" = some (.ref a.l_take)
  F_l_is_whole : Fun K "_law_is_whole" "_law_is_whole" s_l_is_whole a.l_is_whole a.l_is_whole_fd
  m_l_is_whole : mg "_law_is_whole" = some (.ref a.l_is_whole)
  F_l_same : Fun K "_law_same" "_law_same" s_l_same a.l_same a.l_same_fd
  m_l_same : mg "_law_same" = some (.ref a.l_same)
  F_l_worths : Fun K "_law_worths" "_law_worths" s_l_worths a.l_worths a.l_worths_fd
  m_l_worths : mg "_law_worths" = some (.ref a.l_worths)
  F_l_stand : Fun K "_law_stand" "_law_stand" s_l_stand a.l_stand a.l_stand_fd
  m_l_stand : mg "_law_stand" = some (.ref a.l_stand)
  F_l_is_stand : Fun K "_law_is_stand" "_law_is_stand" s_l_is_stand a.l_is_stand a.l_is_stand_fd
  m_l_is_stand : mg "_law_is_stand" = some (.ref a.l_is_stand)
  F_l_bent : Fun K "_law_bent" "_law_bent" s_l_bent a.l_bent a.l_bent_fd
  m_l_bent : mg "_law_bent" = some (.ref a.l_bent)
  F_law : Fun K "law" "law" s_law a.law a.law_fd
  m_law : mg "law" = some (.ref a.law)
  z_all : mg "all" = none
  z_bool : mg "bool" = none
  z_enumerate : mg "enumerate" = none
  z_int : mg "int" = none
  z_isinstance : mg "isinstance" = none
  z_len : mg "len" = none
  z_list : mg "list" = none
  z_range : mg "range" = none
  z_set : mg "set" = none
  z_sorted : mg "sorted" = none
  z_str : mg "str" = none
  z_tuple : mg "tuple" = none
  z_zip : mg "zip" = none
theorem bt_all : bootBuiltins "all" = some (.builtin "all") := by decide +kernel
theorem bt_bool : bootBuiltins "bool" = some (.type "bool") := by decide +kernel
theorem bt_enumerate : bootBuiltins "enumerate" = some (.type "enumerate") := by decide +kernel
theorem bt_int : bootBuiltins "int" = some (.type "int") := by decide +kernel
theorem bt_isinstance : bootBuiltins "isinstance" = some (.builtin "isinstance") := by decide +kernel
theorem bt_len : bootBuiltins "len" = some (.builtin "len") := by decide +kernel
theorem bt_list : bootBuiltins "list" = some (.type "list") := by decide +kernel
theorem bt_range : bootBuiltins "range" = some (.type "range") := by decide +kernel
theorem bt_set : bootBuiltins "set" = some (.type "set") := by decide +kernel
theorem bt_sorted : bootBuiltins "sorted" = some (.builtin "sorted") := by decide +kernel
theorem bt_str : bootBuiltins "str" = some (.type "str") := by decide +kernel
theorem bt_tuple : bootBuiltins "tuple" = some (.type "tuple") := by decide +kernel
theorem bt_zip : bootBuiltins "zip" = some (.type "zip") := by decide +kernel
section
variable {P : Program} {w : World} {K : PySem.W.Frag} {mg : Str → Option Value} {base : Heap} {a : Adr}
theorem b_is_whole (T : Txt K mg a) : Binds K a.is_whole_fd ["thing"] [] := T.F_is_whole.binds fun _ _ _ _ _ _ us hl => match us, hl with | [_], _ => rfl
theorem b_is_within (T : Txt K mg a) : Binds K a.is_within_fd ["thing", "low", "high"] [] := T.F_is_within.binds fun _ _ _ _ _ _ us hl => match us, hl with | [_, _, _], _ => rfl
theorem b_are_within (T : Txt K mg a) : Binds K a.are_within_fd ["thing", "low", "high"] [] := T.F_are_within.binds fun _ _ _ _ _ _ us hl => match us, hl with | [_, _, _], _ => rfl
theorem b_are_rising (T : Txt K mg a) : Binds K a.are_rising_fd ["things"] [] := T.F_are_rising.binds fun _ _ _ _ _ _ us hl => match us, hl with | [_], _ => rfl
theorem b_are_worths (T : Txt K mg a) : Binds K a.are_worths_fd ["thing"] [] := T.F_are_worths.binds fun _ _ _ _ _ _ us hl => match us, hl with | [_], _ => rfl
theorem b_is_stand (T : Txt K mg a) : Binds K a.is_stand_fd ["thing"] [] := T.F_is_stand.binds fun _ _ _ _ _ _ us hl => match us, hl with | [_], _ => rfl
theorem b_l_spread (T : Txt K mg a) : Binds K a.l_spread_fd ["cell", "at"] [] := T.F_l_spread.binds fun _ _ _ _ _ _ us hl => match us, hl with | [_, _], _ => rfl
theorem b_l_open (T : Txt K mg a) : Binds K a.l_open_fd ["script"] [] := T.F_l_open.binds fun _ _ _ _ _ _ us hl => match us, hl with | [_], _ => rfl
theorem b_l_anew (T : Txt K mg a) : Binds K a.l_anew_fd ["pen"] [] := T.F_l_anew.binds fun _ _ _ _ _ _ us hl => match us, hl with | [_], _ => rfl
theorem b_l_take (T : Txt K mg a) : Binds K a.l_take_fd ["pen", "many"] [] := T.F_l_take.binds fun _ _ _ _ _ _ us hl => match us, hl with | [_, _], _ => rfl
theorem b_l_is_whole (T : Txt K mg a) : Binds K a.l_is_whole_fd ["thing"] [] := T.F_l_is_whole.binds fun _ _ _ _ _ _ us hl => match us, hl with | [_], _ => rfl
theorem b_l_same (T : Txt K mg a) : Binds K a.l_same_fd ["found", "due"] [] := T.F_l_same.binds fun _ _ _ _ _ _ us hl => match us, hl with | [_, _], _ => rfl
theorem b_l_worths (T : Txt K mg a) : Binds K a.l_worths_fd ["pen", "most", "near"] [] := T.F_l_worths.binds fun _ _ _ _ _ _ us hl => match us, hl with | [_, _, _], _ => rfl
theorem b_l_stand (T : Txt K mg a) : Binds K a.l_stand_fd ["pen", "names", "most"] [] := T.F_l_stand.binds fun _ _ _ _ _ _ us hl => match us, hl with | [_, _, _], _ => rfl
theorem b_l_is_stand (T : Txt K mg a) : Binds K a.l_is_stand_fd ["thing"] [] := T.F_l_is_stand.binds fun _ _ _ _ _ _ us hl => match us, hl with | [_], _ => rfl
theorem b_l_bent (T : Txt K mg a) : Binds K a.l_bent_fd ["pen", "thing", "deep"] [] := T.F_l_bent.binds fun _ _ _ _ _ _ us hl => match us, hl with | [_, _, _], _ => rfl
theorem b_law (T : Txt K mg a) : Binds K a.law_fd ["script"] [] := T.F_law.binds fun _ _ _ _ _ _ us hl => match us, hl with | [_], _ => rfl
theorem nd_0 : (["name", "pen", "names", "most", "near"] : List Str).Nodup := by decide +kernel
theorem nd_1 : (["part", "thing", "low", "high"] : List Str).Nodup := by decide +kernel
theorem nd_2 : (["at", "things"] : List Str).Nodup := by decide +kernel
theorem nd_3 : (["part", "thing"] : List Str).Nodup := by decide +kernel
theorem nd_4 : (["worth", "thing", "worths"] : List Str).Nodup := by decide +kernel
local macro_rules | `(tactic| walk_at "ex") => `(tactic| try simp only [ap_next, ap_asg, ap_drop, ap_ret, ap_ifS, ap_var, ap_c, ap_op, ap_un, ap_test, ap_B, ap_and, ap_or, ap_not, ap_andV, ap_orV, ap_notV, ap_chain, ap_nil, ap_cons, ap_tup, ap_lst, ap_call, ap_CB, ap_isT, ap_name, ap_gcons', ap_gnil', ap_gsub, ap_nopart, ap_part, ap_sl,
  ap_I0, ap_I, ap_U, ap_eqI, ap_neI, ap_eqBl, ap_isBl, ap_isN, ap_isntBl, ap_setL, ap_rng1, ap_rng2, ap_zip, ap_enum, ap_for, ap_lc, ap_slc, ap_yes, ap_ixH, ap_lenH, ap_tupleH, ap_inH, ap_addI, ap_max, ap_min, ap_app, ap_revH, ap_lm, ap_LR, ap_eqStr, ap_zipL, ap_seqI, ap_SS, ↓reduceIte, Bool.false_eq_true, decide_false, decide_true, Bool.not_true, Bool.not_false, Bool.not_eq_true', decide_eq_false_iff_not, beq_self_eq_true,
  List.getElem?_cons_zero, List.getElem?_cons_succ, List.set_cons_zero, List.set_cons_succ, Option.some.injEq, V.int.injEq, V.bl.injEq, V.ref.injEq, HO.lst.injEq, HO.tup.injEq, exists_eq_left', exists_eq_left, exists_and_left, reduceCtorEq, false_and, and_false, exists_false, or_false, false_or, true_and, and_true, List.cons.injEq, List.append_nil, decide_eq_true_eq, exists_eq', exists_const])
local macro_rules | `(tactic| walk_at "go") => `(tactic| simp only [start_cc, start_cn, start_nn, ap_seq])
local macro_rules | `(tactic| walk_at "st") => `(tactic| (simp only [ap_seq]; walk_at "ex"))
local macro_rules | `(tactic| walk_at "sd") => `(tactic| repeat ((with_reducible refine And.intro ?l ?_); (case l => first | decide | omega | exact Or.inr ⟨by decide, by decide⟩ | exact Or.inl ⟨by omega, by omega⟩ | exact ⟨by decide, by decide, by decide⟩ | exact ⟨by omega, by omega⟩)))
/-! ### the pen -/
def Keep (p : Addr) (H H' : Hp) : Prop := ∀ b o, b ≠ p → H b = some o → H' b = some o
theorem Keep.refl (p : Addr) (H : Hp) : Keep p H H := fun _ _ _ h => h
theorem Keep.trans {p : Addr} {H H1 H2 : Hp} (a : Keep p H H1) (b : Keep p H1 H2) : Keep p H H2 := fun c o n h => b c o n (a c o n h)
theorem Keep.of {p : Addr} {H H' : Hp} (a : Same H H') : Keep p H H' := fun b o _ h => a b o h
theorem same_new {H : Hp} {p : Addr} (h : H p = none) (o : HO) : Same H (upd H p o) := fun b u q => by rw [upd_ne (ne_of_none q h)]; exact q
theorem keep_upd {p : Addr} {H : Hp} (o : HO) : Keep p H (upd H p o) := fun b u n q => by rw [upd_ne n]; exact q
def Pen (H : Hp) (p c : Addr) : Prop := ∃ (ns : List Int) (at' left : Int), H p = some (.lst [.ref c, .int at', .int left]) ∧ H c = some (.lst (ns.map V.int)) ∧ 0 ≤ at' ∧ 0 ≤ left ∧ ns.length ≤ 63
def sp_spread : Sp := fun vs H Q _ => ∃ (cell at' : Int), vs = [.int cell, .int at'] ∧ 0 ≤ at' ∧ ∀ r : Int, 0 ≤ r → Q (.int r) H
theorem pow18 : (0 : Int) ≤ (10 : Int) ^ (18 : Int).toNat := by decide
theorem small {n : Nat} (h : n ≤ 1000) : n ≤ sizeLine := Nat.le_of_lt (small1000 h)
theorem ok_l_spread (T : Txt K mg a) : FnOk P w K mg base CX0 1 a.l_spread a.l_spread_fd ["cell", "at"] sp_spread := by
  refine T.F_l_spread.ok sc_l_spread (fun vs H Q E h => ?_) (fun cdv A outer s H vs Q E hr h => ?_)
  · obtain ⟨cell, at', rfl, _⟩ := h
    rfl
  obtain ⟨cell, at', rfl, h0, q⟩ := h
  refine ⟨_, (pss_cons (ps_if (pt_cmpR op_ge (pv 0) (pe_op op_pow pe_int pe_int) (nomark _)) (pss_one (ps_ret (pv 0))) pss_nil)
    (pss_cons (ps_set (i := 2) sc_l_spread.nd rfl (by first | exact Or.inl rfl | exact Or.inr rfl) (pe_op op_mod (pe_op op_addH (pe_op op_addH (pe_op op_mul (pe_op op_mod (pv 0) pe_int) pe_int) (pe_op op_mul (pv 1) pe_int)) pe_int) pe_int))
    (pss_cons (ps_set (i := 3) sc_l_spread.nd rfl (by first | exact Or.inl rfl | exact Or.inr rfl) (pe_op op_mod (pe_op op_addH (pe_op op_addH (pe_op op_mul (pv 2) (pv 2)) (pe_op op_mul (pv 1) pe_int)) (pe_op op_mod (pv 0) pe_int)) pe_int))
    (pss_cons (ps_set (i := 4) sc_l_spread.nd rfl (by first | exact Or.inl rfl | exact Or.inr rfl) (pe_op op_mod (pe_op op_addH (pe_op op_addH (pe_op op_mul (pv 3) (pv 3)) (pe_op op_mul (pv 2) pe_int)) pe_int) pe_int))
    (pss_one (ps_ret (pe_op op_addH (pe_op op_mul (pe_op op_addH (pe_op op_mul (pv 2) pe_int) (pv 3)) pe_int) (pv 4)))))))), ?_⟩
  walk_at "go"; walk_at "ex"
  refine ⟨⟨by decide, by decide, by decide⟩, ?_⟩
  split
  · rename_i c
    exact q _ (Int.le_trans pow18 c)
  walk_at "st"; walk_at "sd"
  generalize hone : (_ % 2147483629 : Int) = one
  have o1 : 0 ≤ one := by rw [← hone]; exact Int.emod_nonneg _ (by decide)
  have o2 : one < 2147483629 := by rw [← hone]; exact Int.emod_lt_of_pos _ (by decide)
  walk_at "st"; walk_at "sd"
  generalize htwo : (_ % 2147483587 : Int) = two
  have o3 : 0 ≤ two := by rw [← htwo]; exact Int.emod_nonneg _ (by decide)
  have o4 : two < 2147483587 := by rw [← htwo]; exact Int.emod_lt_of_pos _ (by decide)
  walk_at "st"; walk_at "sd"
  generalize hthree : (_ % 2147483563 : Int) = three
  have o5 : 0 ≤ three := by rw [← hthree]; exact Int.emod_nonneg _ (by decide)
  walk_at "ex"; walk_at "sd"
  exact q _ (by omega)
theorem pow17 : (0 : Int) < (10 : Int) ^ (17 : Int).toNat := by decide
theorem pen0 {x y z v : V} : (atI [x, y, z] 0 = some v) = (x = v) := propext ⟨fun h => Option.some.inj h, fun h => congrArg some h⟩
theorem pen1 {x y z v : V} : (atI [x, y, z] 1 = some v) = (y = v) := propext ⟨fun h => Option.some.inj h, fun h => congrArg some h⟩
theorem pen2 {x y z v : V} : (atI [x, y, z] 2 = some v) = (z = v) := propext ⟨fun h => Option.some.inj h, fun h => congrArg some h⟩
theorem pix1 {x y z : V} {j : Nat} : (ixN [x, y, z].length 1 = some j) = (1 = j) := propext ⟨fun h => Option.some.inj h, fun h => congrArg some h⟩
theorem pix2 {x y z : V} {j : Nat} : (ixN [x, y, z].length 2 = some j) = (2 = j) := propext ⟨fun h => Option.some.inj h, fun h => congrArg some h⟩
theorem pen_ne {H : Hp} {p c : Addr} {ns : List Int} {at' left : Int} (h1 : H p = some (.lst [.ref c, .int at', .int left])) (h2 : H c = some (.lst (ns.map V.int))) : c ≠ p := ne_of h2 h1 (fun e => by
    have e' := HO.lst.inj e
    cases ns with
    | nil => cases e'
    | cons n ns => cases e')
theorem at_ints {ns : List Int} {k : Int} (h0 : 0 ≤ k) (h : k < (ns.length : Int)) : ∃ n : Int, atI (ns.map V.int) k = some (.int n) := by
  have hk : k.toNat < ns.length := by omega
  have ek : k = ((k.toNat : Nat) : Int) := by omega
  have q : atI (ns.map V.int) ((k.toNat : Nat) : Int) = some (.int ns[k.toNat]) := atI_nat (by rw [List.getElem?_map]; simp [hk])
  rw [← ek] at q
  exact ⟨_, q⟩
theorem seq_cut {t u : TS} {D : Ends} {σ : St} {H : Hp} (mid : St → Hp → Prop) (h2 : ∀ σ H, mid σ H → u D σ H) (h1 : ∀ nx : St → Hp → Prop, (∀ σ H, mid σ H → nx σ H) → t { D with nx := nx } σ H) : tSeq t u D σ H := h1 (u D) h2
/-- a number drawn, below many -/
def sp_take : Sp := fun vs H Q _ => ∃ (p c : Addr) (m : Int), vs = [.ref p, .int m] ∧ Pen H p c ∧ 0 < m ∧ m < 1073741824 ∧ ∀ (r : Int) (H' : Hp), 0 ≤ r → r < m → Keep p H H' → Pen H' p c → Q (.int r) H'
theorem pen_upd {H : Hp} {p c : Addr} {ns : List Int} {at' left at2 left2 : Int} (h1 : H p = some (.lst [.ref c, .int at', .int left])) (h2 : H c = some (.lst (ns.map V.int))) (h3 : 0 ≤ at2) (h4 : 0 ≤ left2) (h5 : ns.length ≤ 63) : Pen (upd H p (.lst [.ref c, .int at2, .int left2])) p c := by
  have hc : c ≠ p := pen_ne h1 h2
  exact ⟨ns, at2, left2, upd_same, by rw [upd_ne hc]; exact h2, h3, h4, h5⟩
theorem ok_l_take (T : Txt K mg a) (G_l_spread : FnOk P w K mg base CX0 1 a.l_spread a.l_spread_fd ["cell", "at"] sp_spread) : FnOk P w K mg base CX0 2 a.l_take a.l_take_fd ["pen", "many"] sp_take := by
  refine T.F_l_take.ok sc_l_take (fun vs H Q E h => ?_) (fun cdv A outer s H vs Q E hr h => ?_)
  · obtain ⟨p, c, m, rfl, _⟩ := h
    rfl
  obtain ⟨p, c, m, rfl, ⟨ns, at', left, hp, hc, h0, h1, h2⟩, hm0, hm1, q⟩ := h
  refine ⟨_, (pss_cons (ps_if (pt_cmpR op_lt (pe_ix ix_H (pv 0) pe_int (fun _ _ => rfl)) (pv 1) (nomark _)) (pss_cons (ps_set (i := 2) sc_l_take.nd rfl (by first | exact Or.inl rfl | exact Or.inr rfl) (pe_ix ix_H (pv 0) pe_int (fun _ _ => rfl)))
    (pss_cons (ps_set (i := 3) sc_l_take.nd rfl (by first | exact Or.inl rfl | exact Or.inr rfl) pe_int)
    (pss_cons (ps_if (pt_cmpR op_lt (pv 2) (pe_callB call_lenH rfl T.z_len bt_len (pa_c (pe_ix ix_H (pv 0) pe_int (fun _ _ => rfl)) pa_nil)) (nomark _)) (pss_one (ps_set (i := 3) sc_l_take.nd rfl (by first | exact Or.inl rfl | exact Or.inr rfl) (pe_ix ix_H (pe_ix ix_H (pv 0) pe_int (fun _ _ => rfl)) (pv 2) (fun _ _ => rfl)))) (pss_one (ps_if (pt_cmpR op_gt (pe_callB call_lenH rfl T.z_len bt_len (pa_c (pe_ix ix_H (pv 0) pe_int (fun _ _ => rfl)) pa_nil)) pe_int (nomark _)) (pss_one (ps_set (i := 3) sc_l_take.nd rfl (by first | exact Or.inl rfl | exact Or.inr rfl) (pe_op op_mod (pe_ix ix_H (pe_ix ix_H (pv 0) pe_int (fun _ _ => rfl)) (pe_op op_mod (pe_op op_addH (pe_op op_mul (pv 2) pe_int) pe_int) (pe_callB call_lenH rfl T.z_len bt_len (pa_c (pe_ix ix_H (pv 0) pe_int (fun _ _ => rfl)) pa_nil))) (fun _ _ => rfl)) (pe_op op_addH (pe_op op_pow pe_int pe_int) (pv 2))))) pss_nil)))
    (pss_cons (ps_asg (pe_op op_addH (pv 2) pe_int) (pg_sub (pv 0) pe_int set_list))
    (pss_one (ps_asg (pe_call G_l_spread (hr.mono (by omega)) rfl T.m_l_spread T.F_l_spread.kp (b_l_spread T) .nil pass0 (pa_c (pv 3) (pa_c (pv 2) pa_nil))) (pg_sub (pv 0) pe_int set_list))))))) pss_nil)
    (pss_cons (ps_set (i := 4) sc_l_take.nd rfl (by first | exact Or.inl rfl | exact Or.inr rfl) (pe_op op_mod (pe_ix ix_H (pv 0) pe_int (fun _ _ => rfl)) (pv 1)))
    (pss_cons (ps_asg (pe_op op_fdiv (pe_ix ix_H (pv 0) pe_int (fun _ _ => rfl)) (pv 1)) (pg_sub (pv 0) pe_int set_list))
    (pss_one (ps_ret (pv 4)))))), ?_⟩
  simp only [start_cc, start_cn, start_nn]
  have hcp : c ≠ p := pen_ne hp hc
  refine seq_cut (fun σ H' => ∃ o2 o3 at2 left2, σ = [some (.ref p), some (.int m), o2, o3, none] ∧ H' p = some (.lst [.ref c, .int at2, .int left2]) ∧ H' c = some (.lst (ns.map V.int)) ∧ 0 ≤ at2 ∧ 0 ≤ left2 ∧ Keep p H H') ?_ ?_
  · rintro σ H' ⟨o2, o3, at2, left2, rfl, hp', hc', h0', h1', k⟩
    walk_at "st"
    try simp only [seqH_l hp', Option.some.injEq, exists_eq_left', pen2]
    walk_at "ex"; walk_at "sd"
    walk_at "st"
    try simp only [seqH_l hp', Option.some.injEq, exists_eq_left', pen2]
    walk_at "ex"
    refine ⟨⟨hm0, hm1⟩, ?_⟩
    try simp only [hp', pix2, Option.some.injEq, HO.lst.injEq, exists_eq_left']
    walk_at "ex"
    refine q _ _ (Int.emod_nonneg _ (by omega)) (Int.emod_lt_of_pos _ hm0) (k.trans (keep_upd _)) (pen_upd hp' hc' h0' ?_ h2)
    exact Int.ediv_nonneg h1' (by omega)
  · intro nx hnx
    walk_at "ex"
    try simp only [seqH_l hp, Option.some.injEq, exists_eq_left', pen2]
    walk_at "ex"
    split
    · walk_at "st"
      try simp only [seqH_l hp, Option.some.injEq, exists_eq_left', pen1]
      walk_at "st"
      refine seq_cut (fun σ H' => ∃ cell : Int, σ = [some (.ref p), some (.int m), some (.int at'), some (.int cell), none] ∧ H' = H) ?_ ?_
      · rintro σ H' ⟨cell, rfl, rfl⟩
        walk_at "st"
        try simp only [hp, pix1, Option.some.injEq, HO.lst.injEq, exists_eq_left']
        walk_at "ex"
        refine ⟨cell, at', rfl, h0, fun r hr0 => ?_⟩
        try simp only [upd_same, pix2, Option.some.injEq, HO.lst.injEq, exists_eq_left', List.set_cons_succ, List.set_cons_zero, upd_upd]
        exact hnx _ _ ⟨_, _, at' + 1, r, rfl, upd_same, by rw [upd_ne hcp]; exact hc, by omega, hr0, keep_upd _⟩
      · intro nx2 hnx2
        walk_at "ex"
        try simp only [seqH_l hp, Option.some.injEq, exists_eq_left', pen0, seqH_l hc, List.length_map]
        walk_at "ex"
        try simp only [seqH_l hc, Option.some.injEq, exists_eq_left', List.length_map]
        walk_at "ex"
        split
        · rename_i hlt
          try simp only [seqH_l hp, Option.some.injEq, exists_eq_left', pen0]
          walk_at "ex"
          try simp only [seqH_l hc, Option.some.injEq, exists_eq_left']
          obtain ⟨n, hn⟩ := at_ints h0 hlt
          exact ⟨_, hn, hnx2 _ _ ⟨n, rfl, rfl⟩⟩
        · walk_at "ex"
          try simp only [seqH_l hp, Option.some.injEq, exists_eq_left', pen0]
          walk_at "ex"
          try simp only [seqH_l hc, Option.some.injEq, exists_eq_left', List.length_map]
          walk_at "ex"
          split
          · rename_i hlt hpos
            try simp only [seqH_l hp, Option.some.injEq, exists_eq_left', pen0]
            walk_at "ex"
            walk_at "sd"
            try simp only [seqH_l hp, Option.some.injEq, exists_eq_left', pen0]
            walk_at "ex"
            try simp only [seqH_l hc, Option.some.injEq, exists_eq_left', List.length_map]
            obtain ⟨n, hn⟩ := at_ints (ns := ns) (k := (at' * 5 + 3) % (ns.length : Int)) (Int.emod_nonneg _ (by omega)) (Int.emod_lt_of_pos _ hpos)
            refine ⟨_, hn, ⟨by decide, by decide, by decide⟩, _, rfl, ?_, hnx2 _ _ ⟨_, rfl, rfl⟩⟩
            have := pow17
            omega
          · exact hnx2 _ _ ⟨0, rfl, rfl⟩
    · exact hnx _ _ ⟨_, _, at', left, rfl, hp, hc, h0, h1, Keep.refl _ _⟩
/-- the pen anew -/
def sp_anew : Sp := fun vs H Q _ => ∃ p c : Addr, vs = [.ref p] ∧ Pen H p c ∧ ∀ H', Keep p H H' → Pen H' p c → Q (.ref p) H'
theorem ok_l_anew (T : Txt K mg a) : FnOk P w K mg base CX0 1 a.l_anew a.l_anew_fd ["pen"] sp_anew := by
  refine T.F_l_anew.ok sc_l_anew (fun vs H Q E h => ?_) (fun cdv A outer s H vs Q E hr h => ?_)
  · obtain ⟨p, c, rfl, _⟩ := h
    rfl
  obtain ⟨p, c, rfl, ⟨ns, at', left, hp, hc, h0, h1, h2⟩, q⟩ := h
  refine ⟨_, (pss_cons (ps_asg pe_int (pg_sub (pv 0) pe_int set_list))
    (pss_one (ps_ret (pv 0)))), ?_⟩
  walk_at "go"; walk_at "ex"
  try simp only [hp, pix2, Option.some.injEq, HO.lst.injEq, exists_eq_left']
  walk_at "ex"
  exact q _ (keep_upd _) (pen_upd hp hc h0 (Int.le_refl 0) h2)
/-! ### the cells -/
def sp_open (K : PySem.W.Frag) : Sp := fun vs H Q _ => ∃ (l : Addr) (ns : List Int), vs = [.ref l] ∧ SqL K H l (ns.map V.int) ∧ ns.length ≤ 63 ∧ ∀ (p c : Addr) (H' : Hp), Same H H' → H p = none → H c = none → Pen H' p c → Q (.ref p) H'
theorem cut_to (ns : List Int) (k : Nat) : cutV (ns.map V.int) none (some (k : Int)) = (ns.take k).map V.int := by
  unfold cutV
  rw [HT.sIx_none, HT.sIx_nat, Nat.sub_zero, List.drop_zero, List.length_map, ← List.map_take]
  congr 1
  rw [Nat.min_comm]
  apply List.ext_getElem?
  intro i
  rw [List.getElem?_take, List.getElem?_take]
  by_cases h : i < k
  · by_cases h2 : i < ns.length
    · rw [if_pos (by omega), if_pos h]
    · rw [if_neg (by omega), if_pos h, List.getElem?_eq_none (by omega)]
  · rw [if_neg (by omega), if_neg h]
theorem cut_mid (ns : List Int) (i j : Nat) (h : i ≤ j) : ∃ ms : List Int, cutV (ns.map V.int) (some (i : Int)) (some (j : Int)) = ms.map V.int ∧ ms.length = min j ns.length - min i ns.length := by
  unfold cutV
  refine ⟨(ns.drop (min i ns.length)).take (min j ns.length - min i ns.length), ?_, ?_⟩
  · rw [HT.sIx_nat, HT.sIx_nat, List.length_map, ← List.map_drop, ← List.map_take]
  · rw [List.length_take, List.length_drop]; omega
theorem cut12 (ns : List Int) : cutV (ns.map V.int) none (some 12) = (ns.take 12).map V.int := cut_to ns 12
theorem cut1263 (ns : List Int) : ∃ ms : List Int, cutV (ns.map V.int) (some 12) (some 63) = ms.map V.int ∧ ms.length = min 63 ns.length - min 12 ns.length := cut_mid ns 12 63 (by decide)
theorem ok_l_open (T : Txt K mg a) : FnOk P w K mg base CX0 1 a.l_open a.l_open_fd ["script"] (sp_open K) := by
  refine T.F_l_open.ok sc_l_open (fun vs H Q E h => ?_) (fun cdv A outer s H vs Q E hr h => ?_)
  · obtain ⟨p, ns, rfl, _⟩ := h
    rfl
  obtain ⟨l, ns, rfl, hS, h63, q⟩ := h
  refine ⟨_, (pss_cons (ps_set (i := 1) sc_l_open.nd rfl (by first | exact Or.inl rfl | exact Or.inr rfl) (pe_callTy call_listG rfl T.z_list bt_list (pa_c (pe_slice sl_seq (pv 0) po_none (po_some pe_int)) pa_nil)))
    (pss_cons (ps_for PassesOwn.never rfl (pi_enum rfl T.z_enumerate (pe_slice sl_seq (pv 0) (po_some pe_int) (po_some pe_int))) (pg_tupN K 2 rfl rfl (pgs_cons (pg_name (i := 2) sc_l_open.nd rfl (by first | exact Or.inl rfl | exact Or.inr rfl)) (pgs_cons (pg_name (i := 3) sc_l_open.nd rfl (by first | exact Or.inl rfl | exact Or.inr rfl)) pgs_nil))) (pss_one (ps_asg (pe_op op_addH (pe_ix ix_H (pv 1) (pe_op op_mod (pv 2) pe_int) (fun _ _ => rfl)) (pv 3)) (pg_sub (pv 1) (pe_op op_mod (pv 2) pe_int) set_list))))
    (pss_one (ps_ret (pe_lst (pa_c (pv 1) (pa_c pe_int (pa_c pe_int pa_nil)))))))), ?_⟩
  walk_at "go"; walk_at "ex"
  refine .inr ⟨l, _, rfl, hS, fun p1 hp1 => ?_⟩
  walk_at "ex"
  refine ⟨_, .inl (SqL.of upd_same), fun p2 hp2 => ?_⟩
  rw [cut12] at hp2 ⊢
  have n21 : p2 ≠ p1 := fun e => by rw [e, upd_same] at hp2; cases hp2
  have hp2' : H p2 = none := by rw [upd_ne n21] at hp2; exact hp2
  generalize hH2 : upd (upd H p1 _) p2 _ = H2
  have s2 : Same H H2 := by rw [← hH2]; exact (same_new hp1 _).trans (same_new hp2 _)
  have c2 : H2 p2 = some (.lst ((ns.take 12).map V.int)) := by rw [← hH2]; exact upd_same
  walk_at "st"
  refine .inr ⟨l, _, rfl, s2.seq hS, fun p3 hp3 => ?_⟩
  walk_at "ex"
  obtain ⟨ms, hms, hlen⟩ := cut1263 ns
  rw [hms]
  have s3 := same_new hp3 (.lst (ms.map V.int))
  refine ⟨⟨_, SqL.of upd_same⟩, ?_⟩
  refine ForW.enum (xs := ms.map V.int) (fun i σ H' => ∃ (cells : List Int) (o2 o3 : Option V), σ = [some (.ref l), some (.ref p2), o2, o3] ∧ H' p2 = some (.lst (cells.map V.int)) ∧ cells.length = min 12 ns.length ∧ H' p3 = some (.lst (ms.map V.int)) ∧ Same H H') ?_ ?_ ?_ ?_
  · exact ⟨ns.take 12, _, _, rfl, s3 _ _ c2, by rw [List.length_take], upd_same, s2.trans s3⟩
  · rintro i σ H' hi ⟨cells, o2, o3, rfl, h1, h2, h3, h4⟩
    exact SqL.of h3
  · rintro i x σ H' p hx hp ⟨cells, o2, o3, rfl, h1, h2, h3, h4⟩
    rw [List.getElem?_map] at hx
    cases em : ms[i]? with
    | none => rw [em] at hx; cases hx
    | some n =>
      rw [em] at hx
      cases hx
      have hi : i < ms.length := (List.getElem?_eq_some_iff.mp em).1
      have h12 : cells.length = 12 := by omega
      have s4 := same_new hp (.tup [.int i, .int n])
      refine ⟨p, _, rfl, SqT.of upd_same, rfl, ?_⟩
      walk_at "ex"; walk_at "sd"
      have e0 : (0 : Int) ≤ (i : Int) % 12 := Int.emod_nonneg _ (by decide)
      have e1 : (i : Int) % 12 < 12 := Int.emod_lt_of_pos _ (by decide)
      obtain ⟨n0, hn0⟩ := at_ints (ns := cells) (k := (i : Int) % 12) e0 (by rw [h12]; exact e1)
      refine ⟨_, seqH_l (s4 _ _ h1), _, hn0, ?_⟩
      walk_at "ex"; walk_at "sd"
      refine ⟨_, s4 _ _ h1, _, ix_ok e0 (by rw [List.length_map, h12]; exact e1), ?_⟩
      have hpn : p2 ≠ p := ne_of_none h1 hp
      have h3n : p3 ≠ p2 := fun e => by
        have z := hp3
        rw [e, c2] at z
        cases z
      refine ⟨cells.set ((i : Int) % 12).toNat (n0 + n), _, _, ⟨rfl, rfl⟩, ?_, ?_, ?_, ?_⟩
      · rw [upd_same, List.map_set]
      · rw [List.length_set]; exact h2
      · rw [upd_ne h3n]; exact s4 _ _ h3
      · intro b o hb
        have hb2 : b ≠ p2 := fun e => by rw [e, hp2'] at hb; cases hb
        rw [upd_ne hb2]
        exact s4 _ _ (h4 _ _ hb)
  · rintro σ H' ⟨cells, o2, o3, rfl, h1, h2, h3, h4⟩
    walk_at "ex"
    refine ⟨small (by simp), fun p hp => ?_⟩
    refine q p p2 _ (h4.trans (same_new hp _)) (h4.free hp) hp2' ⟨cells, 0, 0, upd_same, ?_, Int.le_refl 0, Int.le_refl 0, by omega⟩
    exact same_new hp _ _ _ h1
/-! ### whole numbers -/
def isWhole : D → Bool
  | .int _ => true
  | _ => false
def sp_whole : Sp := fun vs H Q _ => ∃ v d, vs = [v] ∧ Rep H v d ∧ Q (.bl (isWhole d)) H
theorem whole_r {H : Hp} {v : V} {d : D} {Q : VK} (r : Rep H v d) (q : Q (.bl (isWhole d)) H) : ∃ d', Rep H v d' ∧ if isT "int" d' = true then ∃ d2, Rep H v d2 ∧ Q (V.bl (!isT "bool" d2)) H else Q (V.bl false) H := by
  refine ⟨d, r, ?_⟩
  cases d <;> simp only [isT, isWhole] at q ⊢ <;> first
    | exact q
    | exact ⟨_, r, q⟩
theorem ok_is_whole (T : Txt K mg a) : FnOk P w K mg base CX0 1 a.is_whole a.is_whole_fd ["thing"] sp_whole := by
  refine T.F_is_whole.ok sc_is_whole (fun vs H Q E h => ?_) (fun cdv A outer s H vs Q E hr h => ?_)
  · obtain ⟨v, d, rfl, _⟩ := h
    rfl
  obtain ⟨v, d, rfl, r, q⟩ := h
  refine ⟨_, (pss_one (ps_ret (pe_and (pe_isinst rfl T.z_isinstance rfl T.z_int bt_int rfl (pv 0)) (pe_one (pe_not (pe_isinst rfl T.z_isinstance rfl T.z_bool bt_bool rfl (pv 0))))))), ?_⟩
  walk_at "go"; walk_at "ex"
  exact whole_r r q
theorem ok_l_is_whole (T : Txt K mg a) : FnOk P w K mg base CX0 1 a.l_is_whole a.l_is_whole_fd ["thing"] sp_whole := by
  refine T.F_l_is_whole.ok sc_l_is_whole (fun vs H Q E h => ?_) (fun cdv A outer s H vs Q E hr h => ?_)
  · obtain ⟨v, d, rfl, _⟩ := h
    rfl
  obtain ⟨v, d, rfl, r, q⟩ := h
  refine ⟨_, (pss_one (ps_ret (pe_and (pe_isinst rfl T.z_isinstance rfl T.z_int bt_int rfl (pv 0)) (pe_one (pe_not (pe_isinst rfl T.z_isinstance rfl T.z_bool bt_bool rfl (pv 0))))))), ?_⟩
  walk_at "go"; walk_at "ex"
  exact whole_r r q
/-! ### two truths the same -/
def sp_same : Sp := fun vs H Q _ => ∃ x y : Bool, vs = [.bl x, .bl y] ∧ Q (.bl (x == y)) H
theorem ok_l_same (T : Txt K mg a) : FnOk P w K mg base CX0 1 a.l_same a.l_same_fd ["found", "due"] sp_same := by
  refine T.F_l_same.ok sc_l_same (fun vs H Q E h => ?_) (fun cdv A outer s H vs Q E hr h => ?_)
  · obtain ⟨x, y, rfl, _⟩ := h
    rfl
  obtain ⟨x, y, rfl, q⟩ := h
  have hu := hr.units
  refine ⟨_, (pss_cons (ps_if (pt_cmpR op_isH (pv 1) pe_non (nomark _)) (pss_one (ps_ret (pe_cmpR op_isH (pv 0) pe_non (nomark _)))) pss_nil)
    (pss_cons (ps_if (PW.pt (pw_or (pt_val (pe_isinst rfl T.z_isinstance rfl T.z_bool bt_bool rfl (pv 1))) (pw_or1 (pt_val (pe_isinst rfl T.z_isinstance rfl T.z_bool bt_bool rfl (pv 0)))))) (pss_one (ps_ret (pe_and (pe_isinst rfl T.z_isinstance rfl T.z_bool bt_bool rfl (pv 1)) (pe_and (pe_isinst rfl T.z_isinstance rfl T.z_bool bt_bool rfl (pv 0)) (pe_one (pe_cmpR (op_eqH hu) (pv 0) (pv 1) (nomark _))))))) pss_nil)
    pss_never)), ?_⟩
  walk_at "go"; walk_at "ex"; walk_at "st"
  refine ⟨_, .bl y, ?_⟩
  simp only [isT]
  walk_at "ex"
  refine ⟨_, .bl y, ?_⟩
  simp only [isT]
  walk_at "ex"
  refine ⟨_, .bl x, ?_⟩
  simp only [isT]
  walk_at "ex"
  have e : (x == y) = decide (x = y) := by cases x <;> cases y <;> rfl
  rw [← e]
  exact q
theorem inV_ints (ns : List Int) (i : Int) : inV (.int i) (ns.map V.int) = ns.any (· == i) := by
  unfold inV
  rw [List.any_map]
  rfl
theorem flat_ints (ns : List Int) : (ns.map V.int).all flatV = true := by
  rw [List.all_map]
  exact List.all_eq_true.mpr fun _ _ => rfl
def standD (wss : List (List Int)) : D := .tup (wss.map fun ws => .tup (ws.map D.int))
theorem rep_stand {H : Hp} {v : V} {wss : List (List Int)} (r : Rep H v (standD wss)) : ∃ (s : Addr) (vs : List V), v = .ref s ∧ H s = some (.tup vs) ∧ Reps H vs (wss.map fun ws => .tup (ws.map D.int)) := by
  unfold standD at r
  cases r with
  | tup h r => exact ⟨_, _, rfl, h, r⟩
theorem stand_at {H : Hp} {vs : List V} {wss : List (List Int)} {i : Nat} {x : V} (r : Reps H vs (wss.map fun ws => .tup (ws.map D.int))) (e : vs[i]? = some x) : ∃ (t : Addr) (ws : List Int), wss[i]? = some ws ∧ x = .ref t ∧ H t = some (.tup (ws.map V.int)) := by
  obtain ⟨d, h1, h2⟩ := r.get e
  rw [List.getElem?_map] at h1
  cases em : wss[i]? with
  | none => rw [em] at h1; cases h1
  | some ws =>
    rw [em] at h1
    cases h1
    cases h2 with
    | tup h r => exact ⟨_, ws, rfl, rfl, by rw [h, Reps.of_ints r]⟩
theorem take_snoc {α : Type} {l : List α} {i : Nat} {x : α} (h : l[i]? = some x) : l.take (i + 1) = l.take i ++ [x] := by
  rw [List.take_add_one, h]; rfl
theorem depths_ints : ∀ ns : List Int, D.depths (ns.map D.int) = 0
  | [] => by simp [D.depths]
  | n :: ns => by simp [D.depths, D.depth, depths_ints ns]
/-! ### worths, stands -/
structure GoodW (most : Int) (ws : List Int) : Prop where
  rise : ws.Pairwise (· < ·)
  lim : ∀ w ∈ ws, -9 ≤ w ∧ w ≤ 9
  pos : 1 ≤ ws.length
  le : (ws.length : Int) ≤ most
theorem Keep.hide {p : Addr} {H H' : Hp} {l : List Addr} (k : Keep p H H') (hp : p ∈ l) : Same (L2.hide l H) (L2.hide l H') := hide_same fun b o n h => k b o (fun e => n (e ▸ hp)) h
theorem Pen.st {H : Hp} {p c : Addr} (h : Pen H p c) : ∃ o, H p = some o := let ⟨_, _, _, h, _⟩ := h; ⟨_, h⟩
theorem Pen.stC {H : Hp} {p c : Addr} (h : Pen H p c) : ∃ o, H c = some o := let ⟨_, _, _, _, h, _⟩ := h; ⟨_, h⟩
theorem Pen.tr {H : Hp} {p c : Addr} (h : Pen H p c) : Tr [p] H := fun b hb e => by
  rw [List.mem_singleton.mp hb] at e
  obtain ⟨o, q⟩ := h.st
  rw [q] at e; cases e
theorem Pen.ne {H : Hp} {p c b : Addr} (h : Pen H p c) (hb : H b = none) : b ≠ p := fun e => by
  obtain ⟨o, q⟩ := h.st
  rw [e, q] at hb; cases hb
theorem Pen.neC {H : Hp} {p c b : Addr} (h : Pen H p c) (hb : H b = none) : b ≠ c := fun e => by
  obtain ⟨o, q⟩ := h.stC
  rw [e, q] at hb; cases hb
theorem Pen.keep {H H' : Hp} {p c : Addr} (h : Pen H p c) (s : Same H H') : Pen H' p c := by
  obtain ⟨ns, x, y, h1, h2, r⟩ := h
  exact ⟨ns, x, y, s _ _ h1, s _ _ h2, r⟩
theorem Pen.upd {H : Hp} {p c b : Addr} {o : HO} (h : Pen H p c) (n : b ≠ p) (m : b ≠ c) : Pen (L2.upd H b o) p c := by
  obtain ⟨ns, x, y, h1, h2, r⟩ := h
  exact ⟨ns, x, y, by rw [upd_ne (Ne.symm n)]; exact h1, by rw [upd_ne (Ne.symm m)]; exact h2, r⟩
def sp_worths : Sp := fun vs H Q _ => ∃ (p c : Addr) (most near : Int), vs = [.ref p, .int most, .int near] ∧ Pen H p c ∧ 1 ≤ most ∧ most ≤ 50 ∧ -9 ≤ near ∧ near ≤ 5 ∧
  ∀ (t : Addr) (ws : List Int) (H' : Hp), Keep p H H' → Pen H' p c → H t = none → t ≠ p → H' t = some (.tup (ws.map V.int)) → GoodW most ws → Q (.ref t) H'
theorem pair_lt {ms : List Int} (h1 : ms.Pairwise (· ≤ ·)) (h2 : ms.Nodup) : ms.Pairwise (· < ·) :=
  (List.Pairwise.and h1 h2).imp fun h => by have := h.1; have := h.2; omega
theorem upd_swap_keep {p f : Addr} {H H1 : Hp} {o : HO} (hf : H f = none) (k : Keep p H H1) : Keep p H (L2.upd H1 f o) := fun b u n h => by
  rw [upd_ne (ne_of_none h hf)]
  exact k b u n h
theorem ok_l_worths (T : Txt K mg a) (G_l_take : FnOk P w K mg base CX0 2 a.l_take a.l_take_fd ["pen", "many"] sp_take) : FnOk P w K mg base CX0 3 a.l_worths a.l_worths_fd ["pen", "most", "near"] sp_worths := by
  refine T.F_l_worths.ok sc_l_worths (fun vs H Q E h => ?_) (fun cdv A outer s H vs Q E hr h => ?_)
  · obtain ⟨p, c, most, near, rfl, _⟩ := h
    rfl
  obtain ⟨p, c, most, near, rfl, pen, hm1, hm2, hn1, hn2, q⟩ := h
  have hu := hr.units
  refine ⟨_, (pss_cons (ps_set (i := 3) sc_l_worths.nd rfl (by first | exact Or.inl rfl | exact Or.inr rfl) (pe_lst pa_nil))
    (pss_cons (ps_for PassesOwn.never rfl (pi_range1 rfl T.z_range (pa_c (pe_op op_addH pe_int (pe_call G_l_take (hr.mono (by omega)) rfl T.m_l_take T.F_l_take.kp (b_l_take T) .nil pass0 (pa_c (pv 0) (pa_c (pv 1) pa_nil)))) pa_nil)) (pg_name (i := 4) sc_l_worths.nd rfl (by first | exact Or.inl rfl | exact Or.inr rfl)) (pss_cons (ps_set (i := 5) sc_l_worths.nd rfl (by first | exact Or.inl rfl | exact Or.inr rfl) (pe_op op_addH (pv 2) (pe_call G_l_take (hr.mono (by omega)) rfl T.m_l_take T.F_l_take.kp (b_l_take T) .nil pass0 (pa_c (pv 0) (pa_c pe_int pa_nil)))))
    (pss_cons (ps_if (pt_cmpR (op_eqH hu) (pe_call G_l_take (hr.mono (by omega)) rfl T.m_l_take T.F_l_take.kp (b_l_take T) .nil pass0 (pa_c (pv 0) (pa_c pe_int pa_nil))) pe_int (nomark _)) (pss_one (ps_set (i := 5) sc_l_worths.nd rfl (by first | exact Or.inl rfl | exact Or.inr rfl) (pe_op op_sub (pe_call G_l_take (hr.mono (by omega)) rfl T.m_l_take T.F_l_take.kp (b_l_take T) .nil pass0 (pa_c (pv 0) (pa_c pe_int pa_nil))) pe_int))) pss_nil)
    (pss_one (ps_if (pt_cmpR op_notInH (pv 5) (pv 3) (by with_unfolding_all rfl)) (pss_one (ps_expr (pe_app (pv 3) (pv 5)))) pss_nil)))))
    (pss_one (ps_ret (pe_callTy call_tupleH rfl T.z_tuple bt_tuple (pa_c (pe_callB call_sortedH rfl T.z_sorted bt_sorted (pa_c (pv 3) pa_nil)) pa_nil)))))), ?_⟩
  walk_at "go"; walk_at "ex"
  refine ⟨small (by simp), fun f hf => ?_⟩
  have fp := pen.ne hf
  have fc := pen.neC hf
  walk_at "st"
  refine ⟨p, c, most, rfl, pen.upd fp fc, by omega, by omega, fun r H1 r0 r1 k1 pen1 => ?_⟩
  walk_at "ex"
  refine ⟨by omega, by omega, ?_⟩
  refine ForW.range (fun i σ H' => ∃ (ns : List Int) (o4 o5 : Option V), σ = [some (.ref p), some (.int most), some (.int near), some (.ref f), o4, o5] ∧ H' f = some (.lst (ns.map V.int)) ∧ Pen H' p c ∧ Keep p H H' ∧ ns.Nodup ∧ (∀ w ∈ ns, -9 ≤ w ∧ w ≤ 9) ∧ ns.length ≤ i ∧ (0 < i → 1 ≤ ns.length)) ?_ ?_ ?_
  · exact ⟨[], _, _, rfl, k1 _ _ fp upd_same, pen1, (upd_swap_keep hf (Keep.refl p H)).trans k1, List.nodup_nil, by simp, Nat.le_refl 0, fun h => absurd h (by omega)⟩
  · rintro i σ H' hi ⟨ns, o4, o5, rfl, h1, h2, h3, h4, h5, h6, h7⟩
    walk_at "ex"; walk_at "st"
    refine ⟨p, c, 5, rfl, h2, by decide, by decide, fun r2 H2 r20 r21 k2 pen2 => ?_⟩
    walk_at "ex"
    refine seq_cut (fun σ H3 => ∃ wv : Int, σ = [some (.ref p), some (.int most), some (.int near), some (.ref f), some (.int (0 + i)), some (.int wv)] ∧ -9 ≤ wv ∧ wv ≤ 9 ∧ H3 f = some (.lst (ns.map V.int)) ∧ Pen H3 p c ∧ Keep p H H3) ?_ ?_
    · rintro σ H3 ⟨wv, rfl, w1, w2, g1, g2, g3⟩
      walk_at "ex"
      simp only [seqH_l g1]
      walk_at "ex"
      refine ⟨rfl, flat_ints ns, ?_⟩
      rw [inV_ints]
      cases hin : ns.any (· == wv) with
      | true =>
        walk_at "ex"
        refine ⟨ns, _, _, ⟨rfl, rfl⟩, g1, g2, g3, h4, h5, by omega, fun _ => ?_⟩
        cases ns with
        | nil => cases hin
        | cons n ns => simp
      | false =>
        walk_at "ex"
        refine ⟨_, g1, _, g1, ?_, ns ++ [wv], _, _, ⟨rfl, rfl⟩, ?_, g2.upd fp fc, upd_swap_keep hf g3, ?_, ?_, ?_, ?_⟩
        · rw [List.length_map]
          exact small1000 (by omega)
        · rw [upd_same, List.map_append]
          rfl
        · rw [List.nodup_append]
          refine ⟨h4, by simp, fun x hx y hy => ?_⟩
          rw [List.mem_singleton.mp hy]
          rintro rfl
          have : (ns.any (· == x)) = true := List.any_eq_true.mpr ⟨x, hx, by simp⟩
          rw [this] at hin
          cases hin
        · intro x hx
          rcases List.mem_append.mp hx with z | z
          · exact h5 x z
          · rw [List.mem_singleton.mp z]; exact ⟨w1, w2⟩
        · rw [List.length_append, List.length_singleton]; omega
        · intro _
          rw [List.length_append, List.length_singleton]; omega
    · intro nx hnx
      walk_at "ex"
      refine ⟨p, c, 6, rfl, pen2, by decide, by decide, fun r3 H3 r30 r31 k3 pen3 => ?_⟩
      walk_at "ex"
      have g3 : H3 f = some (.lst (ns.map V.int)) := k3 _ _ fp (k2 _ _ fp h1)
      split
      · refine ⟨p, c, 19, rfl, pen3, by decide, by decide, fun r4 H4 r40 r41 k4 pen4 => ?_⟩
        walk_at "ex"
        exact hnx _ _ ⟨_, rfl, by omega, by omega, k4 _ _ fp g3, pen4, h3.trans (k2.trans (k3.trans k4))⟩
      · exact hnx _ _ ⟨_, rfl, by omega, by omega, g3, pen3, h3.trans (k2.trans k3)⟩
  · rintro σ H' ⟨ns, o4, o5, rfl, h1, h2, h3, h4, h5, h6, h7⟩
    walk_at "ex"
    refine ⟨f, ns, rfl, h1, by omega, fun l ms hl hperm hpair => ?_⟩
    have lf := h2.ne hl
    walk_at "ex"
    refine .inl ⟨_, upd_same, fun t ht => ?_⟩
    have s1 := same_new hl (.lst (ms.map V.int))
    have s2 := same_new ht (.tup (ms.map V.int))
    have hlen := hperm.length_eq
    refine q t ms _ ((h3.trans (Keep.of s1)).trans (Keep.of s2)) ((h2.keep s1).keep s2) ?_ ?_ upd_same ⟨pair_lt hpair (hperm.nodup_iff.mpr h4), fun w hw => h5 w (hperm.mem_iff.mp hw), by omega, by omega⟩
    · have ht1 : H' t = none := s1.free ht
      cases e : H t with
      | none => rfl
      | some o =>
        by_cases htp : t = p
        · obtain ⟨o', q'⟩ := h2.st
          rw [htp, q'] at ht1; cases ht1
        · rw [h3 _ _ htp e] at ht1; cases ht1
    · exact (h2.keep s1).ne ht
structure GoodS (names most : Int) (wss : List (List Int)) : Prop where
  pos : 1 ≤ wss.length
  le : (wss.length : Int) ≤ names
  all : ∀ ws ∈ wss, GoodW most ws
def sp_stand : Sp := fun vs H Q _ => ∃ (p c : Addr) (names most : Int), vs = [.ref p, .int names, .int most] ∧ Pen H p c ∧ 1 ≤ names ∧ names ≤ 50 ∧ 1 ≤ most ∧ most ≤ 50 ∧
  ∀ (v : V) (wss : List (List Int)) (H' : Hp), Keep p H H' → Pen H' p c → Rep (hide [p] H') v (standD wss) → GoodS names most wss → Q v H'
abbrev wssD (wss : List (List Int)) : List D := wss.map fun ws => D.tup (ws.map D.int)
theorem wssD_snoc (wss : List (List Int)) (ws : List Int) : wssD (wss ++ [ws]) = wssD wss ++ [D.tup (ws.map D.int)] := by simp
/-- a list of ours at Dd that grows beside the pen: its items are data -/
structure Grow (H0 : Hp) (p c Dd : Addr) (H : Hp) (vs : List V) (ds : List D) : Prop where
  at_ : H Dd = some (.lst vs)
  rep : Reps (hide [p, Dd] H) vs ds
  pen : Pen H p c
  keep : Keep p H0 H
theorem Grow.start {H0 H : Hp} {p c Dd : Addr} (pen : Pen H p c) (k : Keep p H0 H) (h : H Dd = none) : Grow H0 p c Dd (upd H Dd (.lst [])) [] [] :=
  ⟨upd_same, .nil, pen.keep (same_new h _), k.trans (Keep.of (same_new h _))⟩
/-- the next item, v, for d; H0 did not know Dd -/
theorem Grow.snoc {H0 H H1 : Hp} {p c Dd : Addr} {vs : List V} {ds : List D} {v : V} {d : D} (g : Grow H0 p c Dd H vs ds) (hD : H0 Dd = none) (np : Dd ≠ p) (nc : Dd ≠ c) (k : Keep p H H1) (pen : Pen H1 p c) (r : Rep (hide [p, Dd] H1) v d) :
    H1 Dd = some (.lst vs) ∧ Grow H0 p c Dd (upd H1 Dd (.lst (vs ++ [v]))) (vs ++ [v]) (ds ++ [d]) := by
  have h1 : H1 Dd = some (.lst vs) := k _ _ np g.at_
  have e : Same (hide [p, Dd] H1) (hide [p, Dd] (upd H1 Dd (.lst (vs ++ [v])))) := hide_same fun b o n h => by
    rw [upd_ne (fun z => n (by simp [z]))]; exact h
  exact ⟨h1, upd_same, ((g.rep.mono (k.hide (by simp))).append (.cons r .nil)).mono e, pen.upd np nc, upd_swap_keep hD (g.keep.trans k)⟩
theorem ok_l_stand (T : Txt K mg a) (G_l_take : FnOk P w K mg base CX0 2 a.l_take a.l_take_fd ["pen", "many"] sp_take) (G_l_worths : FnOk P w K mg base CX0 3 a.l_worths a.l_worths_fd ["pen", "most", "near"] sp_worths) : FnOk P w K mg base CX0 4 a.l_stand a.l_stand_fd ["pen", "names", "most"] sp_stand := by
  refine T.F_l_stand.ok sc_l_stand (fun vs H Q E h => ?_) (fun cdv A outer s H vs Q E hr h => ?_)
  · obtain ⟨p, c, names, most, rfl, _⟩ := h
    rfl
  obtain ⟨p, c, names, most, rfl, pen, hn1, hn2, hm1, hm2, q⟩ := h
  refine' ⟨_, (pss_cons (ps_set (i := 3) sc_l_stand.nd rfl (by first | exact Or.inl rfl | exact Or.inr rfl) (pe_op op_sub (pe_call G_l_take (hr.mono (by omega)) rfl T.m_l_take T.F_l_take.kp (b_l_take T) .nil pass0 (pa_c (pv 0) (pa_c pe_int pa_nil))) pe_int))
    (pss_one (ps_ret (pe_callTy call_tupleH rfl T.z_tuple bt_tuple (pa_c (pe_lc (esc := defScope s_l_stand) (EN := (["pen", "names", "most", "near"] : List Str)) (N := (["name", "pen", "names", "most", "near"] : List Str)) (k := 1) rfl ⟨rfl, by decide +kernel, by decide +kernel, by decide +kernel, by decide +kernel, by decide +kernel⟩ rfl rfl (pi_range1 rfl T.z_range (pa_c (pe_op op_addH pe_int (pe_call G_l_take (hr.mono (by omega)) rfl T.m_l_take T.F_l_take.kp (b_l_take T) .nil pass0 (pa_c (pv 0) (pa_c (pv 1) pa_nil)))) pa_nil)) ?g0 ?t0 ?e0) pa_nil))))), ?rd⟩
  (case g0 => intro _ _ _ _; exact (pg_name (i := 0) nd_0 rfl (by first | exact Or.inl rfl | exact Or.inr rfl)))
  (case t0 => intro _ _ _ _; exact pts_nil)
  (case e0 => intro _ _ _ _; exact (pe_call G_l_worths (hr.mono (by omega)) rfl T.m_l_worths T.F_l_worths.kp (b_l_worths T) .nil pass0 (pa_c (pv 1) (pa_c (pv 3) (pa_c (pv 4) pa_nil)))))
  walk_at "go"; walk_at "ex"
  refine ⟨p, c, 15, rfl, pen, by decide, by decide, fun r H1 r0 r1 k1 pen1 => ?_⟩
  walk_at "ex"
  refine ⟨p, c, names, rfl, pen1, by omega, by omega, fun r2 H2 r20 r21 k2 pen2 => ?_⟩
  walk_at "ex"
  refine ⟨by omega, by omega, fun Dd hD => ?_⟩
  have np := pen2.ne hD
  have nc := pen2.neC hD
  have hD0 : H Dd = none := by
    cases e : H Dd with
    | none => rfl
    | some o => rw [(k1.trans k2) _ _ np e] at hD; cases hD
  refine LCW.range1 (fun i H' => ∃ vs wss, Grow H p c Dd H' vs (wssD wss) ∧ wss.length = i ∧ ∀ ws ∈ wss, GoodW most ws) ?_ ?_ ?_
  · exact ⟨[], [], Grow.start pen2 (k1.trans k2) hD, rfl, by simp⟩
  · rintro i H' hi ⟨vs, wss, g, hl, hg⟩
    unfold LCItem
    walk_at "ex"
    refine ⟨p, c, most, _, rfl, g.pen, by omega, by omega, by omega, by omega, fun t ws H3 k3 pen3 ht tp hws good => ?_⟩
    have tD : t ≠ Dd := fun e => by rw [e, g.at_] at ht; cases ht
    have re : Rep (hide [p, Dd] H3) (.ref t) (.tup (ws.map D.int)) := .tup (hide_get (by simp [tp, tD]) hws) (Reps.ints ws)
    obtain ⟨h1, g2⟩ := g.snoc hD0 np nc k3 pen3 re
    have lv := g.rep.length
    rw [List.length_map] at lv
    refine ⟨vs, h1, small1000 (by omega), _, wss ++ [ws], by rw [wssD_snoc]; exact g2, by simp [hl], fun x hx => ?_⟩
    rcases List.mem_append.mp hx with z | z
    · exact hg x z
    · rw [List.mem_singleton.mp z]; exact good
  · rintro H' ⟨vs, wss, g, hl, hg⟩
    walk_at "ex"
    refine .inl ⟨vs, g.at_, fun t ht => ?_⟩
    have s1 := same_new ht (.tup vs)
    have tp := g.pen.ne ht
    refine q (.ref t) wss _ (g.keep.trans (Keep.of s1)) (g.pen.keep s1) ?_ ⟨by omega, by omega, hg⟩
    exact .tup (hide_get (by simp [tp]) upd_same) ((g.rep.mono (hide_sub (by simp))).mono (hide_mono s1))
theorem at_nat {α : Type} {xs : List α} {k : Int} (h0 : 0 ≤ k) (h : k < (xs.length : Int)) : ∃ x, xs[k.toNat]? = some x ∧ atI xs k = some x := by
  have hk : k.toNat < xs.length := by omega
  have ek : k = ((k.toNat : Nat) : Int) := by omega
  have e : xs[k.toNat]? = some xs[k.toNat] := List.getElem?_eq_getElem hk
  have q : atI xs ((k.toNat : Nat) : Int) = some xs[k.toNat] := atI_nat e
  rw [← ek] at q
  exact ⟨_, e, q⟩
/-! ### bent -/
mutual
def wid : D → Nat
  | .tup xs => max xs.length (wids xs)
  | .lst xs => max xs.length (wids xs)
  | _ => 0
def wids : List D → Nat
  | [] => 0
  | x :: xs => max (wid x) (wids xs)
end
theorem wids_get : ∀ {ds : List D} {i : Nat} {d : D}, ds[i]? = some d → wid d ≤ wids ds
  | [], _, _, e => by simp at e
  | x :: xs, 0, d, e => by
    simp at e; subst e
    simp only [wids]; omega
  | x :: xs, i + 1, d, e => by
    have := wids_get (ds := xs) (i := i) (d := d) (by simpa using e)
    simp only [wids]; omega
structure Fits (d : D) : Prop where
  w : wid d ≤ 400
  dp : D.depth d ≤ 40
theorem Fits.sub {ds : List D} {i : Nat} {d : D} (f : Fits (.tup ds)) (e : ds[i]? = some d) : Fits d := by
  have h1 := wids_get e
  have h2 := D.depths_get e
  have h3 := f.w
  have h4 := f.dp
  simp only [wid] at h3
  simp only [D.depth] at h4
  exact ⟨by omega, by omega⟩
theorem Fits.len {ds : List D} (f : Fits (.tup ds)) : ds.length ≤ 400 := by
  have h3 := f.w
  simp only [wid] at h3
  omega
theorem _root_.L2.Tr.pen {hid : List Addr} {H H' : Hp} {p c : Addr} (t : Tr hid H) (k : Keep p H H') (pen : Pen H' p c) : Tr hid H' := fun b hb e => by
  by_cases h : b = p
  · subst h
    exact pen.tr b (by simp) e
  · cases q : H b with
    | none => exact t b hb q
    | some o => rw [k b o h q] at e; cases e
theorem wids_mem : ∀ {ds : List D} {d : D}, d ∈ ds → wid d ≤ wids ds := fun h => by
  obtain ⟨i, e⟩ := List.mem_iff_getElem?.mp h
  exact wids_get e
theorem depths_mem : ∀ {ds : List D} {d : D}, d ∈ ds → D.depth d ≤ D.depths ds := fun h => by
  obtain ⟨i, e⟩ := List.mem_iff_getElem?.mp h
  exact D.depths_get e
theorem wids_le : ∀ {ds : List D} {n : Nat}, (∀ d ∈ ds, wid d ≤ n) → wids ds ≤ n
  | [], _, _ => by simp [wids]
  | d :: ds, n, h => by
    have h1 := h d (by simp)
    have h2 := wids_le (ds := ds) fun e he => h e (by simp [he])
    simp only [wids]; omega
theorem depths_le : ∀ {ds : List D} {n : Nat}, (∀ d ∈ ds, D.depth d ≤ n) → D.depths ds ≤ n
  | [], _, _ => by simp [D.depths]
  | d :: ds, n, h => by
    have h1 := h d (by simp)
    have h2 := depths_le (ds := ds) fun e he => h e (by simp [he])
    simp only [D.depths]; omega
/-- bounds of what is bent -/
def Bd (d d' : D) : Prop := wid d' ≤ 2 * wid d + 2 ∧ D.depth d' ≤ D.depth d + 1
theorem Bd.tup {ds xs : List D} (h1 : xs.length ≤ 2 * ds.length + 2) (h2 : ∀ x ∈ xs, wid x ≤ 2 * wids ds + 2 ∧ D.depth x ≤ D.depths ds + 1) : Bd (.tup ds) (.tup xs) := by
  have a1 := wids_le (ds := xs) fun x hx => (h2 x hx).1
  have a2 := depths_le (ds := xs) fun x hx => (h2 x hx).2
  refine ⟨?_, ?_⟩
  · simp only [wid]; omega
  · simp only [D.depth]; omega
theorem Bd.lst {ds xs : List D} (h1 : xs.length ≤ 2 * ds.length + 2) (h2 : ∀ x ∈ xs, wid x ≤ 2 * wids ds + 2 ∧ D.depth x ≤ D.depths ds + 1) : Bd (.tup ds) (.lst xs) := by
  have a1 := wids_le (ds := xs) fun x hx => (h2 x hx).1
  have a2 := depths_le (ds := xs) fun x hx => (h2 x hx).2
  refine ⟨?_, ?_⟩
  · simp only [wid]; omega
  · simp only [D.depth]; omega
theorem bd_in {ds : List D} {x : D} (h : x ∈ ds) : wid x ≤ 2 * wids ds + 2 ∧ D.depth x ≤ D.depths ds + 1 := by
  have := wids_mem h
  have := depths_mem h
  exact ⟨by omega, by omega⟩
theorem mem_cut {ds : List D} {lo hi : Option Int} {x : D} (h : x ∈ cutD ds lo hi) : x ∈ ds := by
  unfold cutD at h
  exact List.mem_of_mem_drop (List.mem_of_mem_take h)
theorem Bd.odd {d e : D} (h : wid e ≤ 1 ∧ D.depth e ≤ 1) : Bd d e := ⟨by omega, by omega⟩
def oddD : List D := [D.non, .bl true, .bl false, .str "", .str "unlike", .str "many", .str "sum", .str "row", .str "hand", .str "-", .tup [], .lst [], .int (10 ^ Int.toNat 20), .int 100, .int (-100), .tup [.int 0], .lst [.int 0]]
theorem odd_b : ∀ e ∈ oddD, wid e ≤ 1 ∧ D.depth e ≤ 1 := by
  intro e he
  simp only [oddD, List.mem_cons, List.not_mem_nil, or_false] at he
  rcases he with rfl | rfl | rfl | rfl | rfl | rfl | rfl | rfl | rfl | rfl | rfl | rfl | rfl | rfl | rfl | rfl | rfl <;> simp [wid, wids, D.depth, D.depths]
def sp_bent (n : Nat) : Sp := fun vs H Q _ => ∃ (p c : Addr) (hid : List Addr) (v : V) (d : D) (deep : Int), vs = [.ref p, v, .int deep] ∧ Pen H p c ∧ p ∈ hid ∧ Tr hid H ∧ Rep (hide hid H) v d ∧ Fits d ∧ 0 ≤ deep ∧ deep < n ∧ ∀ (v' : V) (d' : D) (H' : Hp), Keep p H H' → Pen H' p c → Rep (hide hid H') v' d' → wid d' ≤ 2 * wid d + 2 → D.depth d' ≤ D.depth d + 1 → Q v' H'
theorem bent_none {f : Addr} {fd : FuncData} : FnOk P w K mg base CX0 3 f fd ["pen", "thing", "deep"] (sp_bent 0) := by
  have no : ∀ vs H Q E, ¬ sp_bent 0 vs H Q E := fun vs H Q E h => by
    obtain ⟨p, c, hid, v, d, deep, _, _, _, _, _, _, h1, h2, _⟩ := h
    omega
  exact ⟨fun vs H Q E h => absurd h (no vs H Q E), fun A outer s H args us vs Q E _ _ _ _ h => absurd h (no vs H Q E)⟩
theorem Reps.of {H : Hp} {vs us : List V} {ds es : List D} (r : Reps H vs ds) (h1 : vs = us) (h2 : ds = es) : Reps H us es := by subst h1 h2; exact r
theorem ok_l_bent {n : Nat} (T : Txt K mg a) (G_l_take : FnOk P w K mg base CX0 2 a.l_take a.l_take_fd ["pen", "many"] sp_take) (G_l_is_whole : FnOk P w K mg base CX0 1 a.l_is_whole a.l_is_whole_fd ["thing"] sp_whole) (G_l_bent : FnOk P w K mg base CX0 (n + 3) a.l_bent a.l_bent_fd ["pen", "thing", "deep"] (sp_bent n)) :
    FnOk P w K mg base CX0 (n + 4) a.l_bent a.l_bent_fd ["pen", "thing", "deep"] (sp_bent (n + 1)) := by
  refine T.F_l_bent.ok (k := n + 3) sc_l_bent (fun vs H Q E h => ?_) (fun cdv A outer s H vs Q E hr h => ?_)
  · obtain ⟨p, c, hid, v, d, deep, rfl, _⟩ := h
    rfl
  obtain ⟨p, c, hid, v, d, deep, rfl, pen, hpm, tr0, r, fit, hd0, hd1, q⟩ := h
  have hu := hr.units
  refine ⟨_, (pss_cons (ps_if (PW.pt (pw_and (pt_val (pe_isinst rfl T.z_isinstance rfl T.z_tuple bt_tuple rfl (pv 1))) (pw_and (pt_cmpR (op_neH hu) (pv 1) (pe_tup pa_nil) (nomark _)) (pw_and (pt_cmpR op_gt (pv 2) pe_int (nomark _)) (pw_and1 (pt_cmpR op_gt (pe_call G_l_take (hr.mono (by omega)) rfl T.m_l_take T.F_l_take.kp (b_l_take T) .nil pass0 (pa_c (pv 0) (pa_c pe_int pa_nil))) pe_int (nomark _))))))) (pss_cons (ps_set (i := 3) sc_l_bent.nd rfl (by first | exact Or.inl rfl | exact Or.inr rfl) (pe_call G_l_take (hr.mono (by omega)) rfl T.m_l_take T.F_l_take.kp (b_l_take T) .nil pass0 (pa_c (pv 0) (pa_c (pe_callB call_lenH rfl T.z_len bt_len (pa_c (pv 1) pa_nil)) pa_nil))))
    (pss_one (ps_ret (pe_op op_addH (pe_op op_addH (pe_slice sl_H (pv 1) po_none (po_some (pv 3))) (pe_tup (pa_c (pe_call G_l_bent (hr.mono (by omega)) rfl T.m_l_bent T.F_l_bent.kp (b_l_bent T) .nil pass0 (pa_c (pv 0) (pa_c (pe_ix ix_H (pv 1) (pv 3) (fun _ _ => rfl)) (pa_c (pe_op op_sub (pv 2) pe_int) pa_nil)))) pa_nil))) (pe_slice sl_H (pv 1) (po_some (pe_op op_addH (pv 3) pe_int)) po_none))))) pss_nil)
    (pss_cons (ps_set (i := 4) sc_l_bent.nd rfl (by first | exact Or.inl rfl | exact Or.inr rfl) (pe_op op_sub (pe_call G_l_take (hr.mono (by omega)) rfl T.m_l_take T.F_l_take.kp (b_l_take T) .nil pass0 (pa_c (pv 0) (pa_c pe_int pa_nil))) pe_int))
    (@pss_cons _ _ _ _ _ (@ps_set _ _ 5 _ _ _ _ sc_l_bent.nd rfl (by first | exact Or.inl rfl | exact Or.inr rfl) (@pe_lstW _ _ _ _ (pl_c pe_non (pl_c pe_bl (pl_c pe_bl (pl_c pe_str (pl_c pe_str (pl_c pe_str (pl_c pe_str (pl_c pe_str (pl_c pe_str (pl_c pe_str (pl_c (pe_tup pa_nil) (pl_c (pe_lst pa_nil) (pl_c (pe_op op_pow pe_int pe_int) (pl_c pe_int (pl_c (pe_un un_neg pe_int) (pl_c (pe_tup (pa_c pe_int pa_nil)) (pl_c (pe_lst (pa_c pe_int pa_nil)) pl_nil)))))))))))))))))) (by rfl) (by first | exact .inl rfl | exact .inr rfl))
    (@pss_cons _ _ _ _ _ (ps_if (pt_val (pe_isinst rfl T.z_isinstance rfl T.z_tuple bt_tuple rfl (pv 1))) (@pss_cons _ _ _ _ _ (@ps_set _ _ 6 _ _ _ _ sc_l_bent.nd rfl (by first | exact Or.inl rfl | exact Or.inr rfl) (@pe_lstW _ _ _ _ (pl_c (pe_callTy call_listH rfl T.z_list bt_list (pa_c (pv 1) pa_nil)) (pl_c (pe_op op_addH (pv 1) (pe_slice sl_H (pv 1) po_none (po_some pe_int))) (pl_c (pe_slice sl_H (pv 1) po_none (po_some (pe_un un_neg pe_int))) (pl_c (pe_revH (pv 1) (pe_un un_neg pe_int)) (pl_c (pe_op op_addH (pv 1) (pe_tup (pa_c (pv 4) pa_nil))) (pl_c (pe_slice sl_H (pv 1) (po_some pe_int) po_none) (pl_c (pe_tup (pa_c (pv 1) pa_nil)) pl_nil)))))))) (by rfl) (by first | exact .inl rfl | exact .inr rfl))
    (pss_one (ps_ret (pe_ix ix_H (pe_op op_addH (pv 6) (pe_lst (pa_c (pe_ix ix_H (pv 5) (pe_call G_l_take (hr.mono (by omega)) rfl T.m_l_take T.F_l_take.kp (b_l_take T) .nil pass0 (pa_c (pv 0) (pa_c pe_int pa_nil))) (fun _ _ => rfl)) pa_nil))) (pe_call G_l_take (hr.mono (by omega)) rfl T.m_l_take T.F_l_take.kp (b_l_take T) .nil pass0 (pa_c (pv 0) (pa_c pe_int pa_nil))) (fun _ _ => rfl))))) pss_nil)
    (@pss_cons _ _ _ _ _ (ps_if (pt_val (pe_call G_l_is_whole (hr.mono (by omega)) rfl T.m_l_is_whole T.F_l_is_whole.kp (b_l_is_whole T) .nil pass0 (pa_c (pv 1) pa_nil))) (@pss_cons _ _ _ _ _ (@ps_set _ _ 6 _ _ _ _ sc_l_bent.nd rfl (by first | exact Or.inl rfl | exact Or.inr rfl) (@pe_lstW _ _ _ _ (pl_c (pe_op op_addH (pv 1) pe_int) (pl_c (pe_op op_sub (pv 1) pe_int) (pl_c (pe_op op_sub pe_int (pv 1)) (pl_c (pv 4) (pl_c (pv 4) (pl_c (pe_cmpR (op_eqH hu) (pv 1) pe_int (nomark _)) (pl_c (pe_op op_sub pe_int (pv 1)) pl_nil)))))))) (by rfl) (by first | exact .inl rfl | exact .inr rfl))
    (pss_one (ps_ret (pe_ix ix_H (pe_op op_addH (pv 6) (pe_lst (pa_c (pe_ix ix_H (pv 5) (pe_call G_l_take (hr.mono (by omega)) rfl T.m_l_take T.F_l_take.kp (b_l_take T) .nil pass0 (pa_c (pv 0) (pa_c pe_int pa_nil))) (fun _ _ => rfl)) pa_nil))) (pe_call G_l_take (hr.mono (by omega)) rfl T.m_l_take T.F_l_take.kp (b_l_take T) .nil pass0 (pa_c (pv 0) (pa_c pe_int pa_nil))) (fun _ _ => rfl))))) pss_nil)
    (pss_one (ps_ret (pe_ix ix_H (pv 5) (pe_call G_l_take (hr.mono (by omega)) rfl T.m_l_take T.F_l_take.kp (b_l_take T) .nil pass0 (pa_c (pv 0) (pa_c pe_int pa_nil))) (fun _ _ => rfl))))))))), ?_⟩
  simp only [start_cc, start_cn, start_nn]
  refine seq_cut (fun σ H' => σ = [some (.ref p), some v, some (.int deep), none, none, none, none] ∧ Keep p H H' ∧ Pen H' p c) ?_ ?_
  · rintro σ H1 ⟨rfl, k1, pen1⟩
    have r1 := r.mono (k1.hide (l := hid) hpm)
    walk_at "st"
    refine ⟨p, c, 23, rfl, pen1, by decide, by decide, fun x H2 x0 x1 k2 pen2 => ?_⟩
    have r2 := r1.mono (k2.hide (l := hid) hpm)
    walk_at "ex"
    walk_at "st"
    refine ⟨small (by simp), fun a1 ha1 => ?_⟩
    refine ⟨small (by simp), fun a2 ha2 => ⟨⟨by decide, by decide, by decide⟩, small (by simp), fun a3 ha3 => ⟨small (by simp), fun a4 ha4 => ⟨small (by simp), fun a5 ha5 => ?_⟩⟩⟩⟩
    have t2 := tr0.pen (k1.trans k2) pen2
    have s1 := same_new ha1 (.tup [])
    have s2 := same_new ha2 (.lst [])
    have s3 := same_new ha3 (.tup [.int 0])
    have s4 := same_new ha4 (.lst [.int 0])
    have q1 : Rep (hide hid _) (.ref a1) (.tup []) := repT_new t2 ha1 .nil
    have q2 : Rep (hide hid _) (.ref a2) (.lst []) := repL_new (t2.mono s1) ha2 .nil
    have q3 : Rep (hide hid _) (.ref a3) (.tup [.int 0]) := repT_new ((t2.mono s1).mono s2) ha3 (.cons (.int 0) .nil)
    have q4 : Rep (hide hid _) (.ref a4) (.lst [.int 0]) := repL_new (((t2.mono s1).mono s2).mono s3) ha4 (.cons (.int 0) .nil)
    have q1' := q1.mono (hide_mono (s2.trans (s3.trans s4)))
    have q2' := q2.mono (hide_mono (s3.trans s4))
    have q3' := q3.mono (hide_mono s4)
    have t4 := ((t2.mono s1).mono (s2)).mono (s3.trans s4)
    generalize hH5 : upd (upd (upd (upd (upd H2 a1 _) a2 _) a3 _) a4 _) a5 _ = H5
    have s5 : Same _ H5 := hH5 ▸ same_new ha5 _
    have h5 : H5 a5 = some (.lst [.non, .bl true, .bl false, .str "", .str "unlike", .str "many", .str "sum", .str "row", .str "hand", .str "-", .ref a1, .ref a2, .int (10 ^ Int.toNat 20), .int 100, .int (-100), .ref a3, .ref a4]) := hH5 ▸ upd_same
    have k5 : Same H2 H5 := s1.trans (s2.trans (s3.trans (s4.trans s5)))
    have ro : Reps (hide hid H5) [.non, .bl true, .bl false, .str "", .str "unlike", .str "many", .str "sum", .str "row", .str "hand", .str "-", .ref a1, .ref a2, .int (10 ^ Int.toNat 20), .int 100, .int (-100), .ref a3, .ref a4]
        [.non, .bl true, .bl false, .str "", .str "unlike", .str "many", .str "sum", .str "row", .str "hand", .str "-", .tup [], .lst [], .int (10 ^ Int.toNat 20), .int 100, .int (-100), .tup [.int 0], .lst [.int 0]] := by
      have m := hide_mono (l := hid) s5
      exact .cons .non (.cons (.bl _) (.cons (.bl _) (.cons (.str _) (.cons (.str _) (.cons (.str _) (.cons (.str _) (.cons (.str _) (.cons (.str _) (.cons (.str _) (.cons (q1'.mono m) (.cons (q2'.mono m) (.cons (.int _) (.cons (.int _) (.cons (.int _) (.cons (q3'.mono m) (.cons (q4.mono m) .nil))))))))))))))))
    have pen5 := pen2.keep k5
    have a5p : a5 ≠ p := (t4.new ha5) |> fun h e => h (e ▸ hpm)
    have kk := k1.trans (k2.trans (Keep.of (p := p) k5))
    have r5 := r2.mono (hide_mono (l := hid) k5)
    generalize ho : ([V.non, .bl true, .bl false, .str "", .str "unlike", .str "many", .str "sum", .str "row", .str "hand", .str "-", .ref a1, .ref a2, .int (10 ^ Int.toNat 20), .int 100, .int (-100), .ref a3, .ref a4] : List V) = ov at h5 ro
    generalize hod : ([D.non, .bl true, .bl false, .str "", .str "unlike", .str "many", .str "sum", .str "row", .str "hand", .str "-", .tup [], .lst [], .int (10 ^ Int.toNat 20), .int 100, .int (-100), .tup [.int 0], .lst [.int 0]] : List D) = od at ro
    have lo : (ov.length : Int) = 17 := by rw [← ho]; rfl
    have hob : ∀ e ∈ od, wid e ≤ 1 ∧ D.depth e ≤ 1 := by rw [← hod]; exact odd_b
    clear hH5 s1 s2 s3 s4 s5 q1 q2 q3 q4 q1' q2' q3' t4 ha1 ha2 ha3 ha4 ha5 ho hod
    by_cases hds : ∃ ds, d = .tup ds
    · obtain ⟨ds, rfl⟩ := hds
      obtain ⟨a', vs, rfl, ha, rs⟩ := seq_rep r5
      have lf := fit.len
      have T5 := tr0.pen kk pen5
      walk_at "st"
      refine ⟨_, r5.mono (hide_le _ _), ?_⟩
      simp only [isT]
      walk_at "ex"; walk_at "st"
      have lcut := fun lo hi => cutD_length ds lo hi
      refine d_list T5 r5 fun b0 G0 t0 w0 => ?_
      walk_at "ex"
      refine d_slice (T5.mono t0) (r5.mono (hide_mono (l := hid) t0)) fun b1 G1 t1 w1 => ?_
      have u1 := t0.trans t1
      refine d_add (T5.mono u1) (r5.mono (hide_mono (l := hid) u1)) w1 (by have := lcut none (some 1); omega) fun b2 G2 t2 w2 => ?_
      have u2 := u1.trans t2
      walk_at "ex"
      refine d_slice (T5.mono u2) (r5.mono (hide_mono (l := hid) u2)) fun b3 G3 t3 w3 => ?_
      have u3 := u2.trans t3
      walk_at "ex"
      refine ⟨vs, u3 _ _ ha, fun b4 hb4 => ?_⟩
      have t4 := same_new hb4 (.tup vs.reverse)
      have w4 : Rep (hide hid _) (.ref b4) (.tup ds.reverse) := repT_new (T5.mono u3) hb4 (rs.mono (hide_mono (l := hid) u3)).reverse
      have u4 := u3.trans t4
      walk_at "ex"
      refine ⟨small (by simp), fun b5 hb5 => ?_⟩
      have t5 := same_new hb5 (.tup [.int (x - 11)])
      have w5 : Rep (hide hid _) (.ref b5) (.tup [.int (x - 11)]) := repT_new (T5.mono u4) hb5 (.cons (.int _) .nil)
      have u5 := u4.trans t5
      refine d_add (T5.mono u5) (r5.mono (hide_mono (l := hid) u5)) w5 (by simp only [List.length_singleton]; omega) fun b6 G6 t6 w6 => ?_
      have u6 := u5.trans t6
      walk_at "ex"
      refine d_slice (T5.mono u6) (r5.mono (hide_mono (l := hid) u6)) fun b7 G7 t7 w7 => ?_
      have u7 := u6.trans t7
      walk_at "ex"
      refine ⟨small (by simp), fun b8 hb8 => ?_⟩
      have t8 := same_new hb8 (.tup [.ref a'])
      have w8 : Rep (hide hid _) (.ref b8) (.tup [.tup ds]) := repT_new (T5.mono u7) hb8 (.cons (r5.mono (hide_mono (l := hid) u7)) .nil)
      have u8 := u7.trans t8
      refine ⟨small (by simp), fun L hL0 => ?_⟩
      have t9 := same_new hL0 (.lst [b0, b2, b3, .ref b4, b6, b7, .ref b8])
      have M := fun {A B : Hp} (s : Same A B) => hide_mono (l := hid) s
      have rws : Reps (hide hid _) [b0, b2, b3, .ref b4, b6, b7, .ref b8] _ :=
        .cons (w0.mono (M (t1.trans (t2.trans (t3.trans (t4.trans (t5.trans (t6.trans (t7.trans (t8.trans t9)))))))))) (.cons (w2.mono (M (t3.trans (t4.trans (t5.trans (t6.trans (t7.trans (t8.trans t9)))))))) (.cons (w3.mono (M (t4.trans (t5.trans (t6.trans (t7.trans (t8.trans t9))))))) (.cons (w4.mono (M (t5.trans (t6.trans (t7.trans (t8.trans t9)))))) (.cons (w6.mono (M (t7.trans (t8.trans t9)))) (.cons (w7.mono (M (t8.trans t9))) (.cons (w8.mono (M t9)) .nil))))))
      have hb7 : ∀ e ∈ [D.lst ds, .tup (ds ++ cutD ds none (some 1)), .tup (cutD ds none (some (-1))), .tup ds.reverse, .tup (ds ++ [.int (x - 11)]), .tup (cutD ds (some 1) none), .tup [.tup ds]], Bd (.tup ds) e := by
        intro e he
        simp only [List.mem_cons, List.not_mem_nil, or_false] at he
        have c1 := lcut none (some 1)
        have c2 := lcut none (some (-1))
        have c3 := lcut (some 1) none
        rcases he with rfl | rfl | rfl | rfl | rfl | rfl | rfl
        · exact Bd.lst (by omega) fun y hy => bd_in hy
        · refine Bd.tup (by rw [List.length_append]; omega) fun y hy => ?_
          rcases List.mem_append.mp hy with z | z
          · exact bd_in z
          · exact bd_in (mem_cut z)
        · exact Bd.tup (by omega) fun y hy => bd_in (mem_cut hy)
        · exact Bd.tup (by rw [List.length_reverse]; omega) fun y hy => bd_in (List.mem_reverse.mp hy)
        · refine Bd.tup (by rw [List.length_append]; simp only [List.length_singleton]; omega) fun y hy => ?_
          rcases List.mem_append.mp hy with z | z
          · exact bd_in z
          · rw [List.mem_singleton.mp z]; simp [wid, D.depth]
        · exact Bd.tup (by omega) fun y hy => bd_in (mem_cut hy)
        · refine ⟨?_, ?_⟩
          · simp only [wid, wids, List.length_cons, List.length_nil]; omega
          · simp only [D.depth, D.depths]; omega
      have u9 := u8.trans t9
      have penG := pen5.keep u9
      have roG := ro.mono (hide_mono (l := hid) u9)
      have hovG := u9 _ _ h5
      have kG := kk.trans (Keep.of (p := p) u9)
      have hL : upd (upd G7 b8 (.tup [.ref a'])) L (.lst [b0, b2, b3, .ref b4, b6, b7, .ref b8]) L = some (HO.lst [b0, b2, b3, .ref b4, b6, b7, .ref b8]) := upd_same
      have Lp : L ≠ p := (pen5.keep u8).ne hL0
      have lw : [b0, b2, b3, V.ref b4, b6, b7, V.ref b8].length = 7 := rfl
      generalize hws : [b0, b2, b3, V.ref b4, b6, b7, V.ref b8] = ws at rws hL lw penG roG hovG kG ⊢
      walk_at "ex"
      · refine ⟨p, c, 17, rfl, penG, by decide, by decide, fun i1 G1 i10 i11 j1 pG1 => ?_⟩
        walk_at "ex"
        obtain ⟨o, eo, ho⟩ := at_nat (xs := ov) i10 (by rw [lo]; exact i11)
        obtain ⟨dO, edO, rO⟩ := (roG.mono (j1.hide (l := hid) hpm)).get eo
        refine ⟨_, seqH_l (j1 _ _ a5p hovG), _, ho, small (by simp), fun l hl => ?_⟩
        have sl := same_new hl (.lst [o])
        refine .inr ⟨L, l, rfl, rfl, .inr ⟨_, _, sl _ _ (j1 _ _ Lp hL), upd_same, by rw [lw]; exact small (by simp), fun m hm => ?_⟩⟩
        have sm := same_new hm (.lst (ws ++ [o]))
        have pm := (pG1.keep sl).ne hm
        walk_at "ex"
        refine ⟨p, c, 8, rfl, (pG1.keep sl).keep sm, by decide, by decide, fun i2 G2 i20 i21 j2 pG2 => ?_⟩
        walk_at "ex"
        obtain ⟨z, ez, hz⟩ := at_nat (xs := ws ++ [o]) i20 (by rw [List.length_append, lw]; exact i21)
        have rw8 := (((rws.mono (j1.hide (l := hid) hpm)).append (.cons rO .nil)).mono (hide_mono (l := hid) (sl.trans sm))).mono (j2.hide (l := hid) hpm)
        obtain ⟨dz, edz, rz⟩ := rw8.get ez
        have bz : Bd (.tup ds) dz := by
          rcases List.mem_append.mp (List.mem_of_getElem? edz) with y | y
          · exact hb7 dz y
          · rw [List.mem_singleton.mp y]; exact Bd.odd (hob dO (List.mem_of_getElem? edO))
        exact ⟨_, seqH_l (j2 _ _ pm upd_same), _, hz, q z dz G2 (kG.trans (j1.trans ((Keep.of (sl.trans sm)).trans j2))) pG2 rz bz.1 bz.2⟩
    · have z : isT "tuple" d = false := by
        cases d <;> first
          | rfl
          | exact absurd ⟨_, rfl⟩ hds
      walk_at "st"
      refine ⟨_, r5.mono (hide_le _ _), ?_⟩
      rw [z]
      walk_at "ex"
      walk_at "st"
      refine ⟨v, d, rfl, r5.mono (hide_le _ _), ?_⟩
      walk_at "ex"
      by_cases hw : ∃ i0, d = .int i0
      · obtain ⟨i0, rfl⟩ := hw
        cases r5
        simp only [isWhole]
        walk_at "ex"; walk_at "st"
        refine ⟨small (by simp), fun L hL0 => ?_⟩
        have t9 := same_new hL0 (.lst [.int (i0 + 1), .int (i0 - 1), .int (0 - i0), .int (x - 11), .int (x - 11), .bl (decide (i0 = 1)), .int (4 - i0)])
        have rws : Reps (hide hid (upd H5 L (.lst [.int (i0 + 1), .int (i0 - 1), .int (0 - i0), .int (x - 11), .int (x - 11), .bl (decide (i0 = 1)), .int (4 - i0)]))) [.int (i0 + 1), .int (i0 - 1), .int (0 - i0), .int (x - 11), .int (x - 11), .bl (decide (i0 = 1)), .int (4 - i0)] _ :=
          .cons (.int _) (.cons (.int _) (.cons (.int _) (.cons (.int _) (.cons (.int _) (.cons (.bl _) (.cons (.int _) .nil))))))
        have penG := pen5.keep t9
        have roG := ro.mono (hide_mono (l := hid) t9)
        have hovG := t9 _ _ h5
        have kG := kk.trans (Keep.of (p := p) t9)
        have hL : upd H5 L (.lst [.int (i0 + 1), .int (i0 - 1), .int (0 - i0), .int (x - 11), .int (x - 11), .bl (decide (i0 = 1)), .int (4 - i0)]) L = some (HO.lst [.int (i0 + 1), .int (i0 - 1), .int (0 - i0), .int (x - 11), .int (x - 11), .bl (decide (i0 = 1)), .int (4 - i0)]) := upd_same
        have Lp : L ≠ p := pen5.ne hL0
        have lw : [V.int (i0 + 1), .int (i0 - 1), .int (0 - i0), .int (x - 11), .int (x - 11), .bl (decide (i0 = 1)), .int (4 - i0)].length = 7 := rfl
        generalize hws : [V.int (i0 + 1), .int (i0 - 1), .int (0 - i0), .int (x - 11), .int (x - 11), .bl (decide (i0 = 1)), .int (4 - i0)] = ws at rws hL lw penG roG hovG kG ⊢
        walk_at "ex"
        refine ⟨p, c, 17, rfl, penG, by decide, by decide, fun i1 G1 i10 i11 j1 pG1 => ?_⟩
        walk_at "ex"
        obtain ⟨o, eo, ho⟩ := at_nat (xs := ov) i10 (by rw [lo]; exact i11)
        obtain ⟨dO, edO, rO⟩ := (roG.mono (j1.hide (l := hid) hpm)).get eo
        refine ⟨_, seqH_l (j1 _ _ a5p hovG), _, ho, small (by simp), fun l hl => ?_⟩
        have sl := same_new hl (.lst [o])
        refine .inr ⟨L, l, rfl, rfl, .inr ⟨_, _, sl _ _ (j1 _ _ Lp hL), upd_same, by rw [lw]; exact small (by simp), fun m hm => ?_⟩⟩
        have sm := same_new hm (.lst (ws ++ [o]))
        have pm := (pG1.keep sl).ne hm
        walk_at "ex"
        refine ⟨p, c, 8, rfl, (pG1.keep sl).keep sm, by decide, by decide, fun i2 G2 i20 i21 j2 pG2 => ?_⟩
        walk_at "ex"
        obtain ⟨z, ez, hz⟩ := at_nat (xs := ws ++ [o]) i20 (by rw [List.length_append, lw]; exact i21)
        have rw8 := (((rws.mono (j1.hide (l := hid) hpm)).append (.cons rO .nil)).mono (hide_mono (l := hid) (sl.trans sm))).mono (j2.hide (l := hid) hpm)
        obtain ⟨dz, edz, rz⟩ := rw8.get ez
        have bz : wid dz ≤ 1 ∧ D.depth dz ≤ 1 := by
          rcases List.mem_append.mp (List.mem_of_getElem? edz) with y | y
          · simp only [List.mem_cons, List.not_mem_nil, or_false] at y
            rcases y with rfl | rfl | rfl | rfl | rfl | rfl | rfl <;> simp [wid, D.depth]
          · rw [List.mem_singleton.mp y]; exact hob dO (List.mem_of_getElem? edO)
        exact ⟨_, seqH_l (j2 _ _ pm upd_same), _, hz, q z dz G2 (kG.trans (j1.trans ((Keep.of (sl.trans sm)).trans j2))) pG2 rz (by omega) (by omega)⟩
      · have z2 : isWhole d = false := by
          cases d <;> first
            | rfl
            | exact absurd ⟨_, rfl⟩ hw
        rw [z2]
        walk_at "ex"
        refine ⟨p, c, 17, rfl, pen5, by decide, by decide, fun i1 G1 i10 i11 j1 pG1 => ?_⟩
        obtain ⟨o, eo, ho⟩ := at_nat (xs := ov) i10 (by rw [lo]; exact i11)
        obtain ⟨dO, edO, rO⟩ := (ro.mono (j1.hide (l := hid) hpm)).get eo
        have bO := hob dO (List.mem_of_getElem? edO)
        exact ⟨_, rfl, _, seqH_l (j1 _ _ a5p h5), _, ho, q o dO G1 (kk.trans j1) pG1 rO (by omega) (by omega)⟩
  · intro nx hnx
    walk_at "ex"
    refine ⟨d, r.mono (hide_le _ _), ?_⟩
    by_cases hds : ∃ ds, d = .tup ds
    · obtain ⟨ds, rfl⟩ := hds
      simp only [isT]
      walk_at "ex"
      refine ⟨small (by simp), fun e he => ?_⟩
      have se := same_new he (.tup [])
      have hdp := fit.dp
      refine ap_neD (d := .tup ds) (e := .tup []) ((r.mono (hide_le _ _)).mono se) (.tup upd_same .nil) (by omega) (.inl ⟨_, _, rfl, rfl⟩) ?_
      refine ⟨_, rfl, ?_⟩
      have out : nx [some (.ref p), some v, some (.int deep), none, none, none, none] (upd H e (.tup [])) := hnx _ _ ⟨rfl, Keep.of se, pen.keep se⟩
      cases ds with
      | nil =>
        simp only [D.eqv, D.eqvs]
        walk_at "ex"
        exact out
      | cons d0 dr =>
        simp only [D.eqv, D.eqvs]
        walk_at "ex"
        split
        · refine ⟨p, c, 4, rfl, pen.keep se, by decide, by decide, fun x H1 x0 x1 k1 pen1 => ?_⟩
          walk_at "ex"
          have r1 := (r.mono (hide_mono se)).mono (k1.hide (l := hid) hpm)
          split
          · obtain ⟨a', vs, rfl, ha, rs⟩ := seq_rep r1
            have lv := rs.length
            have lf := fit.len
            walk_at "st"
            simp only [seqH_t ha]
            walk_at "ex"
            refine ⟨p, c, _, rfl, pen1, by rw [lv]; simp only [List.length_cons]; omega, by rw [lv]; omega, fun at' H2 at0 at1 k2 pen2 => ?_⟩
            have r2 := r1.mono (k2.hide (l := hid) hpm)
            walk_at "ex"
            have t2 := tr0.pen ((Keep.of se).trans (k1.trans k2)) pen2
            refine d_slice t2 r2 fun v3 H3 s3 q3 => ?_
            walk_at "ex"
            have r3 := r2.mono (hide_mono (l := hid) s3)
            obtain ⟨a3, vs3, e3, ha3, rs3⟩ := seq_rep r3
            cases e3
            have lv3 := rs3.length
            simp only [seqH_t ha3]
            walk_at "ex"
            obtain ⟨y, ey, hy⟩ := at_nat (xs := vs3) at0 (by rw [lv3, ← lv]; exact at1)
            obtain ⟨dy, edy, ry⟩ := rs3.get ey
            refine ⟨_, hy, ?_⟩
            refine ⟨p, c, hid, y, dy, deep - 1, rfl, pen2.keep s3, hpm, t2.mono s3, ry, fit.sub edy, by omega, by omega, fun v4 d4 H4 k4 pen4 q4 bw4 bd4 => ?_⟩
            have t4 := (t2.mono s3).pen k4 pen4
            walk_at "ex"
            refine ⟨small (by simp), fun l hl => ?_⟩
            have s5 := same_new hl (.tup [v4])
            have q5 : Rep (hide hid _) (.ref l) (.tup [d4]) := repT_new t4 hl (.cons q4 .nil)
            have q3' := (q3.mono (k4.hide (l := hid) hpm)).mono (hide_mono (l := hid) s5)
            have lc1 := cutD_length (d0 :: dr) none (some at')
            have lc2 := cutD_length (d0 :: dr) (some (at' + 1)) none
            have r5 := (r3.mono (k4.hide (l := hid) hpm)).mono (hide_mono (l := hid) s5)
            refine d_add (t4.mono s5) q3' q5 (by simp only [List.length_singleton]; omega) fun v6 H6 s6 q6 => ?_
            walk_at "ex"
            refine d_slice ((t4.mono s5).mono s6) (r5.mono (hide_mono (l := hid) s6)) fun v7 H7 s7 q7 => ?_
            refine d_add (((t4.mono s5).mono s6).mono s7) (q6.mono (hide_mono (l := hid) s7)) q7 (by simp only [List.length_append, List.length_singleton]; omega) fun v8 H8 s8 q8 => ?_
            have hdy := List.mem_of_getElem? edy
            have b8 : Bd (.tup (d0 :: dr)) (.tup ((cutD (d0 :: dr) none (some at') ++ [d4]) ++ cutD (d0 :: dr) (some (at' + 1)) none)) := by
              refine Bd.tup (by simp only [List.length_append, List.length_singleton]; omega) fun y hy => ?_
              rcases List.mem_append.mp hy with z | z
              · rcases List.mem_append.mp z with z | z
                · exact bd_in (mem_cut z)
                · rw [List.mem_singleton.mp z]
                  have := wids_mem hdy
                  have := depths_mem hdy
                  exact ⟨by omega, by omega⟩
              · exact bd_in (mem_cut z)
            refine q v8 _ H8 ?_ (pen4.keep (s5.trans (s6.trans (s7.trans s8)))) q8 b8.1 b8.2
            exact (Keep.of se).trans (k1.trans (k2.trans ((Keep.of s3).trans (k4.trans (Keep.of (s5.trans (s6.trans (s7.trans s8))))))))
          · exact hnx _ _ ⟨rfl, (Keep.of se).trans k1, pen1⟩
        · exact out
    · have z : isT "tuple" d = false := by
        cases d <;> first
          | rfl
          | exact absurd ⟨_, rfl⟩ hds
      rw [z]
      walk_at "ex"
      exact hnx _ _ ⟨rfl, Keep.refl p H, pen⟩
/-! ### stands, looked at -/
def inB (lo hi : Int) : D → Bool
  | .int i => decide (lo ≤ i) && decide (i ≤ hi)
  | _ => false
def intOf : D → Int
  | .int i => i
  | _ => 0
def worthsB : D → Bool
  | .tup xs => xs.all (inB (-9) 9) && (decide (1 ≤ xs.length) && (decide (xs.length ≤ 4) && decide ((xs.map intOf).Pairwise (· < ·))))
  | _ => false
def standB : D → Bool
  | .tup es => decide (1 ≤ es.length) && (decide (es.length ≤ 4) && es.all worthsB)
  | _ => false
theorem ints_in {xs : List D} (h : xs.all (inB (-9) 9) = true) : ∃ ns : List Int, xs = ns.map D.int ∧ ∀ n ∈ ns, -9 ≤ n ∧ n ≤ 9 := by
  refine ⟨xs.map intOf, ?_, ?_⟩
  · rw [List.map_map]
    refine List.ext_getElem? fun i => ?_
    rw [List.getElem?_map]
    cases e : xs[i]? with
    | none => rfl
    | some d =>
      have := List.all_eq_true.mp h d (List.mem_of_getElem? e)
      cases d <;> first
        | rfl
        | (simp [inB] at this; done)
  · intro n hn
    obtain ⟨d, hd, rfl⟩ := List.mem_map.mp hn
    have := List.all_eq_true.mp h d hd
    cases d <;> simp [inB, intOf] at this ⊢
    omega
theorem map_intOf (ns : List Int) : (ns.map D.int).map intOf = ns := by
  rw [List.map_map]
  exact List.map_id ns
def sp_within : Sp := fun vs H Q _ => ∃ (v : V) (lo hi : Int) (d : D), vs = [v, .int lo, .int hi] ∧ Rep H v d ∧ Q (.bl (inB lo hi d)) H
theorem ok_is_within (T : Txt K mg a) (G_is_whole : FnOk P w K mg base CX0 1 a.is_whole a.is_whole_fd ["thing"] sp_whole) : FnOk P w K mg base CX0 2 a.is_within a.is_within_fd ["thing", "low", "high"] sp_within := by
  refine T.F_is_within.ok sc_is_within (fun vs H Q E h => ?_) (fun cdv A outer s H vs Q E hr h => ?_)
  · obtain ⟨v, lo, hi, d, rfl, _⟩ := h
    rfl
  obtain ⟨v, lo, hi, d, rfl, r, q⟩ := h
  refine ⟨_, (pss_one (ps_ret (pe_and (pe_call G_is_whole (hr.mono (by omega)) rfl T.m_is_whole T.F_is_whole.kp (b_is_whole T) .nil pass0 (pa_c (pv 0) pa_nil)) (pe_one (pe_chain op_le op_le (pv 1) (pv 0) (pv 2)))))), ?_⟩
  walk_at "go"; walk_at "ex"
  refine ⟨_, d, rfl, r, ?_⟩
  walk_at "ex"
  cases r with
  | int i =>
    simp only [isWhole]
    walk_at "ex"
    simp only [inB] at q
    split
    · rename_i c
      rw [decide_eq_true c, Bool.true_and] at q
      exact q
    · rename_i c
      rw [decide_eq_false c, Bool.false_and] at q
      exact q
  | _ => exact q
def allInB (lo hi : Int) : D → Bool
  | .tup xs => xs.all (inB lo hi)
  | _ => false
def sp_withins : Sp := fun vs H Q _ => ∃ (v : V) (lo hi : Int) (d : D), vs = [v, .int lo, .int hi] ∧ Rep H v d ∧ wid d ≤ 400 ∧ ∀ H', Same H H' → Q (.bl (allInB lo hi d)) H'
theorem same_put {H H' : Hp} {p : Addr} {o : HO} (s : Same H H') (h : H p = none) : Same H (upd H' p o) := fun b u q => by rw [upd_ne (ne_of_none q h)]; exact s b u q
theorem growB {β : Type} (f : β → V) {H H' : Hp} {Dd : Addr} {res : List β} {i : Nat} {b : β} (hD : H Dd = none) (h1 : H' Dd = some (.lst ((res.take i).map f))) (h2 : Same H H') (hr : res[i]? = some b) (hl : res.length ≤ 900) :
    ∃ zs, H' Dd = some (.lst zs) ∧ zs.length < sizeLine ∧ upd H' Dd (.lst (zs ++ [f b])) Dd = some (.lst ((res.take (i + 1)).map f)) ∧ Same H (upd H' Dd (.lst (zs ++ [f b]))) := by
  refine ⟨_, h1, ?_, ?_, same_put h2 hD⟩
  · rw [List.length_map, List.length_take]
    exact small1000 (by omega)
  · rw [upd_same, take_snoc hr, List.map_append]
    rfl
theorem wid_len {xs : List D} (h : wid (.tup xs) ≤ 400) : xs.length ≤ 400 := by
  simp only [wid] at h; omega
theorem ok_are_within (T : Txt K mg a) (G_is_within : FnOk P w K mg base CX0 2 a.is_within a.is_within_fd ["thing", "low", "high"] sp_within) : FnOk P w K mg base CX0 3 a.are_within a.are_within_fd ["thing", "low", "high"] sp_withins := by
  refine T.F_are_within.ok sc_are_within (fun vs H Q E h => ?_) (fun cdv A outer s H vs Q E hr h => ?_)
  · obtain ⟨v, lo, hi, d, rfl, _⟩ := h
    rfl
  obtain ⟨v, lo, hi, d, rfl, r, hw, q⟩ := h
  refine' ⟨_, (pss_one (ps_ret (pe_and (pe_isinst rfl T.z_isinstance rfl T.z_tuple bt_tuple rfl (pv 0)) (pe_one (pe_callB (call_allH rfl) rfl T.z_all bt_all (pa_c (pe_lc (esc := defScope s_are_within) (EN := (["thing", "low", "high"] : List Str)) (N := (["part", "thing", "low", "high"] : List Str)) (k := 1) rfl ⟨rfl, by decide +kernel, by decide +kernel, by decide +kernel, by decide +kernel, by decide +kernel⟩ rfl rfl (pi_seqH (pv 0)) ?g0 ?t0 ?e0) pa_nil)))))), ?rd⟩
  (case g0 => intro _ _ _ _; exact (pg_name (i := 0) nd_1 rfl (by first | exact Or.inl rfl | exact Or.inr rfl)))
  (case t0 => intro _ _ _ _; exact pts_nil)
  (case e0 => intro _ _ _ _; exact (pe_call G_is_within (hr.mono (by omega)) rfl T.m_is_within T.F_is_within.kp (b_is_within T) .nil pass0 (pa_c (pv 0) (pa_c (pv 2) (pa_c (pv 3) pa_nil)))))
  walk_at "go"; walk_at "ex"
  refine ⟨d, r, ?_⟩
  cases r with
  | @tup p us es hp rs =>
    have lw := wid_len hw
    have l1 := rs.length
    simp only [isT]
    walk_at "ex"
    refine .inl ⟨_, hp, fun Dd hD => ?_⟩
    generalize hres : es.map (inB lo hi) = res
    have lres : res.length = es.length := by rw [← hres, List.length_map]
    refine LCW.tup1 (xs := us) (fun i H' => H' Dd = some (.lst ((res.take i).map V.bl)) ∧ Same H H') ?_ ?_ ?_ ?_
    · exact ⟨by rw [upd_same]; rfl, same_new hD _⟩
    · rintro i H' hi' ⟨h1, h2⟩
      exact h2 _ _ hp
    · rintro i x H' hx ⟨h1, h2⟩
      obtain ⟨e, ee, re⟩ := rs.get hx
      have hr' : res[i]? = some (inB lo hi e) := by rw [← hres, List.getElem?_map, ee]; rfl
      unfold LCItem
      walk_at "ex"
      exact ⟨_, _, _, e, rfl, re.mono h2, growB V.bl hD h1 h2 hr' (by omega)⟩
    · rintro H' ⟨h1, h2⟩
      rw [List.take_of_length_le (by omega)] at h1
      refine ⟨Dd, res, rfl, h1, ?_⟩
      have z : res.all id = allInB lo hi (.tup es) := by rw [← hres, List.all_map]; rfl
      rw [z]
      exact q H' h2
  | _ =>
    simp only [isT]
    walk_at "ex"
    exact q H (Same.refl H)
theorem rise_iff : ∀ ns : List Int, ns.Pairwise (· < ·) ↔ ∀ i, i + 1 < ns.length → ns.getD i 0 < ns.getD (i + 1) 0
  | [] => by simp
  | [a] => by simp
  | a :: b :: l => by
    have ih := rise_iff (b :: l)
    rw [List.pairwise_cons]
    constructor
    · rintro ⟨h1, h2⟩ i hi
      cases i with
      | zero => exact h1 b (by simp)
      | succ i => exact ih.mp h2 i (by simpa using hi)
    · intro h
      have hp : (b :: l).Pairwise (· < ·) := ih.mpr fun i hi => h (i + 1) (by simp at hi ⊢; omega)
      refine ⟨fun x hx => ?_, hp⟩
      have hab : a < b := h 0 (by simp)
      rcases List.mem_cons.mp hx with z | z
      · rw [z]; exact hab
      · have := (List.pairwise_cons.mp hp).1 x z
        omega
theorem at_getD {ns : List Int} {i : Nat} (h : i < ns.length) : atI (ns.map V.int) (i : Int) = some (.int (ns.getD i 0)) := by
  refine atI_nat ?_
  rw [List.getElem?_map, List.getD_eq_getElem?_getD, List.getElem?_eq_getElem h]
  rfl
def sp_rising : Sp := fun vs H Q _ => ∃ (t : Addr) (ns : List Int), vs = [.ref t] ∧ H t = some (.tup (ns.map V.int)) ∧ ns.length ≤ 400 ∧ ∀ H', Same H H' → Q (.bl (decide (ns.Pairwise (· < ·)))) H'
theorem ok_are_rising (T : Txt K mg a) : FnOk P w K mg base CX0 1 a.are_rising a.are_rising_fd ["things"] sp_rising := by
  refine T.F_are_rising.ok sc_are_rising (fun vs H Q E h => ?_) (fun cdv A outer s H vs Q E hr h => ?_)
  · obtain ⟨t, ns, rfl, _⟩ := h
    rfl
  obtain ⟨t, ns, rfl, ht, hl, q⟩ := h
  refine' ⟨_, (pss_one (ps_ret (pe_callB (call_allH rfl) rfl T.z_all bt_all (pa_c (pe_lc (esc := defScope s_are_rising) (EN := (["things"] : List Str)) (N := (["at", "things"] : List Str)) (k := 1) rfl ⟨rfl, by decide +kernel, by decide +kernel, by decide +kernel, by decide +kernel, by decide +kernel⟩ rfl rfl (pi_range2 rfl T.z_range (pa_c pe_int (pa_c (pe_callB call_lenH rfl T.z_len bt_len (pa_c (pv 0) pa_nil)) pa_nil))) ?g0 ?t0 ?e0) pa_nil)))), ?rd⟩
  (case g0 => intro _ _ _ _; exact (pg_name (i := 0) nd_2 rfl (by first | exact Or.inl rfl | exact Or.inr rfl)))
  (case t0 => intro _ _ _ _; exact pts_nil)
  (case e0 => intro _ _ _ _; exact (pe_cmpR op_lt (pe_ix ix_H (pv 1) (pe_op op_sub (pv 0) pe_int) (fun _ _ => rfl)) (pe_ix ix_H (pv 1) (pv 0) (fun _ _ => rfl)) (nomark _)))
  walk_at "go"; walk_at "ex"
  simp only [seqH_t ht, Option.some.injEq, exists_eq_left', List.length_map]
  refine ⟨_, _, ⟨rfl, rfl⟩, ⟨by omega, by omega, by omega, by omega⟩, fun Dd hD => ?_⟩
  have e1 : (((ns.length : Nat) : Int) - 1).toNat = ns.length - 1 := by omega
  rw [e1]
  generalize hres : (List.range (ns.length - 1)).map (fun i => decide (ns.getD i 0 < ns.getD (i + 1) 0)) = res
  have lres : res.length = ns.length - 1 := by rw [← hres, List.length_map, List.length_range]
  refine LCW.range1 (fun i H' => H' Dd = some (.lst ((res.take i).map V.bl)) ∧ Same H H') ?_ ?_ ?_
  · exact ⟨by rw [upd_same]; rfl, same_new hD _⟩
  · rintro i H' hi ⟨h1, h2⟩
    have hr' : res[i]? = some (decide (ns.getD i 0 < ns.getD (i + 1) 0)) := by
      rw [← hres, List.getElem?_map, List.getElem?_range hi]
      rfl
    unfold LCItem
    walk_at "ex"
    have ht' := h2 _ _ ht
    have z1 : (1 + (i : Int)) - 1 = (i : Int) := by omega
    have z2 : (1 + (i : Int)) = ((i + 1 : Nat) : Int) := by omega
    rw [z1, z2]
    refine ⟨_, seqH_t ht', _, at_getD (show i < ns.length by omega), _, seqH_t ht', _, at_getD (show i + 1 < ns.length by omega), ?_⟩
    walk_at "ex"
    exact growB V.bl hD h1 h2 hr' (by omega)
  · rintro H' ⟨h1, h2⟩
    rw [List.take_of_length_le (by omega)] at h1
    refine ⟨Dd, res, rfl, h1, ?_⟩
    have z : res.all id = decide (ns.Pairwise (· < ·)) := by
      rw [← hres, List.all_map, Bool.eq_iff_iff, decide_eq_true_eq, rise_iff, List.all_eq_true]
      constructor
      · intro h i hi
        exact of_decide_eq_true (h i (List.mem_range.mpr (by omega)))
      · intro h i hi
        exact decide_eq_true (h i (by have := List.mem_range.mp hi; omega))
    rw [z]
    exact q H' h2
def sp_worthsB : Sp := fun vs H Q _ => ∃ (v : V) (d : D), vs = [v] ∧ Rep H v d ∧ wid d ≤ 400 ∧ ∀ H', Same H H' → Q (.bl (worthsB d)) H'
theorem ok_are_worths (T : Txt K mg a) (G_are_within : FnOk P w K mg base CX0 3 a.are_within a.are_within_fd ["thing", "low", "high"] sp_withins) (G_are_rising : FnOk P w K mg base CX0 1 a.are_rising a.are_rising_fd ["things"] sp_rising) : FnOk P w K mg base CX0 4 a.are_worths a.are_worths_fd ["thing"] sp_worthsB := by
  refine T.F_are_worths.ok sc_are_worths (fun vs H Q E h => ?_) (fun cdv A outer s H vs Q E hr h => ?_)
  · obtain ⟨v, d, rfl, _⟩ := h
    rfl
  obtain ⟨v, d, rfl, r, hw, q⟩ := h
  refine ⟨_, (pss_one (ps_ret (pe_and (pe_call G_are_within (hr.mono (by omega)) rfl T.m_are_within T.F_are_within.kp (b_are_within T) .nil pass0 (pa_c (pv 0) (pa_c (pe_un un_neg pe_int) (pa_c pe_int pa_nil)))) (pe_and (pe_chain op_le op_le pe_int (pe_callB call_lenH rfl T.z_len bt_len (pa_c (pv 0) pa_nil)) pe_int) (pe_one (pe_call G_are_rising (hr.mono (by omega)) rfl T.m_are_rising T.F_are_rising.kp (b_are_rising T) .nil pass0 (pa_c (pv 0) pa_nil))))))), ?_⟩
  walk_at "go"; walk_at "ex"
  refine ⟨v, -9, 9, d, rfl, r, hw, fun H1 s1 => ?_⟩
  have q1 : ∀ H', Same H1 H' → Q (.bl (worthsB d)) H' := fun H' s' => q H' (s1.trans s')
  walk_at "ex"
  cases hin : allInB (-9) 9 d with
  | false =>
    walk_at "ex"
    have z : worthsB d = false := by
      cases d <;> first
        | rfl
        | (simp only [allInB] at hin; simp only [worthsB, hin, Bool.false_and])
    have q' := q1 H1 (Same.refl H1)
    rw [z] at q'
    exact q'
  | true =>
    cases r with
    | @tup p us es hp rs =>
      have lw := wid_len hw
      simp only [allInB] at hin
      obtain ⟨ns, rfl, hns⟩ := ints_in hin
      have hus := Reps.of_ints rs
      subst hus
      have hp1 := s1 _ _ hp
      rw [List.length_map] at lw
      have zz : worthsB (.tup (ns.map D.int)) = (decide (1 ≤ ns.length) && (decide (ns.length ≤ 4) && decide (ns.Pairwise (· < ·)))) := by
        simp only [worthsB, hin, Bool.true_and, List.length_map, map_intOf]
      rw [zz] at q1
      walk_at "ex"
      refine ⟨_, seqH_t hp1, ?_⟩
      rw [List.length_map]
      walk_at "ex"
      have q' := q1 H1 (Same.refl H1)
      split
      · rename_i c1
        rw [decide_eq_true (show 1 ≤ ns.length by omega), Bool.true_and] at q1 q'
        split
        · rename_i c2
          rw [decide_eq_true (show ns.length ≤ 4 by omega), Bool.true_and] at q1
          exact ⟨p, ns, rfl, hp1, by omega, q1⟩
        · rename_i c2
          rw [decide_eq_false (show ¬ ns.length ≤ 4 by omega), Bool.false_and] at q'
          exact q'
      · rename_i c1
        rw [decide_eq_false (show ¬ 1 ≤ ns.length by omega), Bool.false_and] at q'
        exact q'
    | _ => simp [allInB] at hin
def sp_standB : Sp := fun vs H Q _ => ∃ (v : V) (d : D), vs = [v] ∧ Rep H v d ∧ wid d ≤ 400 ∧ ∀ H', Same H H' → Q (.bl (standB d)) H'
theorem ok_is_stand (T : Txt K mg a) (G_are_worths : FnOk P w K mg base CX0 4 a.are_worths a.are_worths_fd ["thing"] sp_worthsB) : FnOk P w K mg base CX0 5 a.is_stand a.is_stand_fd ["thing"] sp_standB := by
  refine T.F_is_stand.ok sc_is_stand (fun vs H Q E h => ?_) (fun cdv A outer s H vs Q E hr h => ?_)
  · obtain ⟨v, d, rfl, _⟩ := h
    rfl
  obtain ⟨v, d, rfl, r, hw, q⟩ := h
  refine' ⟨_, (pss_cons (ps_if (PW.pt (pw_or (pt_not (pt_val (pe_isinst rfl T.z_isinstance rfl T.z_tuple bt_tuple rfl (pv 0)))) (pw_or1 (pt_not (pt_chain op_le op_le pe_int (pe_callB call_lenH rfl T.z_len bt_len (pa_c (pv 0) pa_nil)) pe_int))))) (pss_one (ps_ret pe_bl)) pss_nil)
    (pss_one (ps_ret (pe_callB (call_allH rfl) rfl T.z_all bt_all (pa_c (pe_lc (esc := defScope s_is_stand) (EN := (["thing"] : List Str)) (N := (["part", "thing"] : List Str)) (k := 1) rfl ⟨rfl, by decide +kernel, by decide +kernel, by decide +kernel, by decide +kernel, by decide +kernel⟩ rfl rfl (pi_seqH (pv 0)) ?g0 ?t0 ?e0) pa_nil))))), ?rd⟩
  (case g0 => intro _ _ _ _; exact (pg_name (i := 0) nd_3 rfl (by first | exact Or.inl rfl | exact Or.inr rfl)))
  (case t0 => intro _ _ _ _; exact pts_nil)
  (case e0 => intro _ _ _ _; exact (pe_call G_are_worths (hr.mono (by omega)) rfl T.m_are_worths T.F_are_worths.kp (b_are_worths T) .nil pass0 (pa_c (pv 0) pa_nil)))
  walk_at "go"; walk_at "ex"
  refine ⟨d, r, ?_⟩
  cases r with
  | @tup p us es hp rs =>
    have lw := wid_len hw
    have l1 := rs.length
    have q0 := q H (Same.refl H)
    simp only [standB] at q q0
    simp only [isT]
    walk_at "ex"
    refine ⟨_, seqH_t hp, ?_⟩
    walk_at "ex"
    split
    · rename_i c1
      rw [decide_eq_true (show 1 ≤ es.length by omega), Bool.true_and] at q q0
      split
      · rename_i c2
        rw [decide_eq_false (show ¬ es.length ≤ 4 by omega), Bool.false_and] at q0
        exact q0
      · rename_i c2
        rw [decide_eq_true (show es.length ≤ 4 by omega), Bool.true_and] at q
        refine .inl ⟨_, hp, fun Dd hD => ?_⟩
        generalize hres : es.map worthsB = res
        have lres : res.length = es.length := by rw [← hres, List.length_map]
        refine LCW.tup1 (xs := us) (fun i H' => H' Dd = some (.lst ((res.take i).map V.bl)) ∧ Same H H') ?_ ?_ ?_ ?_
        · exact ⟨by rw [upd_same]; rfl, same_new hD _⟩
        · rintro i H' hi' ⟨h1, h2⟩
          exact h2 _ _ hp
        · rintro i x H' hx ⟨h1, h2⟩
          obtain ⟨e, ee, re⟩ := rs.get hx
          have we := wids_get ee
          have hr' : res[i]? = some (worthsB e) := by rw [← hres, List.getElem?_map, ee]; rfl
          unfold LCItem
          walk_at "ex"
          refine ⟨_, e, rfl, re.mono h2, by simp only [wid] at hw; omega, fun H2 s2 => ?_⟩
          exact growB V.bl hD (s2 _ _ h1) (h2.trans s2) hr' (by omega)
        · rintro H' ⟨h1, h2⟩
          rw [List.take_of_length_le (by omega)] at h1
          refine ⟨Dd, res, rfl, h1, ?_⟩
          have z : res.all id = es.all worthsB := by rw [← hres, List.all_map]; rfl
          rw [z]
          exact q H' h2
    · rename_i c1
      rw [decide_eq_false (show ¬ 1 ≤ es.length by omega), Bool.false_and] at q0
      exact q0
  | _ =>
    simp only [isT]
    walk_at "ex"
    exact q H (Same.refl H)
/-! ### the law's own look at a stand -/
theorem sorted_ext : ∀ (l m : List Int), l.Pairwise (· < ·) → m.Pairwise (· < ·) → (∀ x, x ∈ l ↔ x ∈ m) → l = m
  | [], [], _, _, _ => rfl
  | [], b :: m, _, _, h => by have := (h b).mpr (by simp); simp at this
  | a :: l, [], _, _, h => by have := (h a).mp (by simp); simp at this
  | a :: l, b :: m, h1, h2, h => by
    obtain ⟨a1, a2⟩ := List.pairwise_cons.mp h1
    obtain ⟨b1, b2⟩ := List.pairwise_cons.mp h2
    have e : a = b := by
      have x1 := (h a).mp (by simp)
      have x2 := (h b).mpr (by simp)
      rcases List.mem_cons.mp x1 with z | z
      · exact z
      · rcases List.mem_cons.mp x2 with y | y
        · exact y.symm
        · have := a1 b y
          have := b1 a z
          omega
    subst e
    rw [sorted_ext l m a2 b2 fun x => ?_]
    constructor
    · intro hx
      have hlt := a1 x hx
      rcases List.mem_cons.mp ((h x).mp (by simp [hx])) with z | z
      · omega
      · exact z
    · intro hx
      have hlt := b1 x hx
      rcases List.mem_cons.mp ((h x).mpr (by simp [hx])) with z | z
      · omega
      · exact z
theorem eqvs_ints : ∀ (ns ms : List Int), D.eqvs (ns.map D.int) (ms.map D.int) = decide (ns = ms)
  | [], [] => by simp [D.eqvs]
  | [], m :: ms => by simp [D.eqvs]
  | n :: ns, [] => by simp [D.eqvs]
  | n :: ns, m :: ms => by
    have ih := eqvs_ints ns ms
    simp only [List.map_cons, D.eqvs, D.eqv, ih]
    by_cases h : n = m
    · subst h; simp
    · simp [h]
theorem ne_rise {ns ms : List Int} (h1 : ms.Pairwise (· < ·)) (h2 : ∀ x, x ∈ ms ↔ x ∈ ns) : decide (ns = ms) = decide (ns.Pairwise (· < ·)) := by
  congr 1
  refine propext ⟨fun e => e ▸ h1, fun h => sorted_ext ns ms h h1 fun x => (h2 x).symm⟩
theorem filter_yes {β : Type} {c : β → Bool} {xs : List β} {i : Nat} {x : β} (hx : xs[i]? = some x) (h : c x = true) : (xs.take (i + 1)).filter c = (xs.take i).filter c ++ [x] := by
  rw [take_snoc hx, List.filter_append]
  simp [h]
theorem ok_l_is_stand (T : Txt K mg a) (G_l_is_whole : FnOk P w K mg base CX0 1 a.l_is_whole a.l_is_whole_fd ["thing"] sp_whole) : FnOk P w K mg base CX0 2 a.l_is_stand a.l_is_stand_fd ["thing"] sp_standB := by
  refine T.F_l_is_stand.ok sc_l_is_stand (fun vs H Q E h => ?_) (fun cdv A outer s H vs Q E hr h => ?_)
  · obtain ⟨v, d, rfl, _⟩ := h
    rfl
  obtain ⟨v, d, rfl, r, hw, q⟩ := h
  have hu := hr.units
  refine' ⟨_, (pss_cons (ps_if (PW.pt (pw_or (pt_not (pt_val (pe_isinst rfl T.z_isinstance rfl T.z_tuple bt_tuple rfl (pv 0)))) (pw_or (pt_cmpR op_lt (pe_callB call_lenH rfl T.z_len bt_len (pa_c (pv 0) pa_nil)) pe_int (nomark _)) (pw_or1 (pt_cmpR op_gt (pe_callB call_lenH rfl T.z_len bt_len (pa_c (pv 0) pa_nil)) pe_int (nomark _)))))) (pss_one (ps_ret pe_bl)) pss_nil)
    (pss_cons (ps_for PassesOwn.never rfl (pi_seqH (pv 0)) (pg_name (i := 1) sc_l_is_stand.nd rfl (by first | exact Or.inl rfl | exact Or.inr rfl)) (pss_cons (ps_if (PW.pt (pw_or (pt_not (pt_val (pe_isinst rfl T.z_isinstance rfl T.z_tuple bt_tuple rfl (pv 1)))) (pw_or (pt_cmpR op_lt (pe_callB call_lenH rfl T.z_len bt_len (pa_c (pv 1) pa_nil)) pe_int (nomark _)) (pw_or1 (pt_cmpR op_gt (pe_callB call_lenH rfl T.z_len bt_len (pa_c (pv 1) pa_nil)) pe_int (nomark _)))))) (pss_one (ps_ret pe_bl)) pss_nil)
    (pss_cons (ps_if (pt_cmpR (op_neH hu) (pe_lc (esc := defScope s_l_is_stand) (EN := (["thing", "worths"] : List Str)) (N := (["worth", "thing", "worths"] : List Str)) (k := 1) rfl ⟨rfl, by decide +kernel, by decide +kernel, by decide +kernel, by decide +kernel, by decide +kernel⟩ rfl rfl (pi_seqH (pv 1)) ?g0 ?t0 ?e0) (pe_lst pa_nil) (nomark _)) (pss_one (ps_ret pe_bl)) pss_nil)
    (pss_one (ps_if (pt_cmpR (op_neH hu) (pe_callTy call_listH rfl T.z_list bt_list (pa_c (pv 1) pa_nil)) (pe_sortedSet rfl rfl T.z_sorted rfl T.z_set bt_sorted bt_set (pv 1)) (nomark _)) (pss_one (ps_ret pe_bl)) pss_nil)))))
    (pss_one (ps_ret pe_bl)))), ?rd⟩
  (case g0 => intro _ _ _ _; exact (pg_name (i := 0) nd_4 rfl (by first | exact Or.inl rfl | exact Or.inr rfl)))
  (case t0 => intro _ _ _ _; exact (pts_one (PW.pt (pw_or (pt_not (pt_val (pe_call G_l_is_whole (hr.mono (by omega)) rfl T.m_l_is_whole T.F_l_is_whole.kp (b_l_is_whole T) .nil pass0 (pa_c (pv 0) pa_nil)))) (pw_or (pt_cmpR op_lt (pv 0) (pe_un un_neg pe_int) (nomark _)) (pw_or1 (pt_cmpR op_gt (pv 0) pe_int (nomark _))))))))
  (case e0 => intro _ _ _ _; exact pe_int)
  walk_at "go"; walk_at "ex"
  refine ⟨d, r, ?_⟩
  cases r with
  | @tup p us es hp rs =>
    have lw := wid_len hw
    have l1 := rs.length
    have q0 := q H (Same.refl H)
    simp only [standB] at q q0
    simp only [isT]
    walk_at "ex"
    refine ⟨_, seqH_t hp, ?_⟩
    walk_at "ex"
    split
    · rename_i c1
      rw [decide_eq_false (show ¬ 1 ≤ es.length by omega), Bool.false_and] at q0
      exact q0
    · rename_i c1
      rw [decide_eq_true (show 1 ≤ es.length by omega), Bool.true_and] at q q0
      refine ⟨_, seqH_t hp, ?_⟩
      walk_at "ex"
      split
      · rename_i c2
        rw [decide_eq_false (show ¬ es.length ≤ 4 by omega), Bool.false_and] at q0
        exact q0
      · rename_i c2
        rw [decide_eq_true (show es.length ≤ 4 by omega), Bool.true_and] at q
        have bad : ∀ e, e ∈ es → worthsB e = false → ∀ H', Same H H' → Q (.bl false) H' := fun e he hf H' s' => by
          have z : es.all worthsB = false := by
            rw [← Bool.not_eq_true]
            intro hh
            rw [List.all_eq_true.mp hh e he] at hf
            cases hf
          have q' := q H' s'
          rw [z] at q'
          exact q'
        walk_at "st"
        refine .inl ⟨_, hp, ?_⟩
        refine ForW.tup (xs := us) (fun i σ H' => ∃ o1 : Option V, σ = [some (.ref p), o1] ∧ Same H H' ∧ ∀ e ∈ es.take i, worthsB e = true) ?_ ?_ ?_ ?_
        · exact ⟨_, rfl, Same.refl H, by simp⟩
        · rintro i σ H' hi ⟨o1, rfl, s1, hg⟩
          exact s1 _ _ hp
        · rintro i x σ H' hx ⟨o1, rfl, s1, hg⟩
          obtain ⟨e, ee, re⟩ := rs.get hx
          have hm := List.mem_of_getElem? ee
          have we := wids_get ee
          have we4 : wid e ≤ 400 := by simp only [wid] at hw; omega
          have re1 := re.mono s1
          walk_at "ex"; walk_at "st"
          refine ⟨e, re1, ?_⟩
          cases re1 with
          | @tup t ts xs ht rt =>
            have lx := wid_len we4
            have l2 := rt.length
            simp only [isT]
            walk_at "ex"
            refine ⟨_, seqH_t ht, ?_⟩
            walk_at "ex"
            have badE := bad _ hm
            split
            · rename_i d1
              exact badE (by simp only [worthsB]; rw [decide_eq_false (show ¬ 1 ≤ xs.length by omega)]; simp) H' s1
            · rename_i d1
              refine ⟨_, seqH_t ht, ?_⟩
              walk_at "ex"
              split
              · rename_i d2
                exact badE (by simp only [worthsB]; rw [decide_eq_false (show ¬ xs.length ≤ 4 by omega)]; simp) H' s1
              · rename_i d2
                walk_at "st"
                refine .inl ⟨_, ht, fun D2 hD2 => ?_⟩
                refine LCW.tup1 (xs := ts) (fun j H2 => (∃ k : Nat, k ≤ j ∧ H2 D2 = some (.lst ((List.replicate k (1 : Int)).map V.int)) ∧ ((k == 0) = (xs.take j).all (inB (-9) 9))) ∧ Same H' H2) ?_ ?_ ?_ ?_
                · exact ⟨⟨0, Nat.le_refl 0, by rw [upd_same]; rfl, rfl⟩, same_new hD2 _⟩
                · rintro j H2 hj ⟨h1, h2⟩
                  exact h2 _ _ ht
                · rintro j y H2 hy ⟨⟨k, hk, h1, h1b⟩, h2⟩
                  obtain ⟨f, ef, rf⟩ := rt.get hy
                  have hjl : j < xs.length := (List.getElem?_eq_some_iff.mp ef).1
                  have goodI : inB (-9) 9 f = true → (∃ k : Nat, k ≤ j + 1 ∧ H2 D2 = some (.lst ((List.replicate k (1 : Int)).map V.int)) ∧ ((k == 0) = (xs.take (j + 1)).all (inB (-9) 9))) ∧ Same H' H2 := fun hg => by
                    refine ⟨⟨k, by omega, h1, ?_⟩, h2⟩
                    rw [h1b, take_snoc ef, List.all_append, List.all_cons, hg]
                    simp
                  have badI : inB (-9) 9 f = false → ∃ zs : List V, H2 D2 = some (.lst zs) ∧ zs.length < sizeLine ∧ (∃ k : Nat, k ≤ j + 1 ∧ upd H2 D2 (.lst (zs ++ [.int 1])) D2 = some (.lst ((List.replicate k (1 : Int)).map V.int)) ∧ ((k == 0) = (xs.take (j + 1)).all (inB (-9) 9))) ∧ Same H' (upd H2 D2 (.lst (zs ++ [.int 1]))) := fun hg => by
                    refine ⟨_, h1, ?_, ⟨k + 1, by omega, ?_, ?_⟩, same_put h2 hD2⟩
                    · rw [List.length_map, List.length_replicate]
                      exact small1000 (by omega)
                    · rw [upd_same, List.replicate_succ', List.map_append]
                      rfl
                    · rw [take_snoc ef, List.all_append, List.all_cons, hg]
                      simp
                  unfold LCItem
                  walk_at "ex"
                  refine ⟨y, f, rfl, rf.mono h2, ?_⟩
                  walk_at "ex"
                  cases rf with
                  | int n =>
                    simp only [isWhole]
                    walk_at "ex"
                    simp only [inB] at goodI badI
                    split
                    · rename_i e1
                      exact badI (by rw [decide_eq_false (by omega), Bool.false_and])
                    · rename_i e1
                      split
                      · rename_i e2
                        exact badI (by rw [Bool.and_comm, decide_eq_false (by omega), Bool.false_and])
                      · rename_i e2
                        exact goodI (by rw [decide_eq_true (by omega), decide_eq_true (by omega)]; rfl)
                  | _ => exact badI rfl
                · rintro H2 ⟨⟨k, hk, h1, h1b⟩, h2⟩
                  rw [List.take_of_length_le (by omega)] at h1b
                  refine ⟨small (by simp), fun p2 hp2 => ?_⟩
                  have s2 := same_new hp2 (.lst [])
                  refine ap_neD (d := .lst ((List.replicate k (1 : Int)).map D.int)) (e := .lst []) (.lst (s2 _ _ h1) (Reps.ints _)) (.lst upd_same .nil) (by simp only [D.depth, depths_ints]; omega) (.inr ⟨_, _, rfl, rfl⟩) ?_
                  have e0 : D.eqv (.lst ((List.replicate k (1 : Int)).map D.int)) (.lst []) = xs.all (inB (-9) 9) := by
                    rw [← h1b]
                    cases k with
                    | zero => simp [D.eqv, D.eqvs]
                    | succ k => simp [D.eqv, D.eqvs, List.replicate_succ]
                  rw [e0]
                  refine ⟨_, rfl, ?_⟩
                  cases hin : xs.all (inB (-9) 9) with
                  | false =>
                    simp only [Bool.not_false, ↓reduceIte]
                    exact badE (by simp only [worthsB, hin, Bool.false_and]) _ (s1.trans (h2.trans s2))
                  | true =>
                    simp only [Bool.not_true, Bool.false_eq_true, ↓reduceIte]
                    obtain ⟨ns, rfl, hns⟩ := ints_in hin
                    have hts := Reps.of_ints rt
                    subst hts
                    rw [List.length_map] at d1 d2
                    have s3 := h2.trans s2
                    refine ⟨t, _, rfl, seqH_t (s3 _ _ ht), fun l1 hl1 => ?_⟩
                    have s4 := same_new hl1 (.lst (ns.map V.int))
                    refine ⟨ns, s4 _ _ (s3 _ _ ht), by omega, hns, fun l2 ms hl2 hpw hmem => ?_⟩
                    have s5 := same_new hl2 (.lst (ms.map V.int))
                    refine ap_neD (d := .lst (ns.map D.int)) (e := .lst (ms.map D.int)) (.lst (s5 _ _ upd_same) (Reps.ints _)) (.lst upd_same (Reps.ints _)) (by simp only [D.depth, depths_ints]; omega) (.inr ⟨_, _, rfl, rfl⟩) ?_
                    have e1 : D.eqv (.lst (ns.map D.int)) (.lst (ms.map D.int)) = decide (ns.Pairwise (· < ·)) := by
                      simp only [D.eqv, eqvs_ints]
                      exact ne_rise hpw hmem
                    rw [e1]
                    refine ⟨_, rfl, ?_⟩
                    have zz : worthsB (.tup (ns.map D.int)) = decide (ns.Pairwise (· < ·)) := by
                      simp only [worthsB, hin, Bool.true_and, List.length_map, map_intOf]
                      rw [decide_eq_true (show 1 ≤ ns.length by omega), decide_eq_true (show ns.length ≤ 4 by omega)]
                      rfl
                    have s6 := s1.trans (s3.trans (s4.trans s5))
                    cases hpp : decide (ns.Pairwise (· < ·)) with
                    | false =>
                      simp only [Bool.not_false, ↓reduceIte]
                      exact badE (by rw [zz]; exact hpp) _ s6
                    | true =>
                      simp only [Bool.not_true, Bool.false_eq_true, ↓reduceIte]
                      refine ⟨s6, fun e he => ?_⟩
                      rw [take_snoc ee] at he
                      rcases List.mem_append.mp he with y | y
                      · exact hg e y
                      · rw [List.mem_singleton.mp y, zz]; exact hpp
          | _ =>
            simp only [isT]
            walk_at "ex"
            exact bad _ hm rfl H' s1
        · rintro σ H' ⟨o1, rfl, s1, hg⟩
          walk_at "ex"
          rw [List.take_of_length_le (by omega)] at hg
          have z : es.all worthsB = true := List.all_eq_true.mpr hg
          have q' := q H' s1
          rw [z] at q'
          exact q'
  | _ =>
    simp only [isT]
    walk_at "ex"
    exact q H (Same.refl H)
/-! ### the law -/
def spLaw (K : PySem.W.Frag) : Sp := fun vs H Q _ => ∃ (l : Addr) (ns : List Int), vs = [.ref l] ∧ SqL K H l (ns.map V.int) ∧ ns.length ≤ 63 ∧ ∀ H', Q (.bl true) H'
theorem wids_ints : ∀ (fs : List Int), wids (fs.map D.int) = 0
  | [] => rfl
  | x :: xs => by simp only [List.map_cons, wids, wid, wids_ints xs]; rfl
theorem stand_wid {wss : List (List Int)} (g : GoodS 4 4 wss) : wid (standD wss) ≤ 4 ∧ D.depth (standD wss) ≤ 2 := by
  have gl := g.le
  have h1 : wids (wss.map fun ws => D.tup (ws.map D.int)) ≤ 4 := wids_le fun d hd => by
    obtain ⟨ws, hw, rfl⟩ := List.mem_map.mp hd
    have := (g.all ws hw).le
    simp only [wid, wids_ints, List.length_map]; omega
  have h2 : D.depths (wss.map fun ws => D.tup (ws.map D.int)) ≤ 1 := depths_le fun d hd => by
    obtain ⟨ws, hw, rfl⟩ := List.mem_map.mp hd
    simp only [D.depth, depths_ints]; omega
  unfold standD
  refine ⟨?_, ?_⟩
  · simp only [wid, List.length_map]; omega
  · simp only [D.depth]; omega
theorem stand_ok {wss : List (List Int)} (g : GoodS 4 4 wss) : standB (standD wss) = true := by
  have gp := g.pos
  have gl := g.le
  unfold standD
  simp only [standB, List.length_map]
  rw [decide_eq_true (show 1 ≤ wss.length by omega), decide_eq_true (show wss.length ≤ 4 by omega), Bool.true_and, Bool.true_and, List.all_map]
  refine List.all_eq_true.mpr fun ws hw => ?_
  have gw := g.all ws hw
  have p1 := gw.pos
  have p2 := gw.le
  show worthsB (.tup (ws.map D.int)) = true
  have hin : (ws.map D.int).all (inB (-9) 9) = true := by
    rw [List.all_map]
    refine List.all_eq_true.mpr fun x hx => ?_
    have := gw.lim x hx
    show (decide (-9 ≤ x) && decide (x ≤ 9)) = true
    rw [decide_eq_true this.1, decide_eq_true this.2]; rfl
  simp only [worthsB, hin, Bool.true_and, List.length_map, map_intOf]
  rw [decide_eq_true (show 1 ≤ ws.length by omega), decide_eq_true (show ws.length ≤ 4 by omega), decide_eq_true gw.rise]
  rfl
theorem rep_new {H : Hp} {p : Addr} {vs : List V} {ds : List D} (h : H p = none) (r : Reps H vs ds) : Rep (upd H p (.tup vs)) (.ref p) (.tup ds) := .tup upd_same (r.mono (same_new h _))
theorem repL_new' {H : Hp} {p : Addr} {vs : List V} {ds : List D} (h : H p = none) (r : Reps H vs ds) : Rep (upd H p (.lst vs)) (.ref p) (.lst ds) := .lst upd_same (r.mono (same_new h _))
theorem reps_rep {H : Hp} {v : V} {d : D} (r : Rep H v d) : ∀ n : Nat, Reps H (List.replicate n v) (List.replicate n d)
  | 0 => .nil
  | n + 1 => .cons r (reps_rep r n)
theorem ok_law (T : Txt K mg a) (G_l_open : FnOk P w K mg base CX0 1 a.l_open a.l_open_fd ["script"] (sp_open K)) (G_l_anew : FnOk P w K mg base CX0 1 a.l_anew a.l_anew_fd ["pen"] sp_anew)
    (G_l_stand : FnOk P w K mg base CX0 4 a.l_stand a.l_stand_fd ["pen", "names", "most"] sp_stand) (G_l_bent : FnOk P w K mg base CX0 6 a.l_bent a.l_bent_fd ["pen", "thing", "deep"] (sp_bent 3))
    (G_is_stand : FnOk P w K mg base CX0 5 a.is_stand a.is_stand_fd ["thing"] sp_standB) (G_l_is_stand : FnOk P w K mg base CX0 2 a.l_is_stand a.l_is_stand_fd ["thing"] sp_standB)
    (G_l_same : FnOk P w K mg base CX0 1 a.l_same a.l_same_fd ["found", "due"] sp_same) : FnOk P w K mg base CX0 7 a.law a.law_fd ["script"] (spLaw K) := by
  refine T.F_law.ok (k := 6) sc_law (fun vs H Q E h => ?_) (fun cdv A outer s H vs Q E hr h => ?_)
  · obtain ⟨l, ns, rfl, _⟩ := h
    rfl
  obtain ⟨l, ns, rfl, hS, h63, q⟩ := h
  have hu := hr.units
  refine ⟨_, (pss_cons (ps_set (i := 1) sc_law.nd rfl (by first | exact Or.inl rfl | exact Or.inr rfl) (pe_call G_l_open (hr.mono (by omega)) rfl T.m_l_open T.F_l_open.kp (b_l_open T) .nil pass0 (pa_c (pv 0) pa_nil)))
    (pss_cons (ps_for PassesOwn.never rfl (pi_range1 rfl T.z_range (pa_c pe_int pa_nil)) (pg_name (i := 2) sc_law.nd rfl (by first | exact Or.inl rfl | exact Or.inr rfl)) (pss_cons (ps_set (i := 3) sc_law.nd rfl (by first | exact Or.inl rfl | exact Or.inr rfl) (pe_call G_l_stand (hr.mono (by omega)) rfl T.m_l_stand T.F_l_stand.kp (b_l_stand T) .nil pass0 (pa_c (pe_call G_l_anew (hr.mono (by omega)) rfl T.m_l_anew T.F_l_anew.kp (b_l_anew T) .nil pass0 (pa_c (pv 1) pa_nil)) (pa_c pe_int (pa_c pe_int pa_nil)))))
    (pss_cons (ps_if (pt_cmpR op_isntH (pe_call G_is_stand (hr.mono (by omega)) rfl T.m_is_stand T.F_is_stand.kp (b_is_stand T) .nil pass0 (pa_c (pv 3) pa_nil)) pe_bl (nomark _)) (pss_one (ps_ret pe_bl)) pss_nil)
    (pss_one (ps_for PassesOwn.never rfl (pi_range1 rfl T.z_range (pa_c pe_int pa_nil)) (pg_name (i := 4) sc_law.nd rfl (by first | exact Or.inl rfl | exact Or.inr rfl)) (pss_cons (ps_set (i := 5) sc_law.nd rfl (by first | exact Or.inl rfl | exact Or.inr rfl) (pe_call G_l_bent (hr.mono (by omega)) rfl T.m_l_bent T.F_l_bent.kp (b_l_bent T) .nil pass0 (pa_c (pv 1) (pa_c (pv 3) (pa_c pe_int pa_nil)))))
    (pss_cons (ps_if (pt_cmpR (op_eqH hu) (pv 4) pe_int (nomark _)) (pss_one (ps_set (i := 5) sc_law.nd rfl (by first | exact Or.inl rfl | exact Or.inr rfl) (pe_call G_l_bent (hr.mono (by omega)) rfl T.m_l_bent T.F_l_bent.kp (b_l_bent T) .nil pass0 (pa_c (pv 1) (pa_c (pv 5) (pa_c pe_int pa_nil)))))) pss_nil)
    (pss_one (ps_if (pt_not (pt_val (pe_call G_l_same (hr.mono (by omega)) rfl T.m_l_same T.F_l_same.kp (b_l_same T) .nil pass0 (pa_c (pe_call G_is_stand (hr.mono (by omega)) rfl T.m_is_stand T.F_is_stand.kp (b_is_stand T) .nil pass0 (pa_c (pv 5) pa_nil)) (pa_c (pe_call G_l_is_stand (hr.mono (by omega)) rfl T.m_l_is_stand T.F_l_is_stand.kp (b_l_is_stand T) .nil pass0 (pa_c (pv 5) pa_nil)) pa_nil))))) (pss_one (ps_ret pe_bl)) pss_nil)))))))))
    (@pss_cons _ _ _ _ _ (@ps_set _ _ 6 _ _ _ _ sc_law.nd rfl (by first | exact Or.inl rfl | exact Or.inr rfl) (@pe_lstW _ _ _ _ (pl_c pe_non (pl_c pe_int (pl_c pe_str (pl_c (pe_lst pa_nil) (pl_c (pe_tup pa_nil) (pl_c (@pe_tupW _ _ _ _ _ (pl_c (pe_tup pa_nil) pl_nil)) (pl_c (@pe_tupW _ _ _ _ _ (pl_c (pe_tup (pa_c pe_int (pa_c pe_int pa_nil))) (pl_c (pe_tup pa_nil) pl_nil))) (pl_c (pe_lst (pa_c (pe_tup (pa_c pe_int pa_nil)) pa_nil)) (pl_c (pe_op op_repT (@pe_tupW _ _ _ _ _ (pl_c (pe_tup (pa_c pe_int pa_nil)) pl_nil)) pe_int) (pl_c (pe_op op_repT (@pe_tupW _ _ _ _ _ (pl_c (pe_tup (pa_c (pe_un un_neg pe_int) (pa_c pe_int pa_nil))) pl_nil)) pe_int) (pl_c (@pe_tupW _ _ _ _ _ (pl_c (pe_tup (pa_c pe_int pa_nil)) pl_nil)) (pl_c (@pe_tupW _ _ _ _ _ (pl_c (pe_tup (pa_c (pe_un un_neg pe_int) pa_nil)) pl_nil)) pl_nil))))))))))))) (by rfl) (by first | exact .inl rfl | exact .inr rfl))
    (@pss_cons _ _ _ _ _ (ps_for PassesOwn.never rfl (pi_seqH (pe_op op_addH (pv 6) (pe_lst (pa_c (@pe_tupW _ _ _ _ _ (pl_c (pe_tup (pa_c pe_int (pa_c pe_int (pa_c pe_int (pa_c pe_int pa_nil))))) pl_nil)) (pa_c (@pe_tupW _ _ _ _ _ (pl_c (@pe_tupW _ _ _ _ _ (pl_c pe_int (pl_c pe_int (pl_c pe_int (pl_c pe_int (pl_c pe_int pl_nil)))))) pl_nil)) pa_nil))))) (pg_name (i := 5) sc_law.nd rfl (by first | exact Or.inl rfl | exact Or.inr rfl)) (pss_one (ps_if (pt_not (pt_val (pe_call G_l_same (hr.mono (by omega)) rfl T.m_l_same T.F_l_same.kp (b_l_same T) .nil pass0 (pa_c (pe_call G_is_stand (hr.mono (by omega)) rfl T.m_is_stand T.F_is_stand.kp (b_is_stand T) .nil pass0 (pa_c (pv 5) pa_nil)) (pa_c (pe_call G_l_is_stand (hr.mono (by omega)) rfl T.m_l_is_stand T.F_l_is_stand.kp (b_l_is_stand T) .nil pass0 (pa_c (pv 5) pa_nil)) pa_nil))))) (pss_one (ps_ret pe_bl)) pss_nil)))
    (pss_one (ps_ret pe_bl)))))), ?_⟩
  walk_at "go"; walk_at "ex"
  refine ⟨l, ns, rfl, hS, h63, fun p c H1 s1 hp hc pen => ?_⟩
  walk_at "ex"; walk_at "st"
  refine ⟨by decide, by decide, ?_⟩
  refine ForW.range (fun i σ H' => ∃ o2 o3 o4 o5 : Option V, σ = [some (.ref l), some (.ref p), o2, o3, o4, o5, none] ∧ Pen H' p c) ?_ ?_ ?_
  · exact ⟨_, _, _, _, rfl, pen⟩
  · rintro i σ H2 hi ⟨o2, o3, o4, o5, rfl, pen2⟩
    walk_at "ex"; walk_at "st"
    refine ⟨p, c, rfl, pen2, fun H3 k3 pen3 => ?_⟩
    walk_at "ex"
    refine ⟨p, c, 4, 4, rfl, pen3, by decide, by decide, by decide, by decide, fun v wss H4 k4 pen4 rs good => ?_⟩
    obtain ⟨sw, sd⟩ := stand_wid good
    walk_at "ex"; walk_at "st"
    refine ⟨v, standD wss, rfl, rs.mono (hide_le _ _), by omega, fun H5 s5 => ?_⟩
    rw [stand_ok good]
    walk_at "ex"
    have pen5 := pen4.keep s5
    have rs5 := rs.mono (hide_mono (l := [p]) s5)
    simp only [bne_self_eq_false, Bool.false_eq_true, ↓reduceIte]
    walk_at "ex"
    refine ⟨by decide, by decide, ?_⟩
    refine ForW.range (fun k σ H' => ∃ o4 o5 : Option V, σ = [some (.ref l), some (.ref p), some (.int (0 + (i : Int))), some v, o4, o5, none] ∧ Pen H' p c ∧ Keep p H5 H') ?_ ?_ ?_
    · exact ⟨_, _, rfl, pen5, Keep.refl p H5⟩
    · rintro k σ H6 hk ⟨p4, p5, rfl, pen6, k6⟩
      walk_at "ex"; walk_at "st"
      refine ⟨p, c, [p], v, standD wss, 2, rfl, pen6, by simp, pen6.tr, rs5.mono (k6.hide (l := [p]) (by simp)), ⟨by omega, by omega⟩, by decide, by decide, fun v1 d1 H7 k7 pen7 r7 bw7 bd7 => ?_⟩
      walk_at "ex"
      refine seq_cut (fun σ H' => ∃ (v2 : V) (d2 : D), σ = [some (.ref l), some (.ref p), some (.int (0 + (i : Int))), some v, some (.int (0 + (k : Int))), some v2, none] ∧ Rep (hide [p] H') v2 d2 ∧ wid d2 ≤ 400 ∧ Pen H' p c ∧ Keep p H5 H') ?_ ?_
      · rintro σ H8 ⟨v2, d2, rfl, r8, w8, pen8, k8⟩
        have r8' := r8.mono (hide_le _ _)
        walk_at "ex"
        refine ⟨v2, d2, rfl, r8', w8, fun J1 z1 => ?_⟩
        walk_at "ex"
        refine ⟨v2, d2, rfl, r8'.mono z1, w8, fun J2 z2 => ?_⟩
        walk_at "ex"
        refine ⟨_, _, rfl, ?_⟩
        walk_at "ex"
        exact ⟨_, _, ⟨rfl, rfl⟩, pen8.keep (z1.trans z2), k8.trans (Keep.of (z1.trans z2))⟩
      · intro nx hnx
        walk_at "ex"
        split
        · refine ⟨p, c, [p], v1, d1, 2, rfl, pen7, by simp, pen7.tr, r7, ⟨by omega, by omega⟩, by decide, by decide, fun v2 d2 H8 k8 pen8 r8 bw8 bd8 => ?_⟩
          walk_at "ex"
          exact hnx _ _ ⟨v2, d2, rfl, r8, by omega, pen8, k6.trans (k7.trans k8)⟩
        · exact hnx _ _ ⟨v1, d1, rfl, r7, by omega, pen7, k6.trans k7⟩
    · rintro σ H6 ⟨p4, p5, rfl, pen6, k6⟩
      exact ⟨_, _, _, _, rfl, pen6⟩
  · rintro σ H2 ⟨o2, o3, o4, o5, rfl, pen2⟩
    walk_at "st"
    refine ⟨small (by simp), fun a1 h1 => ?_⟩
    have s1 := same_new h1 (.lst [])
    have r1 : Rep (upd H2 a1 (.lst [])) (.ref a1) (.lst []) := repL_new' h1 .nil
    generalize upd H2 a1 (.lst []) = G1 at s1 r1 ⊢
    clear s1 h1
    refine ⟨small (by simp), fun a2 h2 => ?_⟩
    have s2 := same_new h2 (.tup [])
    have r2 : Rep (upd G1 a2 (.tup [])) (.ref a2) (.tup []) := rep_new h2 .nil
    replace r1 := r1.mono s2
    generalize upd G1 a2 (.tup []) = G2 at s2 r2 r1 ⊢
    clear s2 h2
    refine ⟨small (by simp), fun a3 h3 => ?_⟩
    have s3 := same_new h3 (.tup [])
    have r3 : Rep (upd G2 a3 (.tup [])) (.ref a3) (.tup []) := rep_new h3 .nil
    replace r1 := r1.mono s3
    replace r2 := r2.mono s3
    generalize upd G2 a3 (.tup []) = G3 at s3 r3 r1 r2 ⊢
    clear s3 h3
    refine ⟨small (by simp), fun a4 h4 => ?_⟩
    have s4 := same_new h4 (.tup [.ref a3])
    have r4 : Rep (upd G3 a4 (.tup [.ref a3])) (.ref a4) (.tup [.tup []]) := rep_new h4 (.cons r3 .nil)
    replace r1 := r1.mono s4
    replace r2 := r2.mono s4
    replace r3 := r3.mono s4
    generalize upd G3 a4 (.tup [.ref a3]) = G4 at s4 r4 r1 r2 r3 ⊢
    clear s4 h4
    clear r3
    refine ⟨small (by simp), fun a5 h5 => ?_⟩
    have s5 := same_new h5 (.tup [.int 1, .int 2])
    have r5 : Rep (upd G4 a5 (.tup [.int 1, .int 2])) (.ref a5) (.tup [.int 1, .int 2]) := rep_new h5 (.cons (.int _) (.cons (.int _) .nil))
    replace r1 := r1.mono s5
    replace r2 := r2.mono s5
    replace r4 := r4.mono s5
    generalize upd G4 a5 (.tup [.int 1, .int 2]) = G5 at s5 r5 r1 r2 r4 ⊢
    clear s5 h5
    refine ⟨small (by simp), fun a6 h6 => ?_⟩
    have s6 := same_new h6 (.tup [])
    have r6 : Rep (upd G5 a6 (.tup [])) (.ref a6) (.tup []) := rep_new h6 .nil
    replace r1 := r1.mono s6
    replace r2 := r2.mono s6
    replace r4 := r4.mono s6
    replace r5 := r5.mono s6
    generalize upd G5 a6 (.tup []) = G6 at s6 r6 r1 r2 r4 r5 ⊢
    clear s6 h6
    refine ⟨small (by simp), fun a7 h7 => ?_⟩
    have s7 := same_new h7 (.tup [.ref a5, .ref a6])
    have r7 : Rep (upd G6 a7 (.tup [.ref a5, .ref a6])) (.ref a7) (.tup [.tup [.int 1, .int 2], .tup []]) := rep_new h7 (.cons r5 (.cons r6 .nil))
    replace r1 := r1.mono s7
    replace r2 := r2.mono s7
    replace r4 := r4.mono s7
    replace r5 := r5.mono s7
    replace r6 := r6.mono s7
    generalize upd G6 a7 (.tup [.ref a5, .ref a6]) = G7 at s7 r7 r1 r2 r4 r5 r6 ⊢
    clear s7 h7
    clear r5
    clear r6
    refine ⟨small (by simp), fun a8 h8 => ?_⟩
    have s8 := same_new h8 (.tup [.int 1])
    have r8 : Rep (upd G7 a8 (.tup [.int 1])) (.ref a8) (.tup [.int 1]) := rep_new h8 (.cons (.int _) .nil)
    replace r1 := r1.mono s8
    replace r2 := r2.mono s8
    replace r4 := r4.mono s8
    replace r7 := r7.mono s8
    generalize upd G7 a8 (.tup [.int 1]) = G8 at s8 r8 r1 r2 r4 r7 ⊢
    clear s8 h8
    refine ⟨small (by simp), fun a9 h9 => ?_⟩
    have s9 := same_new h9 (.lst [.ref a8])
    have r9 : Rep (upd G8 a9 (.lst [.ref a8])) (.ref a9) (.lst [.tup [.int 1]]) := repL_new' h9 (.cons r8 .nil)
    replace r1 := r1.mono s9
    replace r2 := r2.mono s9
    replace r4 := r4.mono s9
    replace r7 := r7.mono s9
    replace r8 := r8.mono s9
    generalize upd G8 a9 (.lst [.ref a8]) = G9 at s9 r9 r1 r2 r4 r7 r8 ⊢
    clear s9 h9
    clear r8
    refine ⟨small (by simp), fun a10 h10 => ?_⟩
    have s10 := same_new h10 (.tup [.int 1])
    have r10 : Rep (upd G9 a10 (.tup [.int 1])) (.ref a10) (.tup [.int 1]) := rep_new h10 (.cons (.int _) .nil)
    replace r1 := r1.mono s10
    replace r2 := r2.mono s10
    replace r4 := r4.mono s10
    replace r7 := r7.mono s10
    replace r9 := r9.mono s10
    generalize upd G9 a10 (.tup [.int 1]) = G10 at s10 r10 r1 r2 r4 r7 r9 ⊢
    clear s10 h10
    refine ⟨small (by simp), fun a11 h11 => ?_⟩
    have s11 := same_new h11 (.tup [.ref a10])
    have r11 : Rep (upd G10 a11 (.tup [.ref a10])) (.ref a11) (.tup [.tup [.int 1]]) := rep_new h11 (.cons r10 .nil)
    replace r1 := r1.mono s11
    replace r2 := r2.mono s11
    replace r4 := r4.mono s11
    replace r7 := r7.mono s11
    replace r9 := r9.mono s11
    replace r10 := r10.mono s11
    have g11 : upd G10 a11 (.tup [.ref a10]) a11 = some (.tup [.ref a10]) := upd_same
    generalize upd G10 a11 (.tup [.ref a10]) = G11 at s11 r11 r1 r2 r4 r7 r9 r10 g11 ⊢
    clear s11 h11
    clear r11
    refine ⟨a11, 5, .ref a10, rfl, rfl, g11, by decide, by decide, fun a12 h12 => ?_⟩
    have s12 := same_new h12 (.tup (List.replicate (5 : Int).toNat (.ref a10)))
    have r12 : Rep (upd G11 a12 (.tup (List.replicate (5 : Int).toNat (.ref a10)))) (.ref a12) (.tup (List.replicate (5 : Int).toNat (.tup [.int 1]))) := rep_new h12 (reps_rep r10 _)
    replace r1 := r1.mono s12
    replace r2 := r2.mono s12
    replace r4 := r4.mono s12
    replace r7 := r7.mono s12
    replace r9 := r9.mono s12
    replace r10 := r10.mono s12
    replace g11 := s12 _ _ g11
    generalize upd G11 a12 (.tup (List.replicate (5 : Int).toNat (.ref a10))) = G12 at s12 r12 r1 r2 r4 r7 r9 r10 g11 ⊢
    clear s12 h12
    clear r10
    clear g11
    walk_at "ex"
    refine ⟨small (by simp), fun a13 h13 => ?_⟩
    have s13 := same_new h13 (.tup [.int (-9), .int 9])
    have r13 : Rep (upd G12 a13 (.tup [.int (-9), .int 9])) (.ref a13) (.tup [.int (-9), .int 9]) := rep_new h13 (.cons (.int _) (.cons (.int _) .nil))
    replace r1 := r1.mono s13
    replace r2 := r2.mono s13
    replace r4 := r4.mono s13
    replace r7 := r7.mono s13
    replace r9 := r9.mono s13
    replace r12 := r12.mono s13
    generalize upd G12 a13 (.tup [.int (-9), .int 9]) = G13 at s13 r13 r1 r2 r4 r7 r9 r12 ⊢
    clear s13 h13
    refine ⟨small (by simp), fun a14 h14 => ?_⟩
    have s14 := same_new h14 (.tup [.ref a13])
    have r14 : Rep (upd G13 a14 (.tup [.ref a13])) (.ref a14) (.tup [.tup [.int (-9), .int 9]]) := rep_new h14 (.cons r13 .nil)
    replace r1 := r1.mono s14
    replace r2 := r2.mono s14
    replace r4 := r4.mono s14
    replace r7 := r7.mono s14
    replace r9 := r9.mono s14
    replace r12 := r12.mono s14
    replace r13 := r13.mono s14
    have g14 : upd G13 a14 (.tup [.ref a13]) a14 = some (.tup [.ref a13]) := upd_same
    generalize upd G13 a14 (.tup [.ref a13]) = G14 at s14 r14 r1 r2 r4 r7 r9 r12 r13 g14 ⊢
    clear s14 h14
    clear r14
    refine ⟨a14, 4, .ref a13, rfl, rfl, g14, by decide, by decide, fun a15 h15 => ?_⟩
    have s15 := same_new h15 (.tup (List.replicate (4 : Int).toNat (.ref a13)))
    have r15 : Rep (upd G14 a15 (.tup (List.replicate (4 : Int).toNat (.ref a13)))) (.ref a15) (.tup (List.replicate (4 : Int).toNat (.tup [.int (-9), .int 9]))) := rep_new h15 (reps_rep r13 _)
    replace r1 := r1.mono s15
    replace r2 := r2.mono s15
    replace r4 := r4.mono s15
    replace r7 := r7.mono s15
    replace r9 := r9.mono s15
    replace r12 := r12.mono s15
    replace r13 := r13.mono s15
    replace g14 := s15 _ _ g14
    generalize upd G14 a15 (.tup (List.replicate (4 : Int).toNat (.ref a13))) = G15 at s15 r15 r1 r2 r4 r7 r9 r12 r13 g14 ⊢
    clear s15 h15
    clear r13
    clear g14
    walk_at "ex"
    refine ⟨small (by simp), fun a16 h16 => ?_⟩
    have s16 := same_new h16 (.tup [.int 10])
    have r16 : Rep (upd G15 a16 (.tup [.int 10])) (.ref a16) (.tup [.int 10]) := rep_new h16 (.cons (.int _) .nil)
    replace r1 := r1.mono s16
    replace r2 := r2.mono s16
    replace r4 := r4.mono s16
    replace r7 := r7.mono s16
    replace r9 := r9.mono s16
    replace r12 := r12.mono s16
    replace r15 := r15.mono s16
    generalize upd G15 a16 (.tup [.int 10]) = G16 at s16 r16 r1 r2 r4 r7 r9 r12 r15 ⊢
    clear s16 h16
    refine ⟨small (by simp), fun a17 h17 => ?_⟩
    have s17 := same_new h17 (.tup [.ref a16])
    have r17 : Rep (upd G16 a17 (.tup [.ref a16])) (.ref a17) (.tup [.tup [.int 10]]) := rep_new h17 (.cons r16 .nil)
    replace r1 := r1.mono s17
    replace r2 := r2.mono s17
    replace r4 := r4.mono s17
    replace r7 := r7.mono s17
    replace r9 := r9.mono s17
    replace r12 := r12.mono s17
    replace r15 := r15.mono s17
    replace r16 := r16.mono s17
    generalize upd G16 a17 (.tup [.ref a16]) = G17 at s17 r17 r1 r2 r4 r7 r9 r12 r15 r16 ⊢
    clear s17 h17
    clear r16
    refine ⟨small (by simp), fun a18 h18 => ?_⟩
    have s18 := same_new h18 (.tup [.int (-10)])
    have r18 : Rep (upd G17 a18 (.tup [.int (-10)])) (.ref a18) (.tup [.int (-10)]) := rep_new h18 (.cons (.int _) .nil)
    replace r1 := r1.mono s18
    replace r2 := r2.mono s18
    replace r4 := r4.mono s18
    replace r7 := r7.mono s18
    replace r9 := r9.mono s18
    replace r12 := r12.mono s18
    replace r15 := r15.mono s18
    replace r17 := r17.mono s18
    generalize upd G17 a18 (.tup [.int (-10)]) = G18 at s18 r18 r1 r2 r4 r7 r9 r12 r15 r17 ⊢
    clear s18 h18
    refine ⟨small (by simp), fun a19 h19 => ?_⟩
    have s19 := same_new h19 (.tup [.ref a18])
    have r19 : Rep (upd G18 a19 (.tup [.ref a18])) (.ref a19) (.tup [.tup [.int (-10)]]) := rep_new h19 (.cons r18 .nil)
    replace r1 := r1.mono s19
    replace r2 := r2.mono s19
    replace r4 := r4.mono s19
    replace r7 := r7.mono s19
    replace r9 := r9.mono s19
    replace r12 := r12.mono s19
    replace r15 := r15.mono s19
    replace r17 := r17.mono s19
    replace r18 := r18.mono s19
    generalize upd G18 a19 (.tup [.ref a18]) = G19 at s19 r19 r1 r2 r4 r7 r9 r12 r15 r17 r18 ⊢
    clear s19 h19
    clear r18
    have R0 : Reps G19 [.non, .int 7, .str "stand", .ref a1, .ref a2, .ref a4, .ref a7, .ref a9, .ref a12, .ref a15, .ref a17, .ref a19] [.non, .int 7, .str "stand", .lst [], .tup [], .tup [.tup []], .tup [.tup [.int 1, .int 2], .tup []], .lst [.tup [.int 1]], .tup (List.replicate (5 : Int).toNat (.tup [.int 1])), .tup (List.replicate (4 : Int).toNat (.tup [.int (-9), .int 9])), .tup [.tup [.int 10]], .tup [.tup [.int (-10)]]] := (.cons .non (.cons (.int _) (.cons (.str _) (.cons r1 (.cons r2 (.cons r4 (.cons r7 (.cons r9 (.cons r12 (.cons r15 (.cons r17 (.cons r19 .nil))))))))))))
    generalize hvs : ([.non, .int 7, .str "stand", .ref a1, .ref a2, .ref a4, .ref a7, .ref a9, .ref a12, .ref a15, .ref a17, .ref a19] : List V) = vs0 at R0 ⊢
    generalize hds : ([.non, .int 7, .str "stand", .lst [], .tup [], .tup [.tup []], .tup [.tup [.int 1, .int 2], .tup []], .lst [.tup [.int 1]], .tup (List.replicate (5 : Int).toNat (.tup [.int 1])), .tup (List.replicate (4 : Int).toNat (.tup [.int (-9), .int 9])), .tup [.tup [.int 10]], .tup [.tup [.int (-10)]]] : List D) = ds0 at R0
    have lv0 : vs0.length = 12 := by rw [← hvs]; rfl
    have wd0 : ∀ d ∈ ds0, wid d ≤ 400 := by
      intro d hd
      rw [← hds] at hd
      simp only [List.mem_cons, List.not_mem_nil, or_false] at hd
      rcases hd with rfl | rfl | rfl | rfl | rfl | rfl | rfl | rfl | rfl | rfl | rfl | rfl <;> decide
    clear hvs hds r1 r2 r4 r7 r9 r12 r15 r17 r19
    refine ⟨by rw [lv0]; exact small (by decide), fun a20 h20 => ?_⟩
    have s20 := same_new h20 (.lst vs0)
    replace R0 := R0.mono s20
    have g20 : upd G19 a20 (.lst vs0) a20 = some (.lst vs0) := upd_same
    generalize upd G19 a20 (.lst vs0) = G20 at s20 R0 g20 ⊢
    clear s20 h20
    walk_at "st"
    refine ⟨small (by simp), fun a21 h21 => ?_⟩
    have s21 := same_new h21 (.tup [.int 1, .int 2, .int 3, .int 4])
    have r21 : Rep (upd G20 a21 (.tup [.int 1, .int 2, .int 3, .int 4])) (.ref a21) (.tup [.int 1, .int 2, .int 3, .int 4]) := rep_new h21 (.cons (.int _) (.cons (.int _) (.cons (.int _) (.cons (.int _) .nil))))
    replace g20 := s21 _ _ g20
    replace R0 := R0.mono s21
    generalize upd G20 a21 (.tup [.int 1, .int 2, .int 3, .int 4]) = G21 at s21 r21 g20 R0 ⊢
    clear s21 h21
    refine ⟨small (by simp), fun a22 h22 => ?_⟩
    have s22 := same_new h22 (.tup [.ref a21])
    have r22 : Rep (upd G21 a22 (.tup [.ref a21])) (.ref a22) (.tup [.tup [.int 1, .int 2, .int 3, .int 4]]) := rep_new h22 (.cons r21 .nil)
    replace r21 := r21.mono s22
    replace g20 := s22 _ _ g20
    replace R0 := R0.mono s22
    generalize upd G21 a22 (.tup [.ref a21]) = G22 at s22 r22 r21 g20 R0 ⊢
    clear s22 h22
    clear r21
    refine ⟨small (by simp), fun a23 h23 => ?_⟩
    have s23 := same_new h23 (.tup [.int 1, .int 2, .int 3, .int 4, .int 5])
    have r23 : Rep (upd G22 a23 (.tup [.int 1, .int 2, .int 3, .int 4, .int 5])) (.ref a23) (.tup [.int 1, .int 2, .int 3, .int 4, .int 5]) := rep_new h23 (.cons (.int _) (.cons (.int _) (.cons (.int _) (.cons (.int _) (.cons (.int _) .nil)))))
    replace r22 := r22.mono s23
    replace g20 := s23 _ _ g20
    replace R0 := R0.mono s23
    generalize upd G22 a23 (.tup [.int 1, .int 2, .int 3, .int 4, .int 5]) = G23 at s23 r23 r22 g20 R0 ⊢
    clear s23 h23
    refine ⟨small (by simp), fun a24 h24 => ?_⟩
    have s24 := same_new h24 (.tup [.ref a23])
    have r24 : Rep (upd G23 a24 (.tup [.ref a23])) (.ref a24) (.tup [.tup [.int 1, .int 2, .int 3, .int 4, .int 5]]) := rep_new h24 (.cons r23 .nil)
    replace r22 := r22.mono s24
    replace r23 := r23.mono s24
    replace g20 := s24 _ _ g20
    replace R0 := R0.mono s24
    generalize upd G23 a24 (.tup [.ref a23]) = G24 at s24 r24 r22 r23 g20 R0 ⊢
    clear s24 h24
    clear r23
    have R1 : Reps G24 [.ref a22, .ref a24] [.tup [.tup [.int 1, .int 2, .int 3, .int 4]], .tup [.tup [.int 1, .int 2, .int 3, .int 4, .int 5]]] := .cons r22 (.cons r24 .nil)
    refine ⟨small (by simp), fun a25 h25 => ?_⟩
    have s25 := same_new h25 (.lst [.ref a22, .ref a24])
    refine .inr ⟨a20, a25, rfl, rfl, .inr ⟨_, _, s25 _ _ g20, upd_same, by rw [lv0]; exact small (by simp), fun a26 h26 => ?_⟩⟩
    have s26 := same_new h26 (.lst (vs0 ++ [.ref a22, .ref a24]))
    refine ⟨a26, rfl, .inr ⟨_, upd_same, ?_⟩⟩
    have RA := ((R0.append R1).mono s25).mono s26
    have g26 : upd (upd G24 a25 (.lst [.ref a22, .ref a24])) a26 (.lst (vs0 ++ [.ref a22, .ref a24])) a26 = some (.lst (vs0 ++ [.ref a22, .ref a24])) := upd_same
    generalize upd (upd G24 a25 (.lst [.ref a22, .ref a24])) a26 (.lst (vs0 ++ [.ref a22, .ref a24])) = G26 at RA g26 ⊢
    have wdA : ∀ d ∈ ds0 ++ [.tup [.tup [.int 1, .int 2, .int 3, .int 4]], .tup [.tup [.int 1, .int 2, .int 3, .int 4, .int 5]]], wid d ≤ 400 := by
      intro d hd
      rcases List.mem_append.mp hd with z | z
      · exact wd0 d z
      · simp only [List.mem_cons, List.not_mem_nil, or_false] at z
        rcases z with rfl | rfl <;> decide
    refine ForW.list (xs := vs0 ++ [.ref a22, .ref a24]) (fun j σ H' => ∃ o5 : Option V, σ = [some (.ref l), some (.ref p), o2, o3, o4, o5, some (.ref a20)] ∧ Same G26 H') ?_ ?_ ?_ ?_
    · exact ⟨_, rfl, Same.refl G26⟩
    · rintro j σ H8 hj ⟨q5, rfl, s8⟩
      exact s8 _ _ g26
    · rintro j x σ H8 hx ⟨q5, rfl, s8⟩
      obtain ⟨d, ed, rd⟩ := RA.get hx
      have w8 := wdA d (List.mem_of_getElem? ed)
      have r8 := rd.mono s8
      walk_at "ex"
      refine ⟨x, d, rfl, r8, w8, fun J1 z1 => ?_⟩
      walk_at "ex"
      refine ⟨x, d, rfl, r8.mono z1, w8, fun J2 z2 => ?_⟩
      walk_at "ex"
      refine ⟨_, _, rfl, ?_⟩
      walk_at "ex"
      exact s8.trans (z1.trans z2)
    · rintro σ H8 ⟨q5, rfl, s8⟩
      walk_at "ex"
      exact q _
theorem ok_all (T : Txt K mg a) : FnOk P w K mg base CX0 7 a.law a.law_fd ["script"] (spLaw K) := by
  have tk := ok_l_take (P := P) (w := w) (base := base) T (ok_l_spread T)
  have iw := ok_l_is_whole (P := P) (w := w) (base := base) T
  have wo := ok_l_worths (P := P) (w := w) (base := base) T tk
  have b1 := ok_l_bent (n := 0) (P := P) (w := w) (base := base) T tk iw bent_none
  have b2 := ok_l_bent (n := 1) (P := P) (w := w) (base := base) T tk iw b1
  have b3 := ok_l_bent (n := 2) (P := P) (w := w) (base := base) T tk iw b2
  exact ok_law T (ok_l_open T) (ok_l_anew T) (ok_l_stand T tk wo) b3 (ok_is_stand T (ok_are_worths T (ok_are_within T (ok_is_within T (ok_is_whole T))) (ok_are_rising T))) (ok_l_is_stand T iw) (ok_l_same T)
end
theorem all_mk {l : PySem.W.OpenLaw} {w : World} {K : PySem.W.Frag} {h : Heap} {mg : Str → Option Value} {fa : Addr} (X : K.In h) (G : h.Ns mainGlobals mg) (hfa : mg "law" = some (.ref fa))
    {f0 : Addr} {od0 an0 : Option Addr} {sl0 : Array (Option Value)} {oc0 kV0 dc0 pm0 cd0 ct0 : Value}
    (a0 : PySem.W.nsIn K mainGlobals "is_whole" = some (some (.ref f0))) (l0 : K.lookup f0 = some ⟨oc0, od0, .func (PySem.W.fnOf "is_whole" "is_whole" (defArgs s_is_whole) (defBody s_is_whole) (defScope s_is_whole) .none kV0 dc0 pm0 an0 cd0 ct0), sl0⟩) (c0 : PySem.W.codeIn K cd0 "is_whole" = true) (k0 : PySem.W.keepIn K (.ref f0) = true)
    {f1 : Addr} {od1 an1 : Option Addr} {sl1 : Array (Option Value)} {oc1 kV1 dc1 pm1 cd1 ct1 : Value}
    (a1 : PySem.W.nsIn K mainGlobals "is_within" = some (some (.ref f1))) (l1 : K.lookup f1 = some ⟨oc1, od1, .func (PySem.W.fnOf "is_within" "is_within" (defArgs s_is_within) (defBody s_is_within) (defScope s_is_within) .none kV1 dc1 pm1 an1 cd1 ct1), sl1⟩) (c1 : PySem.W.codeIn K cd1 "is_within" = true) (k1 : PySem.W.keepIn K (.ref f1) = true)
    {f2 : Addr} {od2 an2 : Option Addr} {sl2 : Array (Option Value)} {oc2 kV2 dc2 pm2 cd2 ct2 : Value}
    (a2 : PySem.W.nsIn K mainGlobals "are_within" = some (some (.ref f2))) (l2 : K.lookup f2 = some ⟨oc2, od2, .func (PySem.W.fnOf "are_within" "are_within" (defArgs s_are_within) (defBody s_are_within) (defScope s_are_within) .none kV2 dc2 pm2 an2 cd2 ct2), sl2⟩) (c2 : PySem.W.codeIn K cd2 "are_within" = true) (k2 : PySem.W.keepIn K (.ref f2) = true)
    {f3 : Addr} {od3 an3 : Option Addr} {sl3 : Array (Option Value)} {oc3 kV3 dc3 pm3 cd3 ct3 : Value}
    (a3 : PySem.W.nsIn K mainGlobals "are_rising" = some (some (.ref f3))) (l3 : K.lookup f3 = some ⟨oc3, od3, .func (PySem.W.fnOf "are_rising" "are_rising" (defArgs s_are_rising) (defBody s_are_rising) (defScope s_are_rising) .none kV3 dc3 pm3 an3 cd3 ct3), sl3⟩) (c3 : PySem.W.codeIn K cd3 "are_rising" = true) (k3 : PySem.W.keepIn K (.ref f3) = true)
    {f4 : Addr} {od4 an4 : Option Addr} {sl4 : Array (Option Value)} {oc4 kV4 dc4 pm4 cd4 ct4 : Value}
    (a4 : PySem.W.nsIn K mainGlobals "are_worths" = some (some (.ref f4))) (l4 : K.lookup f4 = some ⟨oc4, od4, .func (PySem.W.fnOf "are_worths" "are_worths" (defArgs s_are_worths) (defBody s_are_worths) (defScope s_are_worths) .none kV4 dc4 pm4 an4 cd4 ct4), sl4⟩) (c4 : PySem.W.codeIn K cd4 "are_worths" = true) (k4 : PySem.W.keepIn K (.ref f4) = true)
    {f5 : Addr} {od5 an5 : Option Addr} {sl5 : Array (Option Value)} {oc5 kV5 dc5 pm5 cd5 ct5 : Value}
    (a5 : PySem.W.nsIn K mainGlobals "is_stand" = some (some (.ref f5))) (l5 : K.lookup f5 = some ⟨oc5, od5, .func (PySem.W.fnOf "is_stand" "is_stand" (defArgs s_is_stand) (defBody s_is_stand) (defScope s_is_stand) .none kV5 dc5 pm5 an5 cd5 ct5), sl5⟩) (c5 : PySem.W.codeIn K cd5 "is_stand" = true) (k5 : PySem.W.keepIn K (.ref f5) = true)
    {f6 : Addr} {od6 an6 : Option Addr} {sl6 : Array (Option Value)} {oc6 kV6 dc6 pm6 cd6 ct6 : Value}
    (a6 : PySem.W.nsIn K mainGlobals "_law_spread" = some (some (.ref f6))) (l6 : K.lookup f6 = some ⟨oc6, od6, .func (PySem.W.fnOf "_law_spread" "_law_spread" (defArgs s_l_spread) (defBody s_l_spread) (defScope s_l_spread) .none kV6 dc6 pm6 an6 cd6 ct6), sl6⟩) (c6 : PySem.W.codeIn K cd6 "_law_spread" = true) (k6 : PySem.W.keepIn K (.ref f6) = true)
    {f7 : Addr} {od7 an7 : Option Addr} {sl7 : Array (Option Value)} {oc7 kV7 dc7 pm7 cd7 ct7 : Value}
    (a7 : PySem.W.nsIn K mainGlobals "_law_open" = some (some (.ref f7))) (l7 : K.lookup f7 = some ⟨oc7, od7, .func (PySem.W.fnOf "_law_open" "_law_open" (defArgs s_l_open) (defBody s_l_open) (defScope s_l_open) .none kV7 dc7 pm7 an7 cd7 ct7), sl7⟩) (c7 : PySem.W.codeIn K cd7 "_law_open" = true) (k7 : PySem.W.keepIn K (.ref f7) = true)
    {f8 : Addr} {od8 an8 : Option Addr} {sl8 : Array (Option Value)} {oc8 kV8 dc8 pm8 cd8 ct8 : Value}
    (a8 : PySem.W.nsIn K mainGlobals "_law_anew" = some (some (.ref f8))) (l8 : K.lookup f8 = some ⟨oc8, od8, .func (PySem.W.fnOf "_law_anew" "_law_anew" (defArgs s_l_anew) (defBody s_l_anew) (defScope s_l_anew) .none kV8 dc8 pm8 an8 cd8 ct8), sl8⟩) (c8 : PySem.W.codeIn K cd8 "_law_anew" = true) (k8 : PySem.W.keepIn K (.ref f8) = true)
    {f9 : Addr} {od9 an9 : Option Addr} {sl9 : Array (Option Value)} {oc9 kV9 dc9 pm9 cd9 ct9 : Value}
    (a9 : PySem.W.nsIn K mainGlobals "_law_take" = some (some (.ref f9))) (l9 : K.lookup f9 = some ⟨oc9, od9, .func (PySem.W.fnOf "_law_take" "_law_take" (defArgs s_l_take) (defBody s_l_take) (defScope s_l_take) .none kV9 dc9 pm9 an9 cd9 ct9), sl9⟩) (c9 : PySem.W.codeIn K cd9 "_law_take" = true) (k9 : PySem.W.keepIn K (.ref f9) = true)
    {f10 : Addr} {od10 an10 : Option Addr} {sl10 : Array (Option Value)} {oc10 kV10 dc10 pm10 cd10 ct10 : Value}
    (a10 : PySem.W.nsIn K mainGlobals "_law_is_whole" = some (some (.ref f10))) (l10 : K.lookup f10 = some ⟨oc10, od10, .func (PySem.W.fnOf "_law_is_whole" "_law_is_whole" (defArgs s_l_is_whole) (defBody s_l_is_whole) (defScope s_l_is_whole) .none kV10 dc10 pm10 an10 cd10 ct10), sl10⟩) (c10 : PySem.W.codeIn K cd10 "_law_is_whole" = true) (k10 : PySem.W.keepIn K (.ref f10) = true)
    {f11 : Addr} {od11 an11 : Option Addr} {sl11 : Array (Option Value)} {oc11 kV11 dc11 pm11 cd11 ct11 : Value}
    (a11 : PySem.W.nsIn K mainGlobals "_law_same" = some (some (.ref f11))) (l11 : K.lookup f11 = some ⟨oc11, od11, .func (PySem.W.fnOf "_law_same" "_law_same" (defArgs s_l_same) (defBody s_l_same) (defScope s_l_same) .none kV11 dc11 pm11 an11 cd11 ct11), sl11⟩) (c11 : PySem.W.codeIn K cd11 "_law_same" = true) (k11 : PySem.W.keepIn K (.ref f11) = true)
    {f12 : Addr} {od12 an12 : Option Addr} {sl12 : Array (Option Value)} {oc12 kV12 dc12 pm12 cd12 ct12 : Value}
    (a12 : PySem.W.nsIn K mainGlobals "_law_worths" = some (some (.ref f12))) (l12 : K.lookup f12 = some ⟨oc12, od12, .func (PySem.W.fnOf "_law_worths" "_law_worths" (defArgs s_l_worths) (defBody s_l_worths) (defScope s_l_worths) .none kV12 dc12 pm12 an12 cd12 ct12), sl12⟩) (c12 : PySem.W.codeIn K cd12 "_law_worths" = true) (k12 : PySem.W.keepIn K (.ref f12) = true)
    {f13 : Addr} {od13 an13 : Option Addr} {sl13 : Array (Option Value)} {oc13 kV13 dc13 pm13 cd13 ct13 : Value}
    (a13 : PySem.W.nsIn K mainGlobals "_law_stand" = some (some (.ref f13))) (l13 : K.lookup f13 = some ⟨oc13, od13, .func (PySem.W.fnOf "_law_stand" "_law_stand" (defArgs s_l_stand) (defBody s_l_stand) (defScope s_l_stand) .none kV13 dc13 pm13 an13 cd13 ct13), sl13⟩) (c13 : PySem.W.codeIn K cd13 "_law_stand" = true) (k13 : PySem.W.keepIn K (.ref f13) = true)
    {f14 : Addr} {od14 an14 : Option Addr} {sl14 : Array (Option Value)} {oc14 kV14 dc14 pm14 cd14 ct14 : Value}
    (a14 : PySem.W.nsIn K mainGlobals "_law_is_stand" = some (some (.ref f14))) (l14 : K.lookup f14 = some ⟨oc14, od14, .func (PySem.W.fnOf "_law_is_stand" "_law_is_stand" (defArgs s_l_is_stand) (defBody s_l_is_stand) (defScope s_l_is_stand) .none kV14 dc14 pm14 an14 cd14 ct14), sl14⟩) (c14 : PySem.W.codeIn K cd14 "_law_is_stand" = true) (k14 : PySem.W.keepIn K (.ref f14) = true)
    {f15 : Addr} {od15 an15 : Option Addr} {sl15 : Array (Option Value)} {oc15 kV15 dc15 pm15 cd15 ct15 : Value}
    (a15 : PySem.W.nsIn K mainGlobals "_law_bent" = some (some (.ref f15))) (l15 : K.lookup f15 = some ⟨oc15, od15, .func (PySem.W.fnOf "_law_bent" "_law_bent" (defArgs s_l_bent) (defBody s_l_bent) (defScope s_l_bent) .none kV15 dc15 pm15 an15 cd15 ct15), sl15⟩) (c15 : PySem.W.codeIn K cd15 "_law_bent" = true) (k15 : PySem.W.keepIn K (.ref f15) = true)
    {f16 : Addr} {od16 an16 : Option Addr} {sl16 : Array (Option Value)} {oc16 kV16 dc16 pm16 cd16 ct16 : Value}
    (a16 : PySem.W.nsIn K mainGlobals "law" = some (some (.ref f16))) (l16 : K.lookup f16 = some ⟨oc16, od16, .func (PySem.W.fnOf "law" "law" (defArgs s_law) (defBody s_law) (defScope s_law) .none kV16 dc16 pm16 an16 cd16 ct16), sl16⟩) (c16 : PySem.W.codeIn K cd16 "law" = true) (k16 : PySem.W.keepIn K (.ref f16) = true)
    (z_all : PySem.W.nsIn K mainGlobals "all" = some none)
    (z_bool : PySem.W.nsIn K mainGlobals "bool" = some none)
    (z_enumerate : PySem.W.nsIn K mainGlobals "enumerate" = some none)
    (z_int : PySem.W.nsIn K mainGlobals "int" = some none)
    (z_isinstance : PySem.W.nsIn K mainGlobals "isinstance" = some none)
    (z_len : PySem.W.nsIn K mainGlobals "len" = some none)
    (z_list : PySem.W.nsIn K mainGlobals "list" = some none)
    (z_range : PySem.W.nsIn K mainGlobals "range" = some none)
    (z_set : PySem.W.nsIn K mainGlobals "set" = some none)
    (z_sorted : PySem.W.nsIn K mainGlobals "sorted" = some none)
    (z_str : PySem.W.nsIn K mainGlobals "str" = some none)
    (z_tuple : PySem.W.nsIn K mainGlobals "tuple" = some none)
    (z_zip : PySem.W.nsIn K mainGlobals "zip" = some none)
    : ∃ fd : FuncData, (∀ (s : Shared) (v : Value), BindsTo s fd ⟨[v], []⟩ [("script", v)]) ∧ ∀ base : Heap, K.In base → base.Ns mainGlobals mg → FnOk l.prog w K mg base CX0 7 fa fd ["script"] (spLaw K) := by
  have e := hfa.symm.trans (PySem.W.mg_of X G a16)
  have e2 : f16 = fa := (Value.ref.inj (Option.some.inj e)).symm
  subst e2
  have T : Txt K mg ⟨f0, PySem.W.fnOf "is_whole" "is_whole" (defArgs s_is_whole) (defBody s_is_whole) (defScope s_is_whole) .none kV0 dc0 pm0 an0 cd0 ct0, f1, PySem.W.fnOf "is_within" "is_within" (defArgs s_is_within) (defBody s_is_within) (defScope s_is_within) .none kV1 dc1 pm1 an1 cd1 ct1, f2, PySem.W.fnOf "are_within" "are_within" (defArgs s_are_within) (defBody s_are_within) (defScope s_are_within) .none kV2 dc2 pm2 an2 cd2 ct2, f3, PySem.W.fnOf "are_rising" "are_rising" (defArgs s_are_rising) (defBody s_are_rising) (defScope s_are_rising) .none kV3 dc3 pm3 an3 cd3 ct3, f4, PySem.W.fnOf "are_worths" "are_worths" (defArgs s_are_worths) (defBody s_are_worths) (defScope s_are_worths) .none kV4 dc4 pm4 an4 cd4 ct4, f5, PySem.W.fnOf "is_stand" "is_stand" (defArgs s_is_stand) (defBody s_is_stand) (defScope s_is_stand) .none kV5 dc5 pm5 an5 cd5 ct5, f6, PySem.W.fnOf "_law_spread" "_law_spread" (defArgs s_l_spread) (defBody s_l_spread) (defScope s_l_spread) .none kV6 dc6 pm6 an6 cd6 ct6, f7, PySem.W.fnOf "_law_open" "_law_open" (defArgs s_l_open) (defBody s_l_open) (defScope s_l_open) .none kV7 dc7 pm7 an7 cd7 ct7, f8, PySem.W.fnOf "_law_anew" "_law_anew" (defArgs s_l_anew) (defBody s_l_anew) (defScope s_l_anew) .none kV8 dc8 pm8 an8 cd8 ct8, f9, PySem.W.fnOf "_law_take" "_law_take" (defArgs s_l_take) (defBody s_l_take) (defScope s_l_take) .none kV9 dc9 pm9 an9 cd9 ct9, f10, PySem.W.fnOf "_law_is_whole" "_law_is_whole" (defArgs s_l_is_whole) (defBody s_l_is_whole) (defScope s_l_is_whole) .none kV10 dc10 pm10 an10 cd10 ct10, f11, PySem.W.fnOf "_law_same" "_law_same" (defArgs s_l_same) (defBody s_l_same) (defScope s_l_same) .none kV11 dc11 pm11 an11 cd11 ct11, f12, PySem.W.fnOf "_law_worths" "_law_worths" (defArgs s_l_worths) (defBody s_l_worths) (defScope s_l_worths) .none kV12 dc12 pm12 an12 cd12 ct12, f13, PySem.W.fnOf "_law_stand" "_law_stand" (defArgs s_l_stand) (defBody s_l_stand) (defScope s_l_stand) .none kV13 dc13 pm13 an13 cd13 ct13, f14, PySem.W.fnOf "_law_is_stand" "_law_is_stand" (defArgs s_l_is_stand) (defBody s_l_is_stand) (defScope s_l_is_stand) .none kV14 dc14 pm14 an14 cd14 ct14, f15, PySem.W.fnOf "_law_bent" "_law_bent" (defArgs s_l_bent) (defBody s_l_bent) (defScope s_l_bent) .none kV15 dc15 pm15 an15 cd15 ct15, f16, PySem.W.fnOf "law" "law" (defArgs s_law) (defBody s_law) (defScope s_law) .none kV16 dc16 pm16 an16 cd16 ct16⟩ := ⟨fun_mk l0 c0 k0, PySem.W.mg_of X G a0, fun_mk l1 c1 k1, PySem.W.mg_of X G a1, fun_mk l2 c2 k2, PySem.W.mg_of X G a2, fun_mk l3 c3 k3, PySem.W.mg_of X G a3, fun_mk l4 c4 k4, PySem.W.mg_of X G a4, fun_mk l5 c5 k5, PySem.W.mg_of X G a5, fun_mk l6 c6 k6, PySem.W.mg_of X G a6, fun_mk l7 c7 k7, PySem.W.mg_of X G a7, fun_mk l8 c8 k8, PySem.W.mg_of X G a8, fun_mk l9 c9 k9, PySem.W.mg_of X G a9, fun_mk l10 c10 k10, PySem.W.mg_of X G a10, fun_mk l11 c11 k11, PySem.W.mg_of X G a11, fun_mk l12 c12 k12, PySem.W.mg_of X G a12, fun_mk l13 c13 k13, PySem.W.mg_of X G a13, fun_mk l14 c14 k14, PySem.W.mg_of X G a14, fun_mk l15 c15 k15, PySem.W.mg_of X G a15, fun_mk l16 c16 k16, PySem.W.mg_of X G a16, PySem.W.mg_none_of X G z_all, PySem.W.mg_none_of X G z_bool, PySem.W.mg_none_of X G z_enumerate, PySem.W.mg_none_of X G z_int, PySem.W.mg_none_of X G z_isinstance, PySem.W.mg_none_of X G z_len, PySem.W.mg_none_of X G z_list, PySem.W.mg_none_of X G z_range, PySem.W.mg_none_of X G z_set, PySem.W.mg_none_of X G z_sorted, PySem.W.mg_none_of X G z_str, PySem.W.mg_none_of X G z_tuple, PySem.W.mg_none_of X G z_zip⟩
  exact ⟨_, fun s v => .of_eq rfl, fun base _ _ => ok_all T⟩
theorem walk {l : PySem.W.OpenLaw} {q : Program} {loose : List Str} {XP : (Str → Option Value) → Heap → Prop} {YP : World → Heap → Prop} {d : DefRec} {K : Params → PySem.W.Frag} (hn : l.most = some 63) (hdf : d.params.defaults = [])
    (hY : ∀ (w : World) (h : Heap), YP w h → (K w.params).In h)
    (F : ∀ (w : World) (mg : Str → Option Value) (fa : Addr) (h : Heap), (K w.params).In h → h.Ns mainGlobals mg → mg d.name = some (.ref fa) →
      ∃ fd : FuncData, (∀ (s : Shared) (u : Value), BindsTo s fd ⟨[u], []⟩ [("script", u)]) ∧ ∀ base : Heap, (K w.params).In base → base.Ns mainGlobals mg → FnOk l.prog w (K w.params) mg base CX0 7 fa fd ["script"] (spLaw (K w.params))) :
    PySem.W.WalkO q loose XP YP l.row.toRowW d [] (fun f vs => PySem.call f vs) :=
  L2.walk_of (n := 63) (k := 7) (x := "script") (CX := fun _ => CX0) (sp := fun w => spLaw (K w.params)) hn (by decide) hdf ⟨rfl, by decide, by decide⟩ hY F (fun _ _ a ns hl _ hS => ⟨a, ns, rfl, hS, hl, fun _ => rfl⟩) fun _ _ _ _ _ z => z
end My
open PySem PySem.W PyProof.Rows
set_option maxRecDepth 100000 in
set_option maxHeartbeats 0 in
theorem PySem.Challenge.cw_wishstrike_k01_what_is_a_stand_holds : PySem.Challenge.rw_wishstrike_k01_what_is_a_stand.Holds := by
  w_on; o_law; k_head; (case hw => w_witness2)
  k_fill
  refine My.walk (l := PySem.Challenge.rw_wishstrike_k01_what_is_a_stand) rfl rfl (fun w h Y => PySem.W.kIn_of Y) ?F
  case F =>
    intro w mg fa h KX G hmg
    refine' My.all_mk KX G hmg ?a0 ?l0 ?c0 ?k0 ?a1 ?l1 ?c1 ?k1 ?a2 ?l2 ?c2 ?k2 ?a3 ?l3 ?c3 ?k3 ?a4 ?l4 ?c4 ?k4 ?a5 ?l5 ?c5 ?k5 ?a6 ?l6 ?c6 ?k6 ?a7 ?l7 ?c7 ?k7 ?a8 ?l8 ?c8 ?k8 ?a9 ?l9 ?c9 ?k9 ?a10 ?l10 ?c10 ?k10 ?a11 ?l11 ?c11 ?k11 ?a12 ?l12 ?c12 ?k12 ?a13 ?l13 ?c13 ?k13 ?a14 ?l14 ?c14 ?k14 ?a15 ?l15 ?c15 ?k15 ?a16 ?l16 ?c16 ?k16 ?z_all ?z_bool ?z_enumerate ?z_int ?z_isinstance ?z_len ?z_list ?z_range ?z_set ?z_sorted ?z_str ?z_tuple ?z_zip
    (case a0 => k_is); (case l0 => k_is); (case c0 => k_is); (case k0 => k_is)
    (case a1 => k_is); (case l1 => k_is); (case c1 => k_is); (case k1 => k_is)
    (case a2 => k_is); (case l2 => k_is); (case c2 => k_is); (case k2 => k_is)
    (case a3 => k_is); (case l3 => k_is); (case c3 => k_is); (case k3 => k_is)
    (case a4 => k_is); (case l4 => k_is); (case c4 => k_is); (case k4 => k_is)
    (case a5 => k_is); (case l5 => k_is); (case c5 => k_is); (case k5 => k_is)
    (case a6 => k_is); (case l6 => k_is); (case c6 => k_is); (case k6 => k_is)
    (case a7 => k_is); (case l7 => k_is); (case c7 => k_is); (case k7 => k_is)
    (case a8 => k_is); (case l8 => k_is); (case c8 => k_is); (case k8 => k_is)
    (case a9 => k_is); (case l9 => k_is); (case c9 => k_is); (case k9 => k_is)
    (case a10 => k_is); (case l10 => k_is); (case c10 => k_is); (case k10 => k_is)
    (case a11 => k_is); (case l11 => k_is); (case c11 => k_is); (case k11 => k_is)
    (case a12 => k_is); (case l12 => k_is); (case c12 => k_is); (case k12 => k_is)
    (case a13 => k_is); (case l13 => k_is); (case c13 => k_is); (case k13 => k_is)
    (case a14 => k_is); (case l14 => k_is); (case c14 => k_is); (case k14 => k_is)
    (case a15 => k_is); (case l15 => k_is); (case c15 => k_is); (case k15 => k_is)
    (case a16 => k_is); (case l16 => k_is); (case c16 => k_is); (case k16 => k_is)
    (case z_all => k_is)
    (case z_bool => k_is)
    (case z_enumerate => k_is)
    (case z_int => k_is)
    (case z_isinstance => k_is)
    (case z_len => k_is)
    (case z_list => k_is)
    (case z_range => k_is)
    (case z_set => k_is)
    (case z_sorted => k_is)
    (case z_str => k_is)
    (case z_tuple => k_is)
    (case z_zip => k_is)
#print axioms PySem.Challenge.cw_wishstrike_k01_what_is_a_stand_holds

