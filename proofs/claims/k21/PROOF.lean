import PyProof.Rows.All
import Wide.All
import OpenK.AllK
import Wide.FinOn
import PyProof.EqAt
import PyProof.EqKinds
import PyProof.TupleCall
import Lean
import PySem.Challenge.RW_flipwright_k21_hands_and_choices
set_option Elab.async false
set_option linter.all false
set_option maxRecDepth 100000
/-! THE HAND LAYER, for ints, bools, texts, own classes, LISTS and tuples (index, slices, in, append, pop ..), calls, loops. Paste it whole ahead of your own text; what your proof does not reach may be deleted. -/
namespace L2
open PySem PySem.Spec PyProof.Rows

/-- a key: an int or a str -/
abbrev Key := Sum Int Str
def keyIs : Key → Value → Bool
  | .inl k, v => Value.isInt k v
  | .inr x, v => Value.isStrOf x v
def keyH (w : World) : Key → Int
  | .inl k => hashInt k
  | .inr x => hashStr w x
theorem keyIs_shape : ∀ {k : Key} {v : Value}, keyIs k v = true → (∃ i t, k = Sum.inl i ∧ v = Value.int i t) ∨ (∃ x t, k = Sum.inr x ∧ v = Value.str x t)
  | .inl i, v, h => by
    obtain ⟨t, e⟩ := Value.isInt_shape (k := i) (v := v) h
    exact .inl ⟨i, t, rfl, e⟩
  | .inr x, v, h => by
    obtain ⟨t, e⟩ := Value.isStrOf_shape (x := x) (v := v) h
    exact .inr ⟨x, t, rfl, e⟩
theorem keyIs_int (i : Int) (t : Tok) : keyIs (.inl i) (.int i t) = true := by simp [keyIs, Value.isInt]
theorem keyIs_str (x : Str) (t : Tok) : keyIs (.inr x) (.str x t) = true := by simp [keyIs, Value.isStrOf]
theorem key_ll (a b : Int) : decide ((Sum.inl a : Key) = Sum.inl b) = (a == b) := by
  by_cases e : a = b
  · subst e; simp
  · have h : ¬ (Sum.inl a : Key) = Sum.inl b := fun q => e (Sum.inl.inj q)
    rw [decide_eq_false h]
    exact (beq_eq_false_iff_ne.mpr e).symm
theorem key_rr (a b : Str) : decide ((Sum.inr a : Key) = Sum.inr b) = decide (a = b) := by
  by_cases e : a = b
  · subst e; simp
  · have h : ¬ (Sum.inr a : Key) = Sum.inr b := fun q => e (Sum.inr.inj q)
    rw [decide_eq_false h, decide_eq_false e]
theorem key_lr (a : Int) (b : Str) : decide ((Sum.inl a : Key) = Sum.inr b) = false := decide_eq_false (fun q => nomatch q)
theorem key_rl (a : Str) (b : Int) : decide ((Sum.inr a : Key) = Sum.inl b) = false := decide_eq_false (fun q => nomatch q)

def mixKind (prog : Program) (w : World) : PySem.KeyKind prog w Key where
  is := keyIs
  hash := keyH w
  inj := fun v a b ha hb => by
    rcases keyIs_shape ha with ⟨i, t, rfl, rfl⟩ | ⟨x, t, rfl, rfl⟩
    · rcases keyIs_shape hb with ⟨j, u, rfl, e⟩ | ⟨y, u, rfl, e⟩
      · injection e with e1 _; rw [e1]
      · exact nomatch e
    · rcases keyIs_shape hb with ⟨j, u, rfl, e⟩ | ⟨y, u, rfl, e⟩
      · exact nomatch e
      · injection e with e1 _; rw [e1]
  byValue := fun k v h => by
    rcases keyIs_shape h with ⟨i, t, rfl, rfl⟩ | ⟨x, t, rfl, rfl⟩ <;> rfl
  pyHash := fun hv h => by
    rcases keyIs_shape hv with ⟨i, t, rfl, rfl⟩ | ⟨x, t, rfl, rfl⟩
    · exact wpAny_pyHash_int h
    · exact wpAny_pyHash_str h
  eqBool := fun hu hv h => by
    rcases keyIs_shape hu with ⟨i, t, rfl, rfl⟩ | ⟨x, t, rfl, rfl⟩
    · rcases keyIs_shape hv with ⟨j, u, rfl, rfl⟩ | ⟨y, u, rfl, rfl⟩
      · rw [key_ll] at h; exact wpAny_eqBool_int h
      · rw [key_lr] at h; exact SeqAt.EqAt.int_str i t y u _ _ _ _ h
    · rcases keyIs_shape hv with ⟨j, u, rfl, rfl⟩ | ⟨y, u, rfl, rfl⟩
      · rw [key_rl] at h; exact SeqAt.EqAt.str_int x t j u _ _ _ _ h
      · rw [key_rr] at h; exact wpAny_eqBool_str h
  «strs» := fun k x t v h => by
    rcases keyIs_shape h with ⟨i, u, rfl, e⟩ | ⟨y, u, rfl, e⟩
    · exact nomatch e
    · injection e with e1 _
      subst e1
      cases v <;> rfl

theorem mixKind_is (prog : Program) (w : World) (k : Key) (v : Value) : (mixKind prog w).is k v = keyIs k v := rfl
theorem mixKind_int (prog : Program) (w : World) (i : Int) (t : Tok) : (mixKind prog w).is (.inl i) (.int i t) = true := keyIs_int i t
theorem mixKind_str (prog : Program) (w : World) (x : Str) (t : Tok) : (mixKind prog w).is (.inr x) (.str x t) = true := keyIs_str x t
end L2

namespace L2
open PySem PySem.Spec PyProof.Rows

/-- a value, without the heap -/
inductive V where
  | non | bl (b : Bool) | int (i : Int) | str (x : Str) | byt (b : Array UInt8) | flt (b : UInt64) | ref (a : Addr) | ty (n : String)
  deriving DecidableEq

def RelV : V → Value → Prop
  | .non, u => u = Value.none
  | .bl b, u => u = Value.bool b
  | .int i, u => ∃ t, u = Value.int i t
  | .str x, u => ∃ t, u = Value.str x t
  | .byt b, u => ∃ t, u = Value.bytes b t
  | .flt b, u => ∃ t, u = Value.float b t
  | .ref a, u => u = Value.ref a
  | .ty n, u => u = Value.type n

abbrev Vals : List V → List Value → Prop := Paired RelV
theorem Vals.length {xs : List V} {us : List Value} (r : Vals xs us) : xs.length = us.length := Paired.length r
theorem Vals.get : ∀ {xs : List V} {us : List Value} {i : Nat} {x : V}, Vals xs us → xs[i]? = some x → ∃ u, us[i]? = some u ∧ RelV x u
  | _, _, _, _, .nil, e => by simp at e
  | _, _, 0, _, .cons r _, e => by simp at e; subst e; exact ⟨_, rfl, r⟩
  | _, _, i + 1, x, .cons _ t, e => by
    obtain ⟨u, h1, h2⟩ := Vals.get (i := i) (x := x) t (by simpa using e)
    exact ⟨u, by simpa using h1, h2⟩
theorem Vals.set {x : V} {u : Value} (r : RelV x u) : ∀ {xs : List V} {us : List Value} (i : Nat), Vals xs us → Vals (xs.set i x) (us.set i u)
  | _, _, _, .nil => .nil
  | _, _, 0, .cons _ t => .cons r t
  | _, _, i + 1, .cons q t => .cons q (Vals.set r i t)
theorem Vals.append : ∀ {xs ys : List V} {us ws : List Value}, Vals xs us → Vals ys ws → Vals (xs ++ ys) (us ++ ws)
  | _, _, _, _, .nil, s => s
  | _, _, _, _, .cons r t, s => .cons r (Vals.append t s)
theorem Vals.take : ∀ {xs : List V} {us : List Value} (n : Nat), Vals xs us → Vals (xs.take n) (us.take n)
  | _, _, 0, _ => .nil
  | _, _, _ + 1, .nil => .nil
  | _, _, n + 1, .cons r t => .cons r (Vals.take n t)
theorem Vals.drop : ∀ {xs : List V} {us : List Value} (n : Nat), Vals xs us → Vals (xs.drop n) (us.drop n)
  | _, _, 0, r => r
  | _, _, _ + 1, .nil => .nil
  | _, _, n + 1, .cons _ t => Vals.drop n t
theorem Vals.none_of : ∀ {xs : List V} {us : List Value} {i : Nat}, Vals xs us → xs[i]? = none → us[i]? = none := fun {xs us i} r e => by
  have h1 := r.length
  have h2 : xs.length ≤ i := List.getElem?_eq_none_iff.mp e
  exact List.getElem?_eq_none_iff.mpr (by omega)

def RelO : Option V → Option Value → Prop
  | some v, some u => RelV v u
  | none, none => True
  | _, _ => False
def KV {κ : Type} : List (κ × V) → List (κ × Value) → Prop := Paired fun (p : κ × V) (q : κ × Value) => p.1 = q.1 ∧ RelV p.2 q.2

/-- a key of a dict (00_mix): an int or a text -/
def kV : Key → V
  | .inl i => .int i
  | .inr x => .str x

/-- what stands at a tracked address -/
inductive HO where
  /-- a list -/
  | lst (xs : List V)
  /-- a tuple (never changes) -/
  | tup (xs : List V)
  /-- a dict whose keys are ints and texts; one whose keys are tuples of ints and texts (the empty one is both) -/
  | dK (kvs : List (Key × V)) | dT (kvs : List (List Key × V))
  /-- a set of ints: its members, its size -/
  | set (S : Int → Bool) (n : Nat)
  /-- an instance of the class at C, its dict at dx, its attributes -/
  | ins (C dx : Addr) (fs : List (Str × V))
  /-- the dict of the instance at x -/
  | own (x : Addr)
  /-- the dict of an exception -/
  | xd (fs : List (Str × V))
  /-- a bound method, f of x -/
  | met (f x : Addr)
  /-- a range object lo, lo + 1, .. below hi -/
  | rng (lo hi : Int)
  /-- a thing that is known to the object (the script; a dict while a loop walks it): read, never written while it is so -/
  | frz (o : Obj) (u : HO)
  /-- a code object's table -/
  | tbl (ps : Array Value)
  /-- any other thing, by what is true of its one object (a def of one's own: SetO a S n := HO.ext fun h => ..) -/
  | ext (φ : Heap → Prop)

abbrev Hp := Addr → Option HO
def upd (H : Hp) (a : Addr) (o : HO) : Hp := fun b => if b = a then some o else H b
theorem upd_same {H : Hp} {a : Addr} {o : HO} : upd H a o a = some o := by unfold upd; rw [if_pos rfl]
theorem upd_ne {H : Hp} {a b : Addr} {o : HO} (h : b ≠ a) : upd H a o b = H b := by unfold upd; rw [if_neg h]
theorem upd_upd {H : Hp} {a : Addr} {o u : HO} : upd (upd H a o) a u = upd H a u := by
  funext b; unfold upd; split <;> rfl
/-- two objects of different content stand apart -/
theorem ne_of {H : Hp} {a b : Addr} {o u : HO} (h : H a = some o) (h' : H b = some u) (d : o ≠ u) : a ≠ b := by
  intro e; subst e; rw [h] at h'; exact d (Option.some.inj h')
theorem ne_of_none {H : Hp} {a b : Addr} {o : HO} (h : H a = some o) (h' : H b = none) : a ≠ b := by
  intro e; subst e; rw [h] at h'; cases h'

section
variable (P : Program) (w : World)
def ObjOk (H : Hp) (h : Heap) (a : Addr) : HO → Prop
  | .lst xs => xs.length ≤ sizeLine ∧ ∃ (its : List Value) (n : Nat), Vals xs its ∧ h.get? a = some { cls := .type "list", data := .seq its.toArray n }
  | .tup xs => xs.length ≤ sizeLine ∧ ∃ its : List Value, Vals xs its ∧ IsTup h a its.toArray
  | .dK kvs => kvs.length ≤ sizeLine ∧ (a == sysModules) = false ∧ ∃ vs, KV kvs vs ∧ h.DictOf (mixKind P w) a vs
  | .dT kvs => kvs.length ≤ sizeLine ∧ (a == sysModules) = false ∧ ∃ xs : List (List Key × Addr × Value),
      Paired (fun (p : List Key × V) (q : List Key × Addr × Value) => p.1 = q.1 ∧ H q.2.1 = some (.tup (p.1.map kV)) ∧ RelV p.2 q.2.2) kvs xs ∧
      ∃ o es ep, h.get? a = some o ∧ o.ExactDict ∧ o.data = .dict es ep ∧ es.toList = xs.map (entryOfKey (tupleKind (mixKind P w))) ∧ (xs.map (·.1)).Nodup
  | .set S n => h.SetOf (intKind P w) a S n
  | .ins C dx fs => H dx = some (.own a) ∧ fs.length ≤ 1000 ∧ dx ≠ a ∧ h.get? a = some (PySem.W.instObj C dx) ∧
      ∃ mA, h.Ns1 dx mA ∧ (∀ f, RelO (fs.lookup f) (mA f)) ∧ PySem.Within mA (fs.map (·.1))
  | .own _ => ∃ o, h.get? a = some o
  | .xd fs => ∃ mA, h.Ns1 a mA ∧ ∀ f, RelO (fs.lookup f) (mA f)
  | .rng lo hi => ∃ t u v, h.get? a = some { cls := .type "range", data := .fields #[.int lo t, .int hi u, .int 1 v] }
  | .frz o u => h.get? a = some o ∧ ObjOk H h a u
  | .tbl ps => h.get? a = some { cls := .none, data := .fields ps }
  | .met f x => h.get? a = some (PySem.W.methodObj (.ref f) (.ref x))
  | .ext φ => φ h ∧ (∃ o, h.get? a = some o) ∧ ∀ h1 h2 : Heap, φ h1 → (∀ o, h1.get? a = some o → h2.get? a = some o) → φ h2
/-- the abstract heap is held -/
def HOk (H : Hp) (h : Heap) : Prop := ∀ a o, H a = some o → ObjOk P w H h a o
end

section
variable {P : Program} {w : World} {H H' : Hp} {h h' : Heap} {a : Addr} {o : HO}
theorem ObjOk.lt (x : ObjOk P w H h a o) : a < h.objs.size := by
  cases o with
  | lst xs => obtain ⟨_, _, _, _, e⟩ := x; exact Heap.lt_size e
  | tup xs => obtain ⟨_, _, _, p⟩ := x; exact p.lt
  | dK kvs => obtain ⟨_, _, _, _, o, _, _, e, _⟩ := x; exact Heap.lt_size e
  | dT kvs => obtain ⟨_, _, _, _, o, _, _, e, _⟩ := x; exact Heap.lt_size e
  | set S n => obtain ⟨o, _, _, _, e, _⟩ := x; exact Heap.lt_size e
  | ins C dx fs => obtain ⟨_, _, _, e, _⟩ := x; exact Heap.lt_size e
  | own y => obtain ⟨_, e⟩ := x; exact Heap.lt_size e
  | xd fs => obtain ⟨_, ⟨_, _, _, e, _⟩, _⟩ := x; exact Heap.lt_size e
  | rng lo hi => obtain ⟨_, _, _, e⟩ := x; exact Heap.lt_size e
  | frz ob u => obtain ⟨e, _⟩ := x; exact Heap.lt_size e
  | tbl ps => exact Heap.lt_size (show h.get? a = some _ from x)
  | met f y => exact Heap.lt_size (show h.get? a = some _ from x)
  | ext φ => obtain ⟨_, ⟨_, e⟩, _⟩ := x; exact Heap.lt_size e
theorem Paired.mapP {α β : Type} {F G : α → β → Prop} : ∀ {l₁ : List α} {l₂ : List β}, Paired F l₁ l₂ → (∀ a b, F a b → G a b) → Paired G l₁ l₂
  | _, _, .nil, _ => .nil
  | _, _, .cons r t, f => .cons (f _ _ r) (Paired.mapP t f)
theorem Paired.imp' {α β : Type} {F G : α → β → Prop} (f : ∀ a b, F a b → G a b) {l₁ : List α} {l₂ : List β} (r : Paired F l₁ l₂) : Paired G l₁ l₂ := Paired.mapP r f
/-- what an object's description leans on: its own object, its own dict, the tuples -/
theorem ObjOk.stay (x : ObjOk P w H h a o) (k : ∀ b u, (b = a ∨ H b = some (.own a)) → h.get? b = some u → h'.get? b = some u)
    (ho : ∀ b, H b = some (.own a) → H' b = some (.own a)) (ht : ∀ b xs, H b = some (.tup xs) → H' b = some (.tup xs)) : ObjOk P w H' h' a o := by
  induction o with
  | lst xs => obtain ⟨z, its, n, r, e⟩ := x; exact ⟨z, its, n, r, k _ _ (.inl rfl) e⟩
  | tup xs => obtain ⟨z, its, r, ob, e, c⟩ := x; exact ⟨z, its, r, ob, k _ _ (.inl rfl) e, c⟩
  | dK kvs => obtain ⟨z, y, vs, r, ob, es, ep, e, c⟩ := x; exact ⟨z, y, vs, r, ob, es, ep, k _ _ (.inl rfl) e, c⟩
  | dT kvs =>
    obtain ⟨z, y, xs, r, ob, es, ep, e, c⟩ := x
    exact ⟨z, y, xs, Paired.mapP r fun p q z => ⟨z.1, ht _ _ z.2.1, z.2.2⟩, ob, es, ep, k _ _ (.inl rfl) e, c⟩
  | set S n => obtain ⟨ob, es, ep, t, e, c⟩ := x; exact ⟨ob, es, ep, t, k _ _ (.inl rfl) e, c⟩
  | ins C dx fs =>
    obtain ⟨d, z, ne, e, mA, ⟨od, es, ep, e2, c⟩, r⟩ := x
    exact ⟨ho _ d, z, ne, k _ _ (.inl rfl) e, mA, ⟨od, es, ep, k _ _ (.inr d) e2, c⟩, r⟩
  | own y => obtain ⟨ob, e⟩ := x; exact ⟨ob, k _ _ (.inl rfl) e⟩
  | xd fs => obtain ⟨mA, ⟨od, es, ep, e, c⟩, r⟩ := x; exact ⟨mA, ⟨od, es, ep, k _ _ (.inl rfl) e, c⟩, r⟩
  | rng lo hi => obtain ⟨t, u, v, e⟩ := x; exact ⟨t, u, v, k _ _ (.inl rfl) e⟩
  | frz ob u ih => obtain ⟨e, q⟩ := x; exact ⟨k _ _ (.inl rfl) e, ih q⟩
  | tbl ps =>
    have e : h.get? a = some { cls := .none, data := .fields ps } := x
    show h'.get? a = some { cls := .none, data := .fields ps }
    exact k a _ (.inl rfl) e
  | met f y =>
    have e : h.get? a = some (PySem.W.methodObj (.ref f) (.ref y)) := x
    show h'.get? a = some (PySem.W.methodObj (.ref f) (.ref y))
    exact k a _ (.inl rfl) e
  | ext φ => obtain ⟨p, ⟨o, e⟩, st⟩ := x; exact ⟨st _ _ p fun o q => k _ _ (.inl rfl) q, ⟨o, k _ _ (.inl rfl) e⟩, st⟩
theorem HOk.lt (x : HOk P w H h) (e : H a = some o) : a < h.objs.size := (x a o e).lt
theorem HOk.fresh (x : HOk P w H h) (e : h.objs.size ≤ a) : H a = none := by
  cases q : H a with
  | none => rfl
  | some u => exact absurd (Nat.lt_of_lt_of_le (x.lt q) e) (Nat.lt_irrefl _)
/-- every object of the heap is kept -/
theorem HOk.kept (x : HOk P w H h) (k : ∀ b u, h.get? b = some u → h'.get? b = some u) : HOk P w H h' := fun a o e =>
  (x a o e).stay (fun b u _ q => k b u q) (fun _ q => q) fun _ _ q => q
/-- a new object is laid and tracked -/
theorem HOk.laid (x : HOk P w H h) (k : ∀ b u, h.get? b = some u → h'.get? b = some u) (hp : h.objs.size ≤ a) (new : ObjOk P w (upd H a o) h' a o) : HOk P w (upd H a o) h' := fun b u e => by
  have hn := x.fresh hp
  by_cases hb : b = a
  · subst hb; rw [upd_same] at e; cases e; exact new
  · rw [upd_ne hb] at e
    exact (x b u e).stay (fun c v _ q => k c v q) (fun c q => by rw [upd_ne (ne_of_none q hn)]; exact q) fun c xs q => by rw [upd_ne (ne_of_none q hn)]; exact q
end

/-- what may be read as u: it is u, or a known u -/
def Rd (H : Hp) (a : Addr) (u : HO) : Prop := H a = some u ∨ ∃ o, H a = some (.frz o u)
theorem Rd.of {H : Hp} {a : Addr} {u : HO} (h : H a = some u) : Rd H a u := .inl h
theorem Rd.ok {P : Program} {w : World} {H : Hp} {h : Heap} {a : Addr} {u : HO} (r : Rd H a u) (x : HOk P w H h) : ObjOk P w H h a u := by
  rcases r with r | ⟨o, r⟩
  · exact x a u r
  · obtain ⟨_, q⟩ := x a _ r
    exact q
/-- what may be written -/
def Mut : Option HO → Prop
  | some (.lst _) => True
  | some (.dK _) => True
  | some (.dT _) => True
  | some (.set _ _) => True
  | some (.ins _ _ _) => True
  | some (.ext _) => True
  | _ => False
section
variable {P : Program} {w : World} {H : Hp} {h h' : Heap} {x e : Addr} {o' : HO}
/-- the object at e is changed: x itself, or the dict of the instance x -/
theorem HOk.write (ok : HOk P w H h) (mu : Mut (H x)) (he : e = x ∨ H e = some (.own x)) (k : ∀ b u, b ≠ e → h.get? b = some u → h'.get? b = some u) (heo : ∃ u, h'.get? e = some u)
    (new : ObjOk P w (upd H x o') h' x o') : HOk P w (upd H x o') h' := fun b u q => by
  have nown : ∀ c y, H c = some (.own y) → c ≠ x := fun c y r z => by subst z; rw [r] at mu; exact mu
  have ntup : ∀ c xs, H c = some (.tup xs) → c ≠ x := fun c xs r z => by subst z; rw [r] at mu; exact mu
  by_cases hb : b = x
  · subst hb; rw [upd_same] at q; cases q; exact new
  · rw [upd_ne hb] at q
    by_cases hbe : b = e
    · have q' : H b = some (.own x) := by
        rcases he with z | z
        · exact absurd (hbe.trans z) hb
        · rw [hbe]; exact z
      rw [q] at q'; cases q'
      obtain ⟨v, hv⟩ := heo
      exact ⟨v, by rw [hbe]; exact hv⟩
    · refine (ok b u q).stay (fun c v hc r => k c v ?_ r) (fun c r => by rw [upd_ne (nown c b r)]; exact r) fun c xs r => by rw [upd_ne (ntup c xs r)]; exact r
      rcases hc with rfl | hc
      · exact hbe
      · rintro rfl
        rcases he with z | z
        · exact nown c b hc z
        · rw [hc] at z; cases z; exact hb rfl
end

/-! ### kept unless tracked; of the frames at fs (the callers') the slots may change (an exception that passes writes there); of the records at ex (iterators) nothing is said -/
structure Un (fs ex : List Addr) (H H' : Hp) (h h' : Heap) : Prop where
  keep : ∀ b o, h.get? b = some o → H b = none → b ∉ fs → b ∉ ex → h'.get? b = some o
  slot : ∀ b o, h.get? b = some o → H b = none → b ∈ fs → b ∉ ex → ∃ sl, h'.get? b = some { o with slots := sl }
  free : ∀ b o, h.get? b = some o → H b = none → b ∉ ex → H' b = none
  there : ∀ b o, h.get? b = some o → b ∉ ex → ∃ o', h'.get? b = some o'
  tups : ∀ b xs, H b = some (.tup xs) → H' b = some (.tup xs)
  frzs : ∀ b o u, H b = some (.frz o u) → H' b = some (.frz o u)
  tbls : ∀ b ps, H b = some (.tbl ps) → ∃ more, H' b = some (.tbl (ps ++ more))
section
variable {fs fs' ex ex' : List Addr} {H H1 H2 : Hp} {h h1 h2 h' : Heap} {a x e : Addr} {o : HO}
theorem Un.any (u : Un fs ex H H1 h h1) {b : Addr} {ob : Obj} (q : h.get? b = some ob) (n : H b = none) (hx : b ∉ ex) : ∃ sl, h1.get? b = some { ob with slots := sl } := by
  by_cases hb : b ∈ fs
  · exact u.slot b ob q n hb hx
  · exact ⟨ob.slots, u.keep b ob q n hb hx⟩
theorem Un.trans (a : Un fs ex H H1 h h1) (b : Un fs ex H1 H2 h1 h2) : Un fs ex H H2 h h2 where
  keep := fun c ob q n hc hx => b.keep c ob (a.keep c ob q n hc hx) (a.free c ob q n hx) hc hx
  slot := fun c ob q n hc hx => by
    obtain ⟨sl, e1⟩ := a.slot c ob q n hc hx
    obtain ⟨sl', e2⟩ := b.slot c _ e1 (a.free c ob q n hx) hc hx
    exact ⟨sl', e2⟩
  free := fun c ob q n hx => by
    obtain ⟨o', e1⟩ := a.there c ob q hx
    exact b.free c o' e1 (a.free c ob q n hx) hx
  there := fun c ob q hx => by
    obtain ⟨o', e1⟩ := a.there c ob q hx
    exact b.there c o' e1 hx
  tups := fun c xs q => b.tups c xs (a.tups c xs q)
  frzs := fun c ob xs q => b.frzs c ob xs (a.frzs c ob xs q)
  tbls := fun c ps q => by
    obtain ⟨m1, e1⟩ := a.tbls c ps q
    obtain ⟨m2, e2⟩ := b.tbls c _ e1
    exact ⟨m1 ++ m2, by rw [e2, Array.append_assoc]⟩
theorem Un.kept (k : ∀ b u, h.get? b = some u → h'.get? b = some u) : Un fs ex H H h h' :=
  ⟨fun b ob q _ _ _ => k b ob q, fun b ob q _ _ _ => ⟨ob.slots, k b ob q⟩, fun _ _ _ n _ => n, fun b ob q _ => ⟨ob, k b ob q⟩, fun _ _ q => q, fun _ _ _ q => q, fun _ ps q => ⟨#[], by rw [q]; simp⟩⟩
theorem Un.refl : Un fs ex H H h h := Un.kept fun _ _ q => q
theorem Un.laid (k : ∀ b u, h.get? b = some u → h'.get? b = some u) (hp : h.objs.size ≤ a) (hn : H a = none) : Un fs ex H (upd H a o) h h' where
  keep := fun b u q _ _ _ => k b u q
  slot := fun b u q _ _ _ => ⟨u.slots, k b u q⟩
  free := fun b u q n _ => by rw [upd_ne (Nat.ne_of_lt (Nat.lt_of_lt_of_le (Heap.lt_size q) hp))]; exact n
  there := fun b u q _ => ⟨u, k b u q⟩
  tups := fun b xs q => by rw [upd_ne (ne_of_none q hn)]; exact q
  frzs := fun b u xs q => by rw [upd_ne (ne_of_none q hn)]; exact q
  tbls := fun b ps q => ⟨#[], by rw [upd_ne (ne_of_none q hn), q]; simp⟩
theorem Un.write (mu : Mut (H x)) (he : e = x ∨ H e = some (.own x)) (k : ∀ b u, b ≠ e → h.get? b = some u → h'.get? b = some u) (heo : ∃ u, h'.get? e = some u) : Un fs ex H (upd H x o) h h' := by
  have hx : ∀ b, H b = none → b ≠ x := fun b n z => by subst z; rw [n] at mu; exact mu
  have hb : ∀ b, H b = none → b ≠ e := fun b n z => by
    subst z
    rcases he with r | r
    · exact hx b n r
    · rw [n] at r; cases r
  have hm : ∀ b u, H b = some u → ¬ Mut (some u) → b ≠ x := fun b u q nm z => by subst z; rw [q] at mu; exact nm mu
  refine ⟨fun b u q n _ _ => k b u (hb b n) q, fun b u q n _ _ => ⟨u.slots, k b u (hb b n) q⟩, fun b u q n _ => by rw [upd_ne (hx b n)]; exact n, fun b u q _ => ?_,
    fun b xs q => by rw [upd_ne (hm b _ q fun z => z)]; exact q, fun b u xs q => by rw [upd_ne (hm b _ q fun z => z)]; exact q, fun b ps q => ⟨#[], by rw [upd_ne (hm b _ q fun z => z), q]; simp⟩⟩
  by_cases hbe : b = e
  · subst hbe; exact heo
  · exact ⟨u, k b u hbe q⟩
theorem Un.mono (u : Un fs ex H H1 h h1) (hs : ∀ b ∈ fs, b ∈ fs') (hx : ∀ b ∈ ex, b ∈ ex') : Un fs' ex' H H1 h h1 :=
  ⟨fun b ob q n hb he => u.keep b ob q n (fun z => hb (hs b z)) fun z => he (hx b z), fun _ _ q n _ he => u.any q n fun z => he (hx _ z), fun b ob q n he => u.free b ob q n fun z => he (hx b z), fun b ob q he => u.there b ob q fun z => he (hx b z), u.tups, u.frzs, u.tbls⟩
end

/-! ### the heap without what is tracked -/
def trk (h : Heap) (H : Hp) : List Addr := (List.range h.objs.size).filter fun a => (H a).isSome
def hidT (h : Heap) (H : Hp) : Heap := PySem.W.hideAll h (trk h H)
theorem hidT_size (h : Heap) (H : Hp) : (hidT h H).objs.size = h.objs.size := PySem.W.hideAll_size _ _
theorem hidT_get {h : Heap} {H : Hp} {b : Addr} {o : Obj} (e : h.get? b = some o) (n : H b = none) : (hidT h H).get? b = some o :=
  PySem.W.hideAll_get _ e fun hm => by
    have q : (H b).isSome = true := (List.mem_filter.mp hm).2
    rw [n] at q; simp at q
theorem of_hidT {h : Heap} {H : Hp} {b : Addr} {o : Obj} (e : (hidT h H).get? b = some o) : h.get? b = some o ∧ H b = none := by
  have e' : h.get? b = some o := PySem.W.of_hideAll (trk h H) e
  refine ⟨e', ?_⟩
  cases q : H b with
  | none => rfl
  | some x =>
    have hm : b ∈ trk h H := List.mem_filter.mpr ⟨List.mem_range.mpr (Heap.lt_size e'), by simp [q]⟩
    have z : (hidT h H).get? b = none := PySem.W.hideAll_none (trk h H) hm
    rw [z] at e; cases e

/-! ### OpenK's ledger, filled with every new object but one -/
def allNews (g h : Heap) (L : Addr) : List (Addr × Obj) := (List.range h.objs.size).filterMap fun a => if a = L ∨ (g.get? a).isSome = true then none else (h.get? a).map fun o => (a, o)
theorem mem_allNews {g h : Heap} {L a : Addr} {o : Obj} (h1 : a ≠ L) (h2 : g.get? a = none) (h3 : h.get? a = some o) : (a, o) ∈ allNews g h L :=
  List.mem_filterMap.mpr ⟨a, List.mem_range.mpr (Heap.lt_size h3), by simp [h1, h2, h3]⟩
theorem of_mem_allNews {g h : Heap} {L : Addr} {p : Addr × Obj} (hp : p ∈ allNews g h L) : p.1 ≠ L ∧ g.get? p.1 = none ∧ h.get? p.1 = some p.2 := by
  obtain ⟨b, _, e⟩ := List.mem_filterMap.mp hp
  split at e
  · cases e
  · rename_i hn
    cases q : h.get? b with
    | none => rw [q] at e; simp at e
    | some u =>
      rw [q] at e
      simp only [Option.map_some, Option.some.injEq] at e
      subst e
      refine ⟨fun z => hn (.inl z), ?_, q⟩
      show g.get? b = none
      cases r : g.get? b with
      | none => rfl
      | some v => exact (hn (.inr (by simp [r]))).elim
def rest (g h : Heap) (L d : Addr) : List (Addr × Obj) := (allNews g h L).filter fun p => decide (p.1 ≠ d)
theorem rest_ne {g h : Heap} {L d : Addr} : ∀ p ∈ rest g h L d, p.1 ≠ d := fun p hp => of_decide_eq_true (List.mem_filter.mp hp).2
theorem mem_rest {g h : Heap} {L d a : Addr} {o : Obj} (h1 : a ≠ L) (h2 : g.get? a = none) (h3 : h.get? a = some o) (h4 : a ≠ d) : (a, o) ∈ rest g h L d :=
  List.mem_filter.mpr ⟨mem_allNews h1 h2 h3, decide_eq_true h4⟩
theorem news_all {g h : Heap} {L : Addr} : News g L h (allNews g h L) := fun p hp => let ⟨a, b, c⟩ := of_mem_allNews hp; ⟨c, a, b⟩
theorem news_at {g h : Heap} {L d : Addr} {o : Obj} (h1 : d ≠ L) (h2 : g.get? d = none) (h3 : h.get? d = some o) : News g L h ((d, o) :: rest g h L d) := fun p hp => by
  rcases List.mem_cons.mp hp with rfl | hp
  · exact ⟨h3, h1, h2⟩
  · exact news_all p (List.mem_filter.mp hp).1
/-- behind a rule that changed d alone: all else but the frame is kept -/
theorem kept_of_news {g h h' : Heap} {L d : Addr} {m : Str → Option Value} (k : ∀ b o, g.get? b = some o → h.get? b = some o) (F : Fr g L h' m) (N : News g L h' (rest g h L d)) :
    ∀ b o, b ≠ L → b ≠ d → h.get? b = some o → h'.get? b = some o := fun b o h1 h2 e => by
  cases q : g.get? b with
  | some u =>
    have := k b u q
    rw [e] at this; cases this
    exact F.keep b _ q
  | none => exact (N (b, o) (mem_rest h1 q e h2)).1
end L2

namespace L2
open PySem PySem.Spec PyProof.Rows

/-- the module's facts, over the base: the heap at the law's entry without what is tracked there -/
structure Mod (K : PySem.W.Frag) (mg : Str → Option Value) (base : Heap) : Prop where
  kin : K.In base
  glob : base.Ns mainGlobals mg
  blt : ∃ mb, base.Ns builtinsNs mb ∧ ∀ x : Str, x ≠ "__name__" → mb x = bootBuiltins x
  nolimit : base.NoLimit

/-- the context: a def's body (or a comprehension's block) running. base: fixed through the whole law; s₀, H₀: the entry; outer: the frames whose slots others may change (a def's callers); stack: all frames that run;
   ex: iterators that were made ahead of the entry and are walked here (a comprehension's); fn: the names whose cells were made at the entry (a def: all; a comprehension's block: its own); calm: not within an except suite; pn: pins that every state bears; xe: what is wanted of an exception that leaves the code -/
structure Cx where
  prog : Program
  w : World
  K : PySem.W.Frag
  mg : Str → Option Value
  base : Heap
  A : Around
  N : List Str
  s₀ : Shared
  H₀ : Hp
  env : Env
  outer : List Env
  stack : List Env
  ex : List Addr
  fn : Str → Bool
  calm : Bool
  pn : List (Addr × Obj)
  xe : Value → Shared → Prop
/-- the callers' frames -/
def frs (l : List Env) : List Addr := l.filterMap (·.frame)
abbrev Cx.fs (X : Cx) : List Addr := frs X.outer

def Vis (sc : Scope) (x : Str) : Prop := sc.names.lookup x = some .local ∨ sc.names.lookup x = some .cell ∨ sc.names.lookup x = some .free
def Loc (sc : Scope) (x : Str) : Prop := sc.names.lookup x = some .local ∨ sc.names.lookup x = some .cell
def Look (env : Env) (h : Heap) (m : Str → Option Value) (x : Str) (u : Value) : Prop :=
  (env.kindOf x = some .local ∧ m x = some u) ∨ ((env.kindOf x = some .cell ∨ env.kindOf x = some .free) ∧ ∃ c, env.cells.lookup x = some c ∧ h.IsCell c (some u))

structure Cx.Ok (X : Cx) : Prop where
  mod : Mod X.K X.mg X.base
  kind : X.env.scope.kind = .function
  glob : X.env.globals = mainGlobals
  blt : X.env.builtins = builtinsNs
  above : X.s₀.heap.objs.size ≤ X.env.locals
  inj : ∀ x y c, X.env.cells.lookup x = some c → X.env.cells.lookup y = some c → x = y
  has : ∀ x, (X.env.kindOf x = some .cell ∨ X.env.kindOf x = some .free) → ∃ c, X.env.cells.lookup x = some c
  cab : ∀ x c, X.fn x = true → X.env.cells.lookup x = some c → X.s₀.heap.objs.size ≤ c
  hd : X.calm = true → X.A.handled = none
  frames : X.A.frames = some X.stack
  stk : X.stack = X.outer ∨ (X.stack = X.env :: X.outer ∧ X.env.frame = some X.env.locals)
  exf : ∀ b ∈ X.ex, b ≠ X.env.locals ∧ ∀ x c, X.env.cells.lookup x = some c → c ≠ b
  bs : ∀ b o, X.base.get? b = some o → X.s₀.heap.get? b = some o ∧ X.H₀ b = none
  bsz : X.base.objs.size ≤ X.s₀.heap.objs.size
  noex : ∀ b o, X.base.get? b = some o → b ∉ X.ex
  exfs : ∀ b ∈ X.ex, b ∉ X.fs
  funs : X.s₀.heap.FunFrames X.base X.outer
  frf : ∀ b ∈ X.fs, X.H₀ b = none

structure Inv (X : Cx) (pins : List (Addr × Obj)) (σ : List (Option V)) (H : Hp) (s : Shared) : Prop where
  ok : X.Ok
  os : s.os = X.s₀.os
  bare : AllBare s.gens
  base : Un X.fs X.ex X.H₀ H X.s₀.heap s.heap
  loc : ∃ m, s.heap.Ns X.env.locals m ∧ ∀ (i : Nat) (x : Str) (v : V), X.N[i]? = some x → σ[i]? = some (some v) → Vis X.env.scope x → ∃ u, RelV v u ∧ Look X.env s.heap m x u
  cell : ∀ x c, X.env.cells.lookup x = some c → ∃ v, s.heap.IsCell c v
  free : H X.env.locals = none
  freeC : ∀ x c, X.env.cells.lookup x = some c → H c = none
  pin : ∀ p ∈ X.pn ++ pins, s.heap.get? p.1 = some p.2 ∧ H p.1 = none ∧ p.1 ≠ X.env.locals ∧ p.1 ∉ X.fs ∧ ∀ v, p.2.data ≠ .cell v
  hok : HOk X.prog X.w H s.heap
  len : σ.length = X.N.length

section
variable {X : Cx} {pins : List (Addr × Obj)} {σ : List (Option V)} {H H' : Hp} {s : Shared} {h' : Heap}

theorem Cx.Ok.nofr (ok : X.Ok) {b : Addr} {o : Obj} (e : X.base.get? b = some o) : b ∉ X.fs := fun hb => by
  have := (ok.funs.mem hb).1
  rw [e] at this; cases this
theorem Inv.bs (I : Inv X pins σ H s) : ∀ b o, X.base.get? b = some o → s.heap.get? b = some o ∧ H b = none := fun b o e =>
  ⟨I.base.keep b o (I.ok.bs b o e).1 (I.ok.bs b o e).2 (I.ok.nofr e) (I.ok.noex b o e), I.base.free b o (I.ok.bs b o e).1 (I.ok.bs b o e).2 (I.ok.noex b o e)⟩
theorem Inv.bk (I : Inv X pins σ H s) : ∀ b o, X.base.get? b = some o → s.heap.get? b = some o := fun b o e => (I.bs b o e).1
theorem Inv.mod (I : Inv X pins σ H s) : Mod X.K X.mg X.base := I.ok.mod
theorem Inv.kIn (I : Inv X pins σ H s) : X.K.In s.heap := I.ok.mod.kin.keeps I.bk
theorem Inv.nolimit (I : Inv X pins σ H s) : s.heap.NoLimit := I.ok.mod.nolimit.keeps I.bk
/-- the frame over the base: for OpenK's rules (K.In X.base is I.mod.kin) -/
theorem Inv.fr (I : Inv X pins σ H s) : ∃ m, Fr X.base X.env.locals s.heap m :=
  let ⟨m, hn, _⟩ := I.loc
  ⟨m, hn, I.bk, Nat.le_trans I.ok.bsz I.ok.above⟩
theorem Inv.lt (I : Inv X pins σ H s) : X.env.locals < s.heap.objs.size := let ⟨_, hn, _⟩ := I.loc; hn.lt
theorem Inv.sz (I : Inv X pins σ H s) : X.s₀.heap.objs.size ≤ s.heap.objs.size := Nat.le_trans I.ok.above (Nat.le_of_lt I.lt)
theorem Inv.nofs (I : Inv X pins σ H s) {a : Addr} (h : s.heap.objs.size ≤ a) : a ∉ X.fs := fun hb => by
  obtain ⟨_, o, ho, _⟩ := I.ok.funs.mem hb
  exact absurd (Nat.lt_of_lt_of_le (Heap.lt_size ho) (Nat.le_trans I.sz h)) (Nat.lt_irrefl _)
theorem Inv.cne (I : Inv X pins σ H s) : ∀ x c, X.env.cells.lookup x = some c → c ≠ X.env.locals := fun x c e z => by
  obtain ⟨v, o, ho, hd⟩ := I.cell x c e
  obtain ⟨m, ⟨o', es, ep, ho', hd', _⟩, _⟩ := I.loc
  rw [z, ho'] at ho; cases ho; rw [hd'] at hd; cases hd
theorem Inv.funs (I : Inv X pins σ H s) : s.heap.FunFrames X.base X.outer := by
  have all : ∀ (l : List Env), (∀ b ∈ frs l, b ∈ X.fs) → X.s₀.heap.FunFrames X.base l → s.heap.FunFrames X.base l := by
    intro l
    induction l with
    | nil => intro _ _; trivial
    | cons env r ih =>
      intro hs hl
      obtain ⟨hk, ⟨L, o, hf, hn, ho, hd⟩, hr⟩ := hl
      have hL : L ∈ X.fs := hs L (by unfold frs; rw [List.filterMap_cons, hf]; exact List.mem_cons_self)
      obtain ⟨sl, e⟩ := I.base.slot L o ho (I.ok.frf L hL) hL fun z => I.ok.exfs L z hL
      exact ⟨hk, ⟨L, _, hf, hn, e, hd⟩, ih (fun b hb => hs b (by unfold frs; rw [List.filterMap_cons, hf]; exact List.mem_cons_of_mem _ hb)) hr⟩
  exact all X.outer (fun _ hb => hb) I.ok.funs

/-- the frames that run, for a call -/
theorem Inv.stack (I : Inv X pins σ H s) : s.heap.FunFrames X.base X.stack := by
  rcases I.ok.stk with e | ⟨e, hf⟩
  · rw [e]; exact I.funs
  · rw [e]
    obtain ⟨m, hn, _⟩ := I.loc
    refine .cons (by rw [I.ok.kind]; decide) hf hn ?_ I.funs
    exact Heap.get?_none_of_le (Nat.le_trans I.ok.bsz I.ok.above)
theorem Inv.stkSub (I : Inv X pins σ H s) : ∀ b ∈ frs X.stack, b ∈ X.env.locals :: X.fs := fun b hb => by
  rcases I.ok.stk with e | ⟨e, hf⟩
  · rw [e] at hb; exact List.mem_cons_of_mem _ hb
  · rw [e] at hb
    unfold frs at hb
    rw [List.filterMap_cons, hf] at hb
    exact hb
theorem Inv.stkFree (I : Inv X pins σ H s) : ∀ b ∈ frs X.stack, H b = none := fun b hb => by
  rcases List.mem_cons.mp (I.stkSub b hb) with e | hb
  · rw [e]; exact I.free
  · obtain ⟨_, o, ho, _⟩ := I.ok.funs.mem hb
    exact I.base.free b o ho (I.ok.frf b hb) fun z => I.ok.exfs b z hb

/-- THE STEP: the untracked objects but the frame and the records at ch are kept (the callers' frames up to slots), the frame's map is kept, the new abstract heap is held -/
theorem Inv.step {g' : Array GenState} {t' : Nat} {d' : Drawn} {ch : List Addr} (I : Inv X pins σ H s)
    (hch : ∀ b ∈ ch, (b ∈ X.ex ∨ X.s₀.heap.objs.size ≤ b) ∧ b ≠ X.env.locals ∧ (∀ x c, X.env.cells.lookup x = some c → c ≠ b) ∧ ∀ p ∈ X.pn ++ pins, p.1 ≠ b)
    (keep : ∀ b o, b ≠ X.env.locals → b ∉ X.fs → b ∉ ch → s.heap.get? b = some o → H b = none → h'.get? b = some o)
    (slot : ∀ b o, b ≠ X.env.locals → b ∈ X.fs → b ∉ ch → s.heap.get? b = some o → H b = none → ∃ sl, h'.get? b = some { o with slots := sl }) (free : ∀ b o, b ∉ ch → s.heap.get? b = some o → H b = none → H' b = none)
    (there : ∀ b o, b ∉ ch → s.heap.get? b = some o → ∃ o', h'.get? b = some o')
    (tups : ∀ b xs, H b = some (.tup xs) → H' b = some (.tup xs)) (frzs : ∀ b o u, H b = some (.frz o u) → H' b = some (.frz o u)) (tbls : ∀ b ps, H b = some (.tbl ps) → ∃ more, H' b = some (.tbl (ps ++ more)))
    (ns : ∀ m, s.heap.Ns X.env.locals m → h'.Ns X.env.locals m) (hok : HOk X.prog X.w H' h') (hg : AllBare g') :
    Inv X pins σ H' { s with heap := h', gens := g', drawn := d', toks := t' } := by
  have neL : ∀ b o, X.s₀.heap.get? b = some o → b ≠ X.env.locals := fun b o e => Nat.ne_of_lt (Nat.lt_of_lt_of_le (Heap.lt_size e) I.ok.above)
  have neC : ∀ b o, X.s₀.heap.get? b = some o → b ∉ X.ex → b ∉ ch := fun b o e hx hb => by
    rcases (hch b hb).1 with z | z
    · exact hx z
    · exact absurd (Nat.lt_of_lt_of_le (Heap.lt_size e) z) (Nat.lt_irrefl _)
  have cellK : ∀ x c, X.env.cells.lookup x = some c → ∀ v, s.heap.IsCell c v → h'.IsCell c v := fun x c e v ⟨o, ho, hd⟩ => by
    have nch : c ∉ ch := fun z => (hch c z).2.2.1 x c e rfl
    by_cases hc : c ∈ X.fs
    · obtain ⟨sl, q⟩ := slot c o (I.cne x c e) hc nch ho (I.freeC x c e)
      exact ⟨_, q, hd⟩
    · exact ⟨o, keep c o (I.cne x c e) hc nch ho (I.freeC x c e), hd⟩
  refine ⟨I.ok, I.os, hg, ⟨fun b o e n hb hx => ?_, fun b o e n hb hx => ?_, fun b o e n hx => ?_, fun b o e hx => ?_, fun b xs e => tups b xs (I.base.tups b xs e), fun b o xs e => frzs b o xs (I.base.frzs b o xs e), fun b ps e => ?_⟩, ?_, fun x c e => ?_, ?_, fun x c e => ?_, fun p hp => ?_, hok, I.len⟩
  · exact keep b o (neL b o e) hb (neC b o e hx) (I.base.keep b o e n hb hx) (I.base.free b o e n hx)
  · obtain ⟨sl, e1⟩ := I.base.slot b o e n hb hx
    obtain ⟨sl', e2⟩ := slot b _ (neL b o e) hb (neC b o e hx) e1 (I.base.free b o e n hx)
    exact ⟨sl', e2⟩
  · obtain ⟨o', e1⟩ := I.base.there b o e hx
    exact free b o' (neC b o e hx) e1 (I.base.free b o e n hx)
  · obtain ⟨o', e1⟩ := I.base.there b o e hx
    exact there b o' (neC b o e hx) e1
  · obtain ⟨m1, e1⟩ := I.base.tbls b ps e
    obtain ⟨m2, e2⟩ := tbls b _ e1
    exact ⟨m1 ++ m2, by rw [e2, Array.append_assoc]⟩
  · obtain ⟨m, hn, hl⟩ := I.loc
    refine ⟨m, ns m hn, fun i x v e1 e2 e3 => ?_⟩
    obtain ⟨u, r, l⟩ := hl i x v e1 e2 e3
    refine ⟨u, r, ?_⟩
    rcases l with l | ⟨k, c, e, z⟩
    · exact .inl l
    · exact .inr ⟨k, c, e, cellK x c e _ z⟩
  · obtain ⟨v, z⟩ := I.cell x c e
    exact ⟨v, cellK x c e v z⟩
  · obtain ⟨m, ⟨o, _, _, ho, _⟩, _⟩ := I.loc
    exact free _ o (fun z => (hch _ z).2.1 rfl) ho I.free
  · obtain ⟨v, o, ho, hd⟩ := I.cell x c e
    exact free c o (fun z => (hch c z).2.2.1 x c e rfl) ho (I.freeC x c e)
  · obtain ⟨e, n, ne, nf, d⟩ := I.pin p hp
    have nch : p.1 ∉ ch := fun z => (hch p.1 z).2.2.2 p hp rfl
    exact ⟨keep p.1 p.2 ne nf nch e n, free p.1 p.2 nch e n, ne, nf, d⟩
/-- .. where the frame's own object is kept too -/
theorem Inv.un {t' : Nat} (I : Inv X pins σ H s) (u : Un X.fs [] H H' s.heap h') (hok : HOk X.prog X.w H' h') : Inv X pins σ H' { s with heap := h', toks := t' } := by
  obtain ⟨m, ⟨o, es, ep, ho, r⟩, _⟩ := id I.loc
  obtain ⟨sl, hL⟩ := u.any ho I.free (by simp)
  exact I.step (g' := s.gens) (d' := s.drawn) (ch := []) (fun _ z => nomatch z) (fun b o _ hb _ e n => u.keep b o e n hb (by simp)) (fun b o _ hb _ e n => u.slot b o e n hb (by simp)) (fun b o _ e n => u.free b o e n (by simp)) (fun b o _ e => u.there b o e (by simp)) u.tups u.frzs u.tbls (fun m' hm => by
    obtain ⟨o', es', ep', ho', r'⟩ := hm
    rw [ho] at ho'; cases ho'
    exact ⟨_, es', ep', hL, r'⟩) hok I.bare
/-- behind a call (or a comprehension's block): the slots of this frame may have changed too, the records at ch may have turned -/
theorem Inv.call {g' : Array GenState} {t' : Nat} {d' : Drawn} {ch : List Addr} (I : Inv X pins σ H s) (u : Un (frs X.stack) ch H H' s.heap h') (hok : HOk X.prog X.w H' h') (hg : AllBare g')
    (hch : ∀ b ∈ ch, (b ∈ X.ex ∨ X.s₀.heap.objs.size ≤ b) ∧ b ≠ X.env.locals ∧ (∀ x c, X.env.cells.lookup x = some c → c ≠ b) ∧ ∀ p ∈ X.pn ++ pins, p.1 ≠ b) :
    Inv X pins σ H' { s with heap := h', gens := g', drawn := d', toks := t' } := by
  obtain ⟨m, ⟨o, es, ep, ho, r⟩, _⟩ := id I.loc
  obtain ⟨sl, hL⟩ := u.any ho I.free fun z => (hch _ z).2.1 rfl
  exact I.step (ch := ch) hch (fun b o hL hb hc e n => u.keep b o e n (fun z => (List.mem_cons.mp (I.stkSub b z)).elim hL hb) hc) (fun b o _ _ hc e n => u.any e n hc) (fun b o hc e n => u.free b o e n hc) (fun b o hc e => u.there b o e hc) u.tups u.frzs u.tbls (fun m' hm => by
    obtain ⟨o', es', ep', ho', r'⟩ := hm
    rw [ho] at ho'; cases ho'
    exact ⟨_, es', ep', hL, r'⟩) hok hg
/-- an untracked record of ours (an iterator) has turned -/
theorem Inv.turned {t' : Nat} {it : Addr} (I : Inv X pins σ H s) (k : ∀ b o, b ≠ it → s.heap.get? b = some o → h'.get? b = some o) (hn : H it = none) (hL : it ≠ X.env.locals)
    (h1 : it ∈ X.ex ∨ X.s₀.heap.objs.size ≤ it) (h2 : ∀ x c, X.env.cells.lookup x = some c → c ≠ it) (h3 : ∀ p ∈ X.pn ++ pins, p.1 ≠ it) : Inv X pins σ H { s with heap := h', toks := t' } := by
  have nit : ∀ b u, H b = some u → b ≠ it := fun b u e z => by rw [z, hn] at e; cases e
  refine I.step (g' := s.gens) (d' := s.drawn) (ch := [it]) (fun b hb => ?_) (fun b o _ _ hc e _ => k b o (fun z => hc (by simp [z])) e) (fun b o _ _ hc e _ => ⟨o.slots, k b o (fun z => hc (by simp [z])) e⟩) (fun _ _ _ _ n => n)
    (fun b o hc e => ⟨o, k b o (fun z => hc (by simp [z])) e⟩) (fun _ _ e => e) (fun _ _ _ e => e) (fun b ps e => ⟨#[], by rw [e]; simp⟩) (fun m hm => ?_) (fun b u e => ?_) I.bare
  · have e : b = it := by simpa using hb
    subst e
    exact ⟨h1, hL, h2, h3⟩
  · obtain ⟨o, es, ep, ho, r⟩ := hm
    exact ⟨o, es, ep, k _ o (Ne.symm hL) ho, r⟩
  · refine (I.hok b u e).stay (fun c v hc q => k c v ?_ q) (fun _ q => q) fun _ _ q => q
    rcases hc with z | z
    · rw [z]; exact nit b u e
    · exact nit c _ z
theorem Inv.tok (I : Inv X pins σ H s) (t : Nat) : Inv X pins σ H { s with toks := t } := I.un (h' := s.heap) (t' := t) Un.refl I.hok
/-- all objects kept -/
theorem Inv.kept {t' : Nat} (I : Inv X pins σ H s) (k : ∀ b u, s.heap.get? b = some u → h'.get? b = some u) : Inv X pins σ H { s with heap := h', toks := t' } := I.un (Un.kept k) (I.hok.kept k)
/-- a new object laid and tracked -/
theorem Inv.laid {a : Addr} {o : HO} {t' : Nat} (I : Inv X pins σ H s) (k : ∀ b u, s.heap.get? b = some u → h'.get? b = some u) (hp : s.heap.objs.size ≤ a) (new : ObjOk X.prog X.w (upd H a o) h' a o) :
    Inv X pins σ (upd H a o) { s with heap := h', toks := t' } := I.un (Un.laid k hp (I.hok.fresh hp)) (I.hok.laid k hp new)
/-- an object written -/
theorem Inv.write {x e : Addr} {o : HO} {t' : Nat} (I : Inv X pins σ H s) (mu : Mut (H x)) (he : e = x ∨ H e = some (.own x)) (k : ∀ b u, b ≠ e → s.heap.get? b = some u → h'.get? b = some u) (heo : ∃ u, h'.get? e = some u)
    (new : ObjOk X.prog X.w (upd H x o) h' x o) : Inv X pins σ (upd H x o) { s with heap := h', toks := t' } := I.un (Un.write mu he k heo) (I.hok.write mu he k heo new)
/-- forgetting slots, pins -/
theorem Inv.weak {σ' : List (Option V)} (I : Inv X pins σ H s) (hl : σ'.length = σ.length) (w : ∀ (i : Nat) v, σ'[i]? = some (some v) → σ[i]? = some (some v)) : Inv X pins σ' H s :=
  ⟨I.ok, I.os, I.bare, I.base, let ⟨m, hn, hl'⟩ := I.loc; ⟨m, hn, fun i x v e1 e2 e3 => hl' i x v e1 (w i v e2) e3⟩, I.cell, I.free, I.freeC, I.pin, I.hok, hl.trans I.len⟩
theorem Inv.pins_of {pins' : List (Addr × Obj)} (I : Inv X pins σ H s) (h : ∀ p ∈ pins', s.heap.get? p.1 = some p.2 ∧ H p.1 = none ∧ p.1 ≠ X.env.locals ∧ p.1 ∉ X.fs ∧ ∀ v, p.2.data ≠ .cell v) : Inv X pins' σ H s :=
  ⟨I.ok, I.os, I.bare, I.base, I.loc, I.cell, I.free, I.freeC, fun p hp => (List.mem_append.mp hp).elim (fun z => I.pin p (List.mem_append_left _ z)) (h p), I.hok, I.len⟩

theorem nodup_ix {N : List Str} (hN : N.Nodup) {i j : Nat} {x : Str} (a : N[i]? = some x) (b : N[j]? = some x) : i = j := by
  obtain ⟨h1, e1⟩ := List.getElem?_eq_some_iff.mp a
  obtain ⟨h2, e2⟩ := List.getElem?_eq_some_iff.mp b
  exact (List.getElem_inj hN).mp (e1.trans e2.symm)

/-- a name is stored; what changed -/
theorem store_ok2 {M : Model} {A : Around} {E : Value → Shared → Prop} {i : Nat} {x : Str} {v : V} {u : Value} {Q : Unit → Shared → Prop} (I : Inv X pins σ H s) (hN : X.N.Nodup) (hi : X.N[i]? = some x) (hx : Loc X.env.scope x) (r : RelV v u)
    (h : ∀ s', Inv X pins (σ.set i (some v)) H s' → (∃ a, Heap.SameBut a s.heap s'.heap ∧ (a = X.env.locals ∨ X.env.cells.lookup x = some a)) → Q () s') (hf : X.fn x = true ∨ X.env.scope.names.lookup x = some .local := by first | exact .inl rfl | exact .inr rfl | assumption) : wpAny M A (storeName X.env x u) Q E s := by
  obtain ⟨m, hn, hl⟩ := id I.loc
  have hcls : (X.env.scope.kind == .class || (X.env.scope.kind == .module && X.env.locals != X.env.globals)) = false := by rw [I.ok.kind]; rfl
  have hiσ : i < σ.length := by rw [I.len]; exact (List.getElem?_eq_some_iff.mp hi).1
  have cne := I.cne
  have tracked : ∀ {a : Addr} {h' : Heap}, (∃ o, s.heap.get? a = some o ∧ H a = none) → Heap.SameBut a s.heap h' → HOk X.prog X.w H h' := fun {a h'} ha hs b ob e => by
    obtain ⟨_, _, hfree⟩ := ha
    refine (I.hok b ob e).stay (fun c w' hc q => (hs.2 c ?_).trans q) (fun _ q => q) fun _ _ q => q
    rintro rfl
    rcases hc with rfl | hc
    · rw [hfree] at e; cases e
    · rw [hfree] at hc; cases hc
  rcases hx with hk | hk
  · refine wpAny_storeName_local hk hn (fun h' hn' hs => ?_) hcls
    obtain ⟨oL, _, _, hoL, _⟩ := id hn
    refine h _ ⟨I.ok, I.os, I.bare, ⟨fun b o e n hb hx => ?_, fun b o e n hb hx => ?_, I.base.free, fun b o e hx => ?_, I.base.tups, I.base.frzs, I.base.tbls⟩, ⟨_, hn', fun j y v' e1 e2 e3 => ?_⟩, fun y c e => ?_, I.free, I.freeC, fun p hp => ?_, tracked ⟨oL, hoL, I.free⟩ hs, by simpa using I.len⟩ ⟨_, hs, .inl rfl⟩
    · exact (hs.2 b (Nat.ne_of_lt (Nat.lt_of_lt_of_le (Heap.lt_size e) I.ok.above))).trans (I.base.keep b o e n hb hx)
    · obtain ⟨sl, e1⟩ := I.base.slot b o e n hb hx
      exact ⟨sl, (hs.2 b (Nat.ne_of_lt (Nat.lt_of_lt_of_le (Heap.lt_size e) I.ok.above))).trans e1⟩
    · obtain ⟨o', e1⟩ := I.base.there b o e hx
      exact ⟨o', (hs.2 b (Nat.ne_of_lt (Nat.lt_of_lt_of_le (Heap.lt_size e) I.ok.above))).trans e1⟩
    · by_cases hj : j = i
      · subst hj
        rw [hi] at e1; cases e1
        rw [List.getElem?_set_self hiσ] at e2
        cases e2
        exact ⟨u, r, .inl ⟨hk, by simp⟩⟩
      · rw [List.getElem?_set_ne (Ne.symm hj)] at e2
        obtain ⟨u', r', q⟩ := hl j y v' e1 e2 e3
        refine ⟨u', r', ?_⟩
        rcases q with ⟨k, e⟩ | ⟨k, c, e, z⟩
        · refine .inl ⟨k, ?_⟩
          have : y ≠ x := fun e => hj (nodup_ix hN e1 (e ▸ hi))
          simp [this, e]
        · exact .inr ⟨k, c, e, z.sameBut hs (cne y c e)⟩
    · obtain ⟨w', z⟩ := I.cell y c e
      exact ⟨w', z.sameBut hs (cne y c e)⟩
    · obtain ⟨e, n, ne, nf, d⟩ := I.pin p hp
      exact ⟨(hs.2 p.1 ne).trans e, n, ne, nf, d⟩
  · have hfn : X.fn x = true := by
      rcases hf with z | z
      · exact z
      · rw [z] at hk; cases hk
    obtain ⟨c, hc⟩ := I.ok.has x (.inl hk)
    obtain ⟨w', z⟩ := I.cell x c hc
    refine wpAny_storeName_cell I.ok.kind hk hc z (fun h' hc' hs => ?_)
    obtain ⟨oc, hoc, hocd⟩ := id z
    refine h { s with heap := h' } ⟨I.ok, I.os, I.bare, ⟨fun b o e n hb hx => ?_, fun b o e n hb hx => ?_, I.base.free, fun b o e hx => ?_, I.base.tups, I.base.frzs, I.base.tbls⟩, ⟨m, hn.sameBut hs (Ne.symm (cne x c hc)), fun j y v' e1 e2 e3 => ?_⟩, fun y c' e => ?_, I.free, I.freeC, fun p hp => ?_, tracked ⟨oc, hoc, I.freeC x c hc⟩ hs, by simpa using I.len⟩ ⟨c, hs, .inr hc⟩
    · exact (hs.2 b (Nat.ne_of_lt (Nat.lt_of_lt_of_le (Heap.lt_size e) (I.ok.cab x c hfn hc)))).trans (I.base.keep b o e n hb hx)
    · obtain ⟨sl, e1⟩ := I.base.slot b o e n hb hx
      exact ⟨sl, (hs.2 b (Nat.ne_of_lt (Nat.lt_of_lt_of_le (Heap.lt_size e) (I.ok.cab x c hfn hc)))).trans e1⟩
    · obtain ⟨o', e1⟩ := I.base.there b o e hx
      exact ⟨o', (hs.2 b (Nat.ne_of_lt (Nat.lt_of_lt_of_le (Heap.lt_size e) (I.ok.cab x c hfn hc)))).trans e1⟩
    · by_cases hj : j = i
      · subst hj
        rw [hi] at e1; cases e1
        rw [List.getElem?_set_self hiσ] at e2
        cases e2
        exact ⟨u, r, .inr ⟨.inl hk, c, hc, hc'⟩⟩
      · rw [List.getElem?_set_ne (Ne.symm hj)] at e2
        obtain ⟨u', r', q⟩ := hl j y v' e1 e2 e3
        refine ⟨u', r', ?_⟩
        rcases q with q | ⟨k, c', e, z'⟩
        · exact .inl q
        · refine .inr ⟨k, c', e, z'.sameBut hs ?_⟩
          rintro rfl
          exact hj (nodup_ix hN e1 (I.ok.inj _ _ _ e hc ▸ hi))
    · by_cases hcc : c' = c
      · subst hcc; exact ⟨_, hc'⟩
      · obtain ⟨w2, z2⟩ := I.cell y c' e
        exact ⟨w2, z2.sameBut hs hcc⟩
    · obtain ⟨e, n, ne, nf, d⟩ := I.pin p hp
      refine ⟨(hs.2 p.1 ?_).trans e, n, ne, nf, d⟩
      intro q
      rw [q, hoc] at e
      have q' : oc = p.2 := Option.some.inj e
      exact d w' (by rw [← q']; exact hocd)
theorem store_ok {M : Model} {A : Around} {E : Value → Shared → Prop} {i : Nat} {x : Str} {v : V} {u : Value} {Q : Unit → Shared → Prop} (I : Inv X pins σ H s) (hN : X.N.Nodup) (hi : X.N[i]? = some x) (hx : Loc X.env.scope x) (r : RelV v u)
    (h : ∀ s', Inv X pins (σ.set i (some v)) H s' → Q () s') (hf : X.fn x = true ∨ X.env.scope.names.lookup x = some .local := by first | exact .inl rfl | exact .inr rfl | assumption) : wpAny M A (storeName X.env x u) Q E s :=
  store_ok2 I hN hi hx r (fun s' I' _ => h s' I') hf
/-- behind a call or a block, the state as it is -/
theorem Inv.call' {s' : Shared} {ch : List Addr} (I : Inv X pins σ H s) (ho : s'.os = s.os) (u : Un (frs X.stack) ch H H' s.heap s'.heap) (hok : HOk X.prog X.w H' s'.heap) (hg : AllBare s'.gens)
    (hch : ∀ b ∈ ch, (b ∈ X.ex ∨ X.s₀.heap.objs.size ≤ b) ∧ b ≠ X.env.locals ∧ (∀ x c, X.env.cells.lookup x = some c → c ≠ b) ∧ ∀ p ∈ X.pn ++ pins, p.1 ≠ b) : Inv X pins σ H' s' := by
  obtain ⟨h', g', d', t', o'⟩ := s'
  have e : o' = s.os := ho
  subst e
  exact I.call (g' := g') (t' := t') (d' := d') u hok hg hch
end

/-! ### the judgements -/
/-- an exception: its class, its own dict's address (where it has one), the abstract heap behind it -/
abbrev XK := Value → Option Addr → Hp → Prop
abbrev St := List (Option V)
abbrev VK := V → Hp → Prop
/-- an expression's reading; a test's; an argument list's -/
abbrev TE := St → Hp → VK → Prop
abbrev TT := St → Hp → (Bool → Hp → Prop) → Prop
abbrev TA := St → Hp → (List V → Hp → Prop) → Prop
/-- what is wanted behind a statement -/
structure Ends where
  nx : St → Hp → Prop
  rt : VK
  bk : St → Hp → Prop := fun _ _ => False
  ct : St → Hp → Prop := fun _ _ => False
abbrev TS := Ends → St → Hp → Prop

def EP (X : Cx) (pins : List (Addr × Obj)) (σ : St) (Q : VK) (u : Value) (s' : Shared) : Prop := ∃ v H', Inv X pins σ H' s' ∧ RelV v u ∧ Q v H'
def TP (X : Cx) (pins : List (Addr × Obj)) (σ : St) (Q : Bool → Hp → Prop) (b : Bool) (s' : Shared) : Prop := ∃ H', Inv X pins σ H' s' ∧ Q b H'
def AP (X : Cx) (pins : List (Addr × Obj)) (σ : St) (Q : List V → Hp → Prop) (us : List Value) (s' : Shared) : Prop := ∃ vs H', Inv X pins σ H' s' ∧ Vals vs us ∧ Q vs H'
def SP (X : Cx) (pins : List (Addr × Obj)) (D : Ends) (f : Flow) (s' : Shared) : Prop :=
  match f with
  | .next => ∃ σ' H', Inv X pins σ' H' s' ∧ D.nx σ' H'
  | .brk => ∃ σ' H', Inv X pins σ' H' s' ∧ D.bk σ' H'
  | .cont => ∃ σ' H', Inv X pins σ' H' s' ∧ D.ct σ' H'
  | .ret u => ∃ v σ' H', Inv X pins σ' H' s' ∧ RelV v u ∧ D.rt v H'

def PE (X : Cx) (e : Expr) (t : TE) : Prop :=
  ∀ (pins : List (Addr × Obj)) (s : Shared) (σ : St) (H : Hp) (Q : VK), Inv X pins σ H s → t σ H Q → wpAny (model X.prog X.w) X.A (eval e X.env) (EP X pins σ Q) X.xe s
def PT (X : Cx) (e : Expr) (t : TT) : Prop :=
  ∀ (pins : List (Addr × Obj)) (s : Shared) (σ : St) (H : Hp) (Q : Bool → Hp → Prop), Inv X pins σ H s → t σ H Q → wpAny (model X.prog X.w) X.A (isTrue e X.env (eval e X.env)) (TP X pins σ Q) X.xe s
/-- a test whatever its 'whole' is (and, or) -/
def PW (X : Cx) (e : Expr) (t : TT) : Prop :=
  ∀ (whole : Sem Value) (pins : List (Addr × Obj)) (s : Shared) (σ : St) (H : Hp) (Q : Bool → Hp → Prop), Inv X pins σ H s → t σ H Q → wpAny (model X.prog X.w) X.A (isTrue e X.env whole) (TP X pins σ Q) X.xe s
theorem PW.pt {X : Cx} {e : Expr} {t : TT} (h : PW X e t) : PT X e t := h _
/-- an argument list (no star), from the left -/
def PA (X : Cx) (es : List Expr) (t : TA) : Prop :=
  ∀ (pos : Pos) (pins : List (Addr × Obj)) (s : Shared) (σ : St) (H : Hp) (Q : List V → Hp → Prop), Inv X pins σ H s → t σ H Q → wpAny (model X.prog X.w) X.A (spliced (backTo pos (starEach es X.env))) (AP X pins σ Q) X.xe s
def PS (X : Cx) (st : Stmt) (t : TS) : Prop :=
  ∀ (pins : List (Addr × Obj)) (s : Shared) (σ : St) (H : Hp) (D : Ends), Inv X pins σ H s → t D σ H → wpAny (model X.prog X.w) X.A (exec st X.env) (SP X pins D) X.xe s
def PSs (X : Cx) (st : List Stmt) (t : TS) : Prop :=
  ∀ (pins : List (Addr × Obj)) (s : Shared) (σ : St) (H : Hp) (D : Ends), Inv X pins σ H s → t D σ H → wpAny (model X.prog X.w) X.A (execs st X.env) (SP X pins D) X.xe s
/-- weaken the end -/
theorem thn {α : Type} {t : Sem α} {Q Q' : α → Shared → Prop} {M : Model} {A : Around} {E : Value → Shared → Prop} {s : Shared} (h : wpAny M A t Q E s) (hQ : ∀ a s, Q a s → Q' a s) : wpAny M A t Q' E s := wpAny_mono h hQ fun _ _ x => x
end L2

namespace L2
open PySem PySem.Spec PyProof.Rows
section
variable {X : Cx}

/-- two expressions in a row -/
theorem bin {a b : Expr} {ta tb : TE} (ha : PE X a ta) (hb : PE X b tb) {pins : List (Addr × Obj)} {s : Shared} {σ : St} {H : Hp} {R : V → V → Hp → Prop} (I : Inv X pins σ H s) (h : ta σ H fun x H1 => tb σ H1 fun y H2 => R x y H2)
    {α : Type} {Q : α → Shared → Prop} {f : Value → Value → Sem α}
    (hf : ∀ v u s2 x y H2, Inv X pins σ H2 s2 → RelV x v → RelV y u → R x y H2 → wpAny (model X.prog X.w) X.A (f v u) Q X.xe s2) :
    wpAny (model X.prog X.w) X.A (eval a X.env) (fun v s₁ => wpAny (model X.prog X.w) X.A (eval b X.env) (fun u s₂ => wpAny (model X.prog X.w) X.A (f v u) Q X.xe s₂) X.xe s₁) X.xe s := by
  refine thn (ha pins s σ H _ I h) fun v s1 ⟨x, H1, I1, r1, q1⟩ => ?_
  refine thn (hb pins s1 σ H1 _ I1 q1) fun u s2 ⟨y, H2, I2, r2, q2⟩ => ?_
  exact hf v u s2 x y H2 I2 r1 r2 q2

/-! ### names and constants -/
def tVar (i : Nat) : TE := fun σ H Q => ∃ v, σ[i]? = some (some v) ∧ Q v H
def tC (v : V) : TE := fun _ H Q => Q v H
theorem pe_var {i : Nat} {x : Str} {pos : Pos} (hN : X.N[i]? = some x) (hv : Vis X.env.scope x) (hd : (x == ("__debug__" : Str)) = false := by decide) (hcd : (x == ("__classdict__" : Str)) = false := by decide) : PE X (.Name x pos) (tVar i) := by
  intro pins s σ H Q I h
  obtain ⟨v, e, h⟩ := h
  obtain ⟨m, hn, hl⟩ := I.loc
  obtain ⟨u, r, l⟩ := hl i x v hN e hv
  have fin : EP X pins σ Q u s := ⟨v, H, I, r, h⟩
  rcases l with ⟨hk, hm⟩ | ⟨hk, c, hc, hcell⟩
  · exact wpAny_Name (wpAny_loadName_local I.ok.kind hk hn hm fin) hd
  · rcases hk with hk | hk
    · exact wpAny_Name (wpAny_loadName_cell I.ok.kind hk hc hcell fin) hd
    · exact wpAny_Name (wpAny_loadName_free I.ok.kind hk hc hcell fin hcd) hd
theorem pe_int {i j pos} : PE X (.Constant (.int i) j pos) (tC (.int i)) := fun _ _ _ H _ I h => wpAny_Constant_int ⟨.int i, H, I.tok _, ⟨_, rfl⟩, h⟩
theorem pe_bl {b j pos} : PE X (.Constant (.bool b) j pos) (tC (.bl b)) := fun _ _ _ H _ I h => Constant_bool ⟨.bl b, H, I, rfl, h⟩
theorem pe_non {j pos} : PE X (.Constant .none j pos) (tC .non) := fun _ _ _ H _ I h => Constant_none ⟨.non, H, I, rfl, h⟩
theorem pe_str {x j pos} : PE X (.Constant (.str x) j pos) (tC (.str x)) := fun _ _ _ H _ I h => Calls.Constant_str ⟨.str x, H, I.tok _, ⟨_, rfl⟩, h⟩

/-- a global name of the def -/
def Gl (X : Cx) (x : Str) : Prop := X.env.kindOf x = some .globalImplicit
theorem ld_glob {E : Value → Shared → Prop} {pins : List (Addr × Obj)} {s : Shared} {σ : St} {H : Hp} {x : Str} {u : Value} {pos : Pos} {Q : Value → Shared → Prop} (I : Inv X pins σ H s) (hg : Gl X x) (hm : X.mg x = some u) (h : Q u s)
    (hd : (x == ("__debug__" : Str)) = false := by decide) : wpAny (model X.prog X.w) X.A (eval (.Name x pos) X.env) Q E s :=
  Calls.Name_function_global I.ok.kind hg (Calls.loadGlobal_global (by rw [I.ok.glob]; exact I.mod.glob.keeps I.bk) hm h) hd
theorem ld_blt {E : Value → Shared → Prop} {pins : List (Addr × Obj)} {s : Shared} {σ : St} {H : Hp} {x : Str} {u : Value} {pos : Pos} {Q : Value → Shared → Prop} (I : Inv X pins σ H s) (hg : Gl X x) (hm : X.mg x = none) (hv : bootBuiltins x = some u) (h : Q u s)
    (hn : x ≠ "__name__" := by decide) (hd : (x == ("__debug__" : Str)) = false := by decide) : wpAny (model X.prog X.w) X.A (eval (.Name x pos) X.env) Q E s := by
  obtain ⟨mb, h1, h2⟩ := I.mod.blt
  exact Calls.Name_function_global I.ok.kind hg (Calls.loadGlobal_builtin (by rw [I.ok.glob]; exact I.mod.glob.keeps I.bk) hm (by rw [I.ok.blt]; exact h1.keeps I.bk) ((h2 x hn).trans hv) h) hd
/-- a module's constant, a class, a function, as a value -/
theorem pe_glob {x : Str} {v : V} {u : Value} {pos : Pos} (hg : Gl X x) (hm : X.mg x = some u) (r : RelV v u) (hd : (x == ("__debug__" : Str)) = false := by decide) : PE X (.Name x pos) (tC v) :=
  fun _ _ _ H _ I h => ld_glob I hg hm ⟨v, H, I, r, h⟩ hd
theorem pe_bltn {x : Str} {v : V} {u : Value} {pos : Pos} (hg : Gl X x) (hm : X.mg x = none) (hv : bootBuiltins x = some u) (r : RelV v u) (hn : x ≠ "__name__" := by decide) (hd : (x == ("__debug__" : Str)) = false := by decide) : PE X (.Name x pos) (tC v) :=
  fun _ _ _ H _ I h => ld_blt I hg hm hv ⟨v, H, I, r, h⟩ hn hd

/-! ### arithmetic -/
/-- two ints -/
def t2I (ta tb : TE) (k : Int → Int → Hp → Prop) : St → Hp → Prop := fun σ H => ta σ H fun x H1 => tb σ H1 fun y H2 => ∃ i j, x = .int i ∧ y = .int j ∧ k i j H2
def tAdd (ta tb : TE) : TE := fun σ H Q => t2I ta tb (fun i j H2 => Q (.int (i + j)) H2) σ H
def tSub (ta tb : TE) : TE := fun σ H Q => t2I ta tb (fun i j H2 => Q (.int (i - j)) H2) σ H
/-- the left factor below 2^64 -/
def tMul (ta tb : TE) : TE := fun σ H Q => t2I ta tb (fun i j H2 => (-(2 ^ 64) < i ∧ i < 2 ^ 64) ∧ Q (.int (i * j)) H2) σ H
variable {a b : Expr} {ta tb : TE} {pos : Pos}
theorem pe_add (ha : PE X a ta) (hb : PE X b tb) : PE X (.BinOp a .Add b pos) (tAdd ta tb) := by
  intro pins s σ H Q I h
  refine wpAny_BinOp (bin ha hb I h fun v u s2 x y H2 I2 rx ry q => ?_)
  obtain ⟨i, j, rfl, rfl, q⟩ := q
  obtain ⟨t, rfl⟩ := rx
  obtain ⟨t', rfl⟩ := ry
  exact add_int ⟨.int _, H2, I2.tok _, ⟨_, rfl⟩, q⟩
theorem pe_sub (ha : PE X a ta) (hb : PE X b tb) : PE X (.BinOp a .Sub b pos) (tSub ta tb) := by
  intro pins s σ H Q I h
  refine wpAny_BinOp (bin ha hb I h fun v u s2 x y H2 I2 rx ry q => ?_)
  obtain ⟨i, j, rfl, rfl, q⟩ := q
  obtain ⟨t, rfl⟩ := rx
  obtain ⟨t', rfl⟩ := ry
  exact sub_int ⟨.int _, H2, I2.tok _, ⟨_, rfl⟩, q⟩
theorem pe_mul (ha : PE X a ta) (hb : PE X b tb) : PE X (.BinOp a .Mult b pos) (tMul ta tb) := by
  intro pins s σ H Q I h
  refine wpAny_BinOp (bin ha hb I h fun v u s2 x y H2 I2 rx ry q => ?_)
  obtain ⟨i, j, rfl, rfl, ⟨q1, q2⟩, q⟩ := q
  obtain ⟨t, rfl⟩ := rx
  obtain ⟨t', rfl⟩ := ry
  exact mul_int ⟨.int _, H2, I2.tok _, ⟨_, rfl⟩, q⟩ (.of_left (intBits_le_64 q1 q2))

/-! ### comparisons -/
def PC (X : Cx) (op : CmpOp) (a b : Expr) (t : TE) : Prop :=
  ∀ (pins : List (Addr × Obj)) (s : Shared) (σ : St) (H : Hp) (Q : VK), Inv X pins σ H s → t σ H Q →
    wpAny (model X.prog X.w) X.A (eval a X.env) (fun v s₁ => wpAny (model X.prog X.w) X.A (eval b X.env) (fun u s₂ => wpAny (model X.prog X.w) X.A (compareOp op v u) (EP X pins σ Q) X.xe s₂) X.xe s₁) X.xe s
theorem nobehind (b : Expr) {op : CmpOp} (h : op ≠ .In) (h2 : op ≠ .NotIn) : behindInMarks op b = false := by
  have e1 : (op == CmpOp.In) = false := by cases op <;> first | rfl | exact absurd rfl h
  have e2 : (op == CmpOp.NotIn) = false := by cases op <;> first | rfl | exact absurd rfl h2
  cases b <;> simp [behindInMarks, e1, e2]
def tCmp (p : Int → Int → Bool) (ta tb : TE) : TE := fun σ H Q => t2I ta tb (fun i j H2 => Q (.bl (p i j)) H2) σ H
abbrev tLt : TE → TE → TE := tCmp fun i j => decide (i < j)
abbrev tLe : TE → TE → TE := tCmp fun i j => decide (i ≤ j)
abbrev tGt : TE → TE → TE := tCmp fun i j => decide (j < i)
abbrev tGe : TE → TE → TE := tCmp fun i j => decide (j ≤ i)
abbrev tEqI : TE → TE → TE := tCmp fun i j => decide (i = j)
abbrev tNeI : TE → TE → TE := tCmp fun i j => !decide (i = j)
/-- a comparison of two ints, by its rule -/
theorem pc_int {op : CmpOp} {p : Int → Int → Bool} (ha : PE X a ta) (hb : PE X b tb)
    (rule : ∀ (i j : Int) (t u : Tok) (Q : Value → Shared → Prop) (s : Shared), Q (.bool (p i j)) s → wpAny (model X.prog X.w) X.A (compareOp op (.int i t) (.int j u)) Q X.xe s) : PC X op a b (tCmp p ta tb) := by
  intro pins s σ H Q I h
  refine bin ha hb I h fun v u s2 x y H2 I2 rx ry q => ?_
  obtain ⟨i, j, rfl, rfl, q⟩ := q
  obtain ⟨t, rfl⟩ := rx
  obtain ⟨t', rfl⟩ := ry
  exact rule i j t t' _ s2 ⟨.bl _, H2, I2, rfl, q⟩
theorem pc_lt (ha : PE X a ta) (hb : PE X b tb) : PC X .Lt a b (tLt ta tb) := pc_int ha hb fun _ _ _ _ _ _ h => lt_int h
theorem pc_le (ha : PE X a ta) (hb : PE X b tb) : PC X .LtE a b (tLe ta tb) := pc_int ha hb fun _ _ _ _ _ _ h => le_int h
theorem pc_gt (ha : PE X a ta) (hb : PE X b tb) : PC X .Gt a b (tGt ta tb) := pc_int ha hb fun _ _ _ _ _ _ h => gt_int h
theorem pc_ge (ha : PE X a ta) (hb : PE X b tb) : PC X .GtE a b (tGe ta tb) := pc_int ha hb fun _ _ _ _ _ _ h => ge_int h
theorem pc_eqI (ha : PE X a ta) (hb : PE X b tb) : PC X .Eq a b (tEqI ta tb) := pc_int ha hb fun _ _ _ _ _ _ h => eq_int (by rw [Bool.beq_eq_decide_eq]; exact h)
theorem pc_neI (ha : PE X a ta) (hb : PE X b tb) : PC X .NotEq a b (tNeI ta tb) := pc_int ha hb fun _ _ _ _ _ _ h => ne_int (by rw [bne, Bool.beq_eq_decide_eq]; exact h)
/-- is None -/
def tIsN (ta : TE) : TE := fun σ H Q => ta σ H fun x H1 => Q (.bl (decide (x = .non))) H1
def tNotN (ta : TE) : TE := fun σ H Q => ta σ H fun x H1 => Q (.bl (!decide (x = .non))) H1
theorem RelV.none_iff {x : V} {v : Value} (r : RelV x v) : (v == Value.none) = decide (x = .non) := by
  cases x with
  | non => cases r; rfl
  | bl _ => cases r; rfl
  | int _ => obtain ⟨t, rfl⟩ := r; rfl
  | str _ => obtain ⟨t, rfl⟩ := r; rfl
  | byt _ => obtain ⟨t, rfl⟩ := r; rfl
  | flt _ => obtain ⟨t, rfl⟩ := r; rfl
  | ref _ => cases r; rfl
  | ty _ => cases r; rfl
theorem pc_isN {j pos'} (ha : PE X a ta) : PC X .Is a (.Constant .none j pos') (tIsN ta) := by
  intro pins s σ H Q I h
  refine thn (ha pins s σ H _ I h) fun v s1 ⟨x, H1, I1, r1, q1⟩ => ?_
  exact Constant_none (is_none_gen ⟨.bl _, H1, I1, by rw [r1.none_iff]; rfl, q1⟩)
theorem pc_notN {j pos'} (ha : PE X a ta) : PC X .IsNot a (.Constant .none j pos') (tNotN ta) := by
  intro pins s σ H Q I h
  refine thn (ha pins s σ H _ I h) fun v s1 ⟨x, H1, I1, r1, q1⟩ => ?_
  exact Constant_none (isnot_none_gen ⟨.bl _, H1, I1, by rw [r1.none_iff]; rfl, q1⟩)
/-- a comparison as a value, as a test -/
def tB (t : TE) : TT := fun σ H Q => t σ H fun x H1 => ∃ c, x = .bl c ∧ Q c H1
theorem pe_cmp {op : CmpOp} {t : TE} (h : PC X op a b t) (h1 : behindInMarks op b = false := by first | exact nobehind _ (by decide) (by decide) | rfl) : PE X (.Compare a [op] [b] pos) t := fun pins s σ H Q I hw => wpAny_Compare1 (h pins s σ H Q I hw) h1
theorem pt_cmp {op : CmpOp} {t : TE} (h : PC X op a b t) (h1 : behindInMarks op b = false := by first | exact nobehind _ (by decide) (by decide) | rfl) : PT X (.Compare a [op] [b] pos) (tB t) := by
  intro pins s σ H Q I hw
  refine wpAny_isTrue_Compare1 (thn (h pins s σ H _ I hw) fun v s1 h1 => thn h1 fun u s2 h2 => thn h2 fun c s3 ⟨x, H1, I1, r1, q1⟩ => ?_) h1
  obtain ⟨d, rfl, q⟩ := q1
  cases r1
  exact wpAny_truthy_bool ⟨H1, I1, q⟩
/-- an expression whose value is a bool, as a test -/
theorem pt_val {e : Expr} {t : TE} (h : PE X e t) (he : ∀ whole, isTrue e X.env whole = (do let v ← whole; standAt e.pos; holding [v] (truthy v)) := by intro _; rfl) : PT X e (tB t) := by
  intro pins s σ H Q I hw
  refine isTrue_plain (thn (h pins s σ H _ I hw) fun v s1 ⟨x, H1, I1, r1, q1⟩ => ?_) (he _)
  obtain ⟨d, rfl, q⟩ := q1
  cases r1
  exact wpAny_truthy_bool ⟨H1, I1, q⟩

/-! ### and, or, not -/
variable {tA tB' : TT} {rest : List Expr}
def tAnd (t u : TT) : TT := fun σ H Q => t σ H fun c H1 => if c = true then u σ H1 Q else Q false H1
def tOr (t u : TT) : TT := fun σ H Q => t σ H fun c H1 => if c = true then Q true H1 else u σ H1 Q
def tNot (t : TT) : TT := fun σ H Q => t σ H fun c H1 => Q (!c) H1
theorem pw_and1 (ha : PT X a tA) : PW X (.BoolOp .And [a] pos) tA := by
  intro wh pins s σ H Q I h
  refine isTrue_and (thn (ha pins s σ H Q I h) fun c s1 e => ?_)
  cases c with
  | true => exact isTrue_and_nil e
  | false => exact e
theorem pw_or1 (ha : PT X a tA) : PW X (.BoolOp .Or [a] pos) tA := by
  intro wh pins s σ H Q I h
  refine isTrue_or (thn (ha pins s σ H Q I h) fun c s1 e => ?_)
  cases c with
  | false => exact isTrue_or_nil e
  | true => exact e
theorem pw_and (ha : PT X a tA) (hb : PW X (.BoolOp .And (b :: rest) pos) tB') : PW X (.BoolOp .And (a :: b :: rest) pos) (tAnd tA tB') := by
  intro wh pins s σ H Q I h
  refine isTrue_and (thn (ha pins s σ H _ I h) fun c s1 ⟨H1, I1, q1⟩ => ?_)
  cases c with
  | true => exact hb wh pins s1 σ H1 Q I1 q1
  | false => exact ⟨H1, I1, q1⟩
theorem pw_or (ha : PT X a tA) (hb : PW X (.BoolOp .Or (b :: rest) pos) tB') : PW X (.BoolOp .Or (a :: b :: rest) pos) (tOr tA tB') := by
  intro wh pins s σ H Q I h
  refine isTrue_or (thn (ha pins s σ H _ I h) fun c s1 ⟨H1, I1, q1⟩ => ?_)
  cases c with
  | true => exact ⟨H1, I1, q1⟩
  | false => exact hb wh pins s1 σ H1 Q I1 q1
theorem pt_not (ha : PT X a tA) : PT X (.UnaryOp .Not a pos) (tNot tA) := by
  intro pins s σ H Q I h
  exact isTrue_not (ha pins s σ H (fun c H1 => Q (!c) H1) I h)
/-- .. as values (bools) -/
def tAndV (ta tb : TE) : TE := fun σ H Q => ta σ H fun x H1 => ∃ c, x = .bl c ∧ if c = true then tb σ H1 Q else Q (.bl false) H1
def tOrV (ta tb : TE) : TE := fun σ H Q => ta σ H fun x H1 => ∃ c, x = .bl c ∧ if c = true then Q (.bl true) H1 else tb σ H1 Q
def tNotV (ta : TE) : TE := fun σ H Q => ta σ H fun x H1 => ∃ c, x = .bl c ∧ Q (.bl (!c)) H1
theorem pe_one {op} {t : TE} (h : PE X a t) : PE X (.BoolOp op [a] pos) t := fun pins s σ H Q I hw => BoolOp_one (h pins s σ H Q I hw)
theorem pe_and (ha : PE X a ta) (hb : PE X (.BoolOp .And (b :: rest) pos) tb) : PE X (.BoolOp .And (a :: b :: rest) pos) (tAndV ta tb) := by
  intro pins s σ H Q I h
  refine BoolOp_and (thn (ha pins s σ H _ I h) fun v s1 ⟨x, H1, I1, r1, q1⟩ => ?_)
  obtain ⟨c, rfl, q1⟩ := q1
  cases r1
  refine wpAny_truthy_bool ?_
  cases c with
  | true => exact hb pins s1 σ H1 Q I1 q1
  | false => exact ⟨.bl false, H1, I1, rfl, q1⟩
theorem pe_or (ha : PE X a ta) (hb : PE X (.BoolOp .Or (b :: rest) pos) tb) : PE X (.BoolOp .Or (a :: b :: rest) pos) (tOrV ta tb) := by
  intro pins s σ H Q I h
  refine BoolOp_or (thn (ha pins s σ H _ I h) fun v s1 ⟨x, H1, I1, r1, q1⟩ => ?_)
  obtain ⟨c, rfl, q1⟩ := q1
  cases r1
  refine wpAny_truthy_bool ?_
  cases c with
  | false => exact hb pins s1 σ H1 Q I1 q1
  | true => exact ⟨.bl true, H1, I1, rfl, q1⟩
theorem pe_not (ha : PE X a ta) : PE X (.UnaryOp .Not a pos) (tNotV ta) := by
  intro pins s σ H Q I h
  refine UnaryOp_ (thn (ha pins s σ H _ I h) fun v s1 ⟨x, H1, I1, r1, q1⟩ => ?_)
  obtain ⟨c, rfl, q1⟩ := q1
  cases r1
  exact not_of (wpAny_truthy_bool ⟨.bl (!c), H1, I1, rfl, q1⟩)
/-- a if t else b -/
def tIf (t : TT) (ta tb : TE) : TE := fun σ H Q => t σ H fun c H1 => if c = true then ta σ H1 Q else tb σ H1 Q
theorem pe_ifExp {c : Expr} (hc : PT X c tA) (ha : PE X a ta) (hb : PE X b tb) : PE X (.IfExp c a b pos) (tIf tA ta tb) := by
  intro pins s σ H Q I h
  refine wpAny_IfExp (thn (hc pins s σ H _ I h) fun d s1 ⟨H1, I1, q1⟩ => ?_)
  cases d with
  | true => exact ha pins s1 σ H1 Q I1 q1
  | false => exact hb pins s1 σ H1 Q I1 q1
end
end L2

namespace L2
open PySem PySem.Spec PyProof.Rows

/-! ### a list, a tuple that is read: tracked, frozen, or an object of the module -/
def SqL (K : PySem.W.Frag) (H : Hp) (a : Addr) (xs : List V) : Prop :=
  Rd H a (.lst xs) ∨
    ∃ (o : Obj) (its : Array Value) (n : Nat), K.lookup a = some o ∧ o.cls = .type "list" ∧ o.dict = none ∧ o.data = .seq its n ∧ its.size ≤ sizeLine ∧ Vals xs its.toList
def SqT (K : PySem.W.Frag) (H : Hp) (a : Addr) (xs : List V) : Prop :=
  Rd H a (.tup xs) ∨
    ∃ (o : Obj) (its : Array Value) (n : Nat), K.lookup a = some o ∧ o.cls = .type "tuple" ∧ o.data = .seq its n ∧ its.size ≤ sizeLine ∧ Vals xs its.toList
def absV : Value → Option V
  | .none => some .non
  | .bool b => some (.bl b)
  | .int i _ => some (.int i)
  | .str x _ => some (.str x)
  | .bytes b _ => some (.byt b)
  | .float b _ => some (.flt b)
  | .ref a => some (.ref a)
  | .type n => some (.ty n)
  | _ => none
theorem RelV.abs {x : V} {u : Value} (r : RelV x u) : absV u = some x := by
  cases x with
  | non => cases r; rfl
  | bl _ => cases r; rfl
  | int _ => obtain ⟨t, rfl⟩ := r; rfl
  | str _ => obtain ⟨t, rfl⟩ := r; rfl
  | byt _ => obtain ⟨t, rfl⟩ := r; rfl
  | flt _ => obtain ⟨t, rfl⟩ := r; rfl
  | ref _ => cases r; rfl
  | ty _ => cases r; rfl
theorem RelV.inj {x y : V} {u : Value} (r : RelV x u) (q : RelV y u) : x = y := Option.some.inj (r.abs.symm.trans q.abs)
theorem Vals.inj : ∀ {xs ys : List V} {us : List Value}, Vals xs us → Vals ys us → xs = ys
  | _, _, _, .nil, .nil => rfl
  | _, _, _, .cons r t, .cons r' t' => by rw [r.inj r', Vals.inj t t']
section
variable {X : Cx} {pins : List (Addr × Obj)} {σ : St} {H : Hp} {s : Shared} {a : Addr} {xs ys : List V}
theorem SqL.of {K : PySem.W.Frag} (h : H a = some (.lst xs)) : SqL K H a xs := .inl (.inl h)
theorem SqT.of {K : PySem.W.Frag} (h : H a = some (.tup xs)) : SqT K H a xs := .inl (.inl h)
theorem Inv.list (I : Inv X pins σ H s) (h : SqL X.K H a xs) : ∃ its : List Value, Vals xs its ∧ PlainL s.heap a its.toArray ∧ xs.length ≤ sizeLine := by
  rcases h with h | ⟨o, its, n, hk, hc, hd, hs, hz, r⟩
  · obtain ⟨z, its, n, r, e⟩ := h.ok I.hok
    exact ⟨its, r, ⟨_, n, e, rfl, rfl, rfl⟩, z⟩
  · refine ⟨its.toList, r, ⟨o, n, I.kIn a o hk, hc, hd, by simpa using hs⟩, ?_⟩
    have e := r.length
    simp only [Array.length_toList] at e
    omega
theorem Inv.tuple (I : Inv X pins σ H s) (h : SqT X.K H a xs) : ∃ its : List Value, Vals xs its ∧ IsTup s.heap a its.toArray ∧ xs.length ≤ sizeLine := by
  rcases h with h | ⟨o, its, n, hk, hc, hs, hz, r⟩
  · obtain ⟨z, its, r, p⟩ := h.ok I.hok
    exact ⟨its, r, p, z⟩
  · refine ⟨its.toList, r, ⟨o, I.kIn a o hk, hc, n, by simpa using hs⟩, ?_⟩
    have e := r.length
    simp only [Array.length_toList] at e
    omega
theorem Inv.list_inj (I : Inv X pins σ H s) (h : SqL X.K H a xs) (h' : SqL X.K H a ys) : xs = ys := by
  obtain ⟨its, r, ⟨o, n, e, _, _, d⟩, _⟩ := I.list h
  obtain ⟨its', r', ⟨o', n', e', _, _, d'⟩, _⟩ := I.list h'
  rw [e] at e'; cases e'
  rw [d] at d'
  injection d' with d1 _
  have : its = its' := by simpa using congrArg Array.toList d1
  subst this
  exact r.inj r'
theorem Inv.tuple_inj (I : Inv X pins σ H s) (h : SqT X.K H a xs) (h' : SqT X.K H a ys) : xs = ys := by
  obtain ⟨its, r, ⟨o, e, _, n, d⟩, _⟩ := I.tuple h
  obtain ⟨its', r', ⟨o', e', _, n', d'⟩, _⟩ := I.tuple h'
  rw [e] at e'; cases e'
  rw [d] at d'
  injection d' with d1 _
  have : its = its' := by simpa using congrArg Array.toList d1
  subst this
  exact r.inj r'
end

/-! ### another wish about exceptions -/
abbrev Cx.wish (X : Cx) (E : Value → Shared → Prop) : Cx := { X with xe := E }
/-- no exception leaves -/
abbrev Cx.nox (X : Cx) : Cx := X.wish fun _ _ => False
theorem Cx.Ok.wish {X : Cx} (ok : X.Ok) (E : Value → Shared → Prop) : (X.wish E).Ok :=
  ⟨ok.mod, ok.kind, ok.glob, ok.blt, ok.above, ok.inj, ok.has, ok.cab, ok.hd, ok.frames, ok.stk, ok.exf, ok.bs, ok.bsz, ok.noex, ok.exfs, ok.funs, ok.frf⟩
theorem Cx.Ok.unwish {X : Cx} {E : Value → Shared → Prop} (ok : (X.wish E).Ok) : X.Ok :=
  ⟨ok.mod, ok.kind, ok.glob, ok.blt, ok.above, ok.inj, ok.has, ok.cab, ok.hd, ok.frames, ok.stk, ok.exf, ok.bs, ok.bsz, ok.noex, ok.exfs, ok.funs, ok.frf⟩
section
variable {X : Cx} {pins : List (Addr × Obj)} {σ : St} {H : Hp} {s : Shared} {E : Value → Shared → Prop}
theorem Inv.wish (I : Inv X pins σ H s) (E : Value → Shared → Prop) : Inv (X.wish E) pins σ H s := ⟨I.ok.wish E, I.os, I.bare, I.base, I.loc, I.cell, I.free, I.freeC, I.pin, I.hok, I.len⟩
theorem Inv.unwish (I : Inv (X.wish E) pins σ H s) : Inv X pins σ H s := ⟨I.ok.unwish, I.os, I.bare, I.base, I.loc, I.cell, I.free, I.freeC, I.pin, I.hok, I.len⟩
theorem SP.unwish {D : Ends} {f : Flow} {s' : Shared} (h : SP (X.wish E) pins D f s') : SP X pins D f s' := by
  cases f with
  | next => obtain ⟨σ', H', I, q⟩ := h; exact ⟨σ', H', I.unwish, q⟩
  | brk => obtain ⟨σ', H', I, q⟩ := h; exact ⟨σ', H', I.unwish, q⟩
  | cont => obtain ⟨σ', H', I, q⟩ := h; exact ⟨σ', H', I.unwish, q⟩
  | ret u => obtain ⟨v, σ', H', I, r, q⟩ := h; exact ⟨v, σ', H', I.unwish, r, q⟩
theorem PE.nox {e : Expr} {t : TE} (h : PE X.nox e t) : PE X e t := fun pins s σ H Q I hw =>
  wpAny_mono (h pins s σ H Q (I.wish _) hw) (fun _ _ ⟨v, H', I', r, q⟩ => ⟨v, H', I'.unwish, r, q⟩) fun _ _ z => False.elim z
theorem PT.nox {e : Expr} {t : TT} (h : PT X.nox e t) : PT X e t := fun pins s σ H Q I hw =>
  wpAny_mono (h pins s σ H Q (I.wish _) hw) (fun _ _ ⟨H', I', q⟩ => ⟨H', I'.unwish, q⟩) fun _ _ z => False.elim z
theorem PSs.nox {st : List Stmt} {t : TS} (h : PSs X.nox st t) : PSs X st t := fun pins s σ H D I hw =>
  wpAny_mono (h pins s σ H D (I.wish _) hw) (fun _ _ q => q.unwish) fun _ _ z => False.elim z
end

/-! ### blocks and small statements -/
section
variable {X : Cx} {st : Stmt} {rest : List Stmt} {t u : TS} {e : Expr} {te : TE} {pos : Pos}
def tNext : TS := fun D σ H => D.nx σ H
def tSeq (t u : TS) : TS := fun D σ H => t { D with nx := u D } σ H
theorem pss_nil : PSs X [] tNext := fun _ _ σ H _ I h => wpAny_execs_nil ⟨σ, H, I, h⟩
theorem pss_cons (h1 : PS X st t) (h2 : PSs X rest u) : PSs X (st :: rest) (tSeq t u) := by
  intro pins s σ H D I h
  refine wpAny_execs_cons (thn (h1 pins s σ H { D with nx := u D } I h) fun f s1 q => ?_)
  cases f with
  | next =>
    obtain ⟨σ', H', I', q⟩ := q
    exact h2 pins s1 σ' H' D I' q
  | ret v => exact q
  | brk => exact q
  | cont => exact q
theorem pss_one (h1 : PS X st t) : PSs X [st] t := by
  intro pins s σ H D I h
  refine wpAny_execs_cons (thn (h1 pins s σ H D I h) fun f s1 q => ?_)
  cases f with
  | next => exact wpAny_execs_nil q
  | ret v => exact q
  | brk => exact q
  | cont => exact q
def tBreak : TS := fun D σ H => D.bk σ H
def tCont : TS := fun D σ H => D.ct σ H
theorem ps_pass : PS X (.Pass pos) tNext := fun _ _ σ H _ I h => wpAny_Pass ⟨σ, H, I, h⟩
theorem ps_break : PS X (.Break pos) tBreak := fun _ _ σ H _ I h => wpAny_Break ⟨σ, H, I, h⟩
theorem ps_continue : PS X (.Continue pos) tCont := fun _ _ σ H _ I h => wpAny_Continue ⟨σ, H, I, h⟩
/-- in a def's body nothing is shown -/
theorem Inv.quiet {pins : List (Addr × Obj)} {σ : St} {H : Hp} {s : Shared} (I : Inv X pins σ H s) : interactive X.env = false := by simp [interactive, I.ok.kind]
/-- a docstring -/
theorem ps_doc {x j pos pos'} : PS X (.Expr (.Constant (.str x) j pos) pos') tNext := fun _ s σ H _ I h => wpAny_Expr (Calls.Constant_str (show SP X _ _ .next { s with toks := s.toks + 1 } from ⟨σ, H, I.tok _, h⟩)) I.quiet
/-- an expression whose value is dropped -/
def tDrop (te : TE) : TS := fun D σ H => te σ H fun _ H1 => D.nx σ H1
theorem ps_expr (he : PE X e te) (hs : swapsWith e none pos.line X.env = pure false := by rfl) : PS X (.Expr e pos) (tDrop te) := by
  intro pins s σ H D I h
  exact wpAny_Expr_any (thn (he pins s σ H _ I h) fun v s1 ⟨x, H1, I1, r1, q1⟩ => ⟨σ, H1, I1, q1⟩) I.quiet hs
def tRet (te : TE) : TS := fun D σ H => te σ H D.rt
theorem ps_ret (he : PE X e te) : PS X (.Return (some e) pos) (tRet te) := by
  intro pins s σ H D I h
  exact wpAny_Return_some (thn (he pins s σ H _ I h) fun v s1 ⟨x, H1, I1, r1, q1⟩ => ⟨x, σ, H1, I1, r1, q1⟩)
def tRetN : TS := fun D _ H => D.rt .non H
theorem ps_retN : PS X (.Return none pos) tRetN := fun _ _ σ H _ I h => wpAny_Return_none ⟨.non, σ, H, I, rfl, h⟩
def tIfS (c : TT) (t u : TS) : TS := fun D σ H => c σ H fun b H1 => if b = true then t D σ H1 else u D σ H1
theorem ps_if {c : Expr} {a b : List Stmt} {tc : TT} (hc : PT X c tc) (ha : PSs X a t) (hb : PSs X b u) : PS X (.If c a b pos) (tIfS tc t u) := by
  intro pins s σ H D I h
  refine wpAny_If (thn (hc pins s σ H _ I h) fun d s1 ⟨H1, I1, q1⟩ => ?_)
  cases d with
  | true => exact ha pins s1 σ H1 D I1 q1
  | false => exact hb pins s1 σ H1 D I1 q1
/-- code that the proof never comes to -/
def tNever : TS := fun _ _ _ => False
theorem ps_never : PS X st tNever := fun _ _ _ _ _ _ h => h.elim
theorem pss_never {sts : List Stmt} : PSs X sts tNever := fun _ _ _ _ _ _ h => h.elim
end

/-! ### targets -/
abbrev TG := V → St → Hp → (St → Hp → Prop) → Prop
abbrev TGs := List V → St → Hp → (St → Hp → Prop) → Prop
def PG (X : Cx) (target : Expr) (t : TG) : Prop :=
  ∀ (pins : List (Addr × Obj)) (s : Shared) (σ : St) (H : Hp) (v : V) (u : Value) (Q : St → Hp → Prop), Inv X pins σ H s → RelV v u → t v σ H Q →
    wpAny (model X.prog X.w) X.A (assign target X.env u) (fun _ s' => ∃ σ' H', Inv X pins σ' H' s' ∧ Q σ' H') X.xe s
/-- several targets, one after another -/
def PGs (X : Cx) (ts : List Expr) (t : TGs) : Prop :=
  ∀ (pins : List (Addr × Obj)) (s : Shared) (σ : St) (H : Hp) (vs : List V) (us : List Value) (Q : St → Hp → Prop), Inv X pins σ H s → Vals vs us → t vs σ H Q →
    wpAny (model X.prog X.w) X.A (assignInOrder ((assignEach ts X.env).map (·.2)) us) (fun _ s' => ∃ σ' H', Inv X pins σ' H' s' ∧ Q σ' H') X.xe s
/-- o[i] = v, by values -/
abbrev TSet := V → V → V → Hp → (Hp → Prop) → Prop
def PSet (X : Cx) (t : TSet) : Prop :=
  ∀ (pins : List (Addr × Obj)) (s : Shared) (σ : St) (H : Hp) (o i v : V) (ov iv u : Value) (Q : Hp → Prop), Inv X pins σ H s → RelV o ov → RelV i iv → RelV v u → t o i v H Q →
    wpAny (model X.prog X.w) X.A (setItem ov iv u) (fun _ s' => ∃ H', Inv X pins σ H' s' ∧ Q H') X.xe s
/-- a op= b, by values -/
abbrev TIp := V → V → Hp → VK → Prop
def PIp (X : Cx) (op : Operator) (t : TIp) : Prop :=
  ∀ (pins : List (Addr × Obj)) (s : Shared) (σ : St) (H : Hp) (x y : V) (v u : Value) (Q : VK), Inv X pins σ H s → RelV x v → RelV y u → t x y H Q →
    wpAny (model X.prog X.w) X.A (inplaceOp op v u) (EP X pins σ Q) X.xe s
section
variable {X : Cx} {pos : Pos}
def gName (i : Nat) : TG := fun v σ H Q => Q (σ.set i (some v)) H
theorem pg_name {i : Nat} {x : Str} (hN : X.N.Nodup) (hi : X.N[i]? = some x) (hx : Loc X.env.scope x) (hf : X.fn x = true ∨ X.env.scope.names.lookup x = some .local := by first | exact .inl rfl | exact .inr rfl | assumption) : PG X (.Name x pos) (gName i) := by
  intro pins s σ H v u Q I r h
  exact wpAny_assign_Name (store_ok I hN hi hx r (fun s' I' => ⟨_, H, I', h⟩) hf)
def gNil : TGs := fun vs σ H Q => vs = [] ∧ Q σ H
def gCons (t : TG) (u : TGs) : TGs := fun vs σ H Q => ∃ v r, vs = v :: r ∧ t v σ H fun σ' H' => u r σ' H' Q
theorem pgs_nil : PGs X [] gNil := by
  intro pins s σ H vs us Q I r h
  obtain ⟨e, h⟩ := h
  subst e
  cases r
  exact assignInOrder_nil ⟨σ, H, I, h⟩
theorem pgs_cons {e : Expr} {es : List Expr} {t : TG} {u : TGs} (h1 : PG X e t) (h2 : PGs X es u)
    (hs : (assignEach (e :: es) X.env).map (·.2) = assign e X.env :: (assignEach es X.env).map (·.2) := by rfl) : PGs X (e :: es) (gCons t u) := by
  intro pins s σ H vs us Q I r h
  obtain ⟨v, vr, e1, h⟩ := h
  subst e1
  cases r with
  | cons r rr =>
    rw [hs]
    refine assignInOrder_cons (thn (h1 pins s σ H _ _ _ I r h) fun _ s1 ⟨σ1, H1, I1, q1⟩ => ?_)
    exact h2 pins s1 σ1 H1 _ _ Q I1 rr q1
/-- (a, b, ..) = a tuple of that length -/
def gTup (K : PySem.W.Frag) (n : Nat) (t : TGs) : TG := fun v σ H Q => ∃ a xs, v = .ref a ∧ SqT K H a xs ∧ xs.length = n ∧ t xs σ H Q
theorem pg_tup {es : List Expr} {k : Nat} {t : TGs} {n : Nat} (hc : X.calm = true) (h : PGs X es t)
    (hn : (assignEach es X.env).length = n := by rfl) (hst : (assignEach es X.env).findIdx? (·.1) = none := by rfl) : PG X (.Tuple es k pos) (gTup X.K n t) := by
  intro pins s σ H v u Q I r hw
  obtain ⟨a, xs, e1, hq, hl, hw⟩ := hw
  subst e1
  cases r
  obtain ⟨its, rv, ht, hz⟩ := I.tuple hq
  refine assign_Tuple_tuple (I.ok.hd hc) ht (by simp [hn, ← hl, rv.length]) hst fun h' hx => ?_
  have I1 : Inv X pins σ H { s with heap := h' } := I.kept (t' := s.toks) fun b o e => hx b o (Nat.ne_of_lt (Heap.lt_size e)) e
  exact h pins _ σ H xs _ Q I1 (by simpa using rv) hw
/-- o[i] = .. -/
def gSub (to ti : TE) (t : TSet) : TG := fun v σ H Q => to σ H fun o H1 => ti σ H1 fun i H2 => t o i v H2 fun H3 => Q σ H3
theorem pg_sub {o i : Expr} {to ti : TE} {t : TSet} (ho : PE X o to) (hi : PE X i ti) (hs : PSet X t)
    (ha : ∀ v, assign (.Subscript o i pos) X.env v = (do
      let ov ← holding [v] (eval o X.env)
      let iv ← holding [v, ov] (eval i X.env)
      standAt pos
      holding [v, ov, iv] (setItem ov iv v)
      release [v, ov, iv] []) := by intro _; rfl) : PG X (.Subscript o i pos) (gSub to ti t) := by
  intro pins s σ H v u Q I r h
  rw [ha]
  refine wpAny_bind (wpAny_holding (thn (ho pins s σ H _ I h) fun ov s1 ⟨x, H1, I1, r1, q1⟩ => ?_))
  refine wpAny_bind (wpAny_holding (thn (hi pins s1 σ H1 _ I1 q1) fun iv s2 ⟨y, H2, I2, r2, q2⟩ => ?_))
  refine wpAny_bind (wpAny_standAt (wpAny_bind (wpAny_holding (thn (hs pins s2 σ H2 x y v ov iv u _ I2 r1 r2 r q2) fun _ s3 ⟨H3, I3, q3⟩ => ?_))))
  exact wpAny_release ⟨σ, H3, I3, q3⟩
/-- target = value -/
def tAsg (te : TE) (g : TG) : TS := fun D σ H => te σ H fun x H1 => g x σ H1 D.nx
theorem ps_asg {tg e : Expr} {te : TE} {g : TG} (he : PE X e te) (hg : PG X tg g) (hs : swapsWithSole [tg] e pos.line X.env = pure false := by rfl) (hw : swappedStores [tg] e X.env = pure none := by rfl)
    (h1 : (assignEach [tg] X.env).map (·.2) = [assign tg X.env] := by rfl) : PS X (.Assign [tg] e pos) (tAsg te g) := by
  intro pins s σ H D I h
  refine wpAny_Assign_stores (thn (he pins s σ H _ I h) fun v s1 ⟨x, H1, I1, r1, q1⟩ => ?_) hs hw
  rw [h1]
  exact thn (hg pins s1 σ H1 x v _ I1 r1 q1) fun _ s2 q => q
/-- name = value -/
theorem ps_set {i : Nat} {x : Str} {e : Expr} {te : TE} {pos' : Pos} (hN : X.N.Nodup) (hi : X.N[i]? = some x) (hx : Loc X.env.scope x) (he : PE X e te) (hs : swapsWith e (some (.Name x pos')) pos.line X.env = pure false := by rfl) (hf : X.fn x = true ∨ X.env.scope.names.lookup x = some .local := by first | exact .inl rfl | exact .inr rfl | assumption) :
    PS X (.Assign [.Name x pos'] e pos) (tAsg te (gName i)) := by
  intro pins s σ H D I h
  refine wpAny_Assign_Name (thn (he pins s σ H _ I h) fun v s1 ⟨y, H1, I1, r1, q1⟩ => ?_) hs
  exact store_ok I1 hN hi hx r1 (fun s2 I2 => ⟨_, H1, I2, q1⟩) hf
/-- a, b = x, y with plain local names: stored from the right; the pair itself is not tracked (the opening rows as in PyProof/Rows/TupAssign.lean:23) -/
def tPar (i j : Nat) (ta : TA) : TS := fun D σ H => ta σ H fun vs H1 => ∃ v w, vs = [v, w] ∧ D.nx ((σ.set i (some v)).set j (some w)) H1
theorem ps_par {i j : Nat} {x y : Str} {a b : Expr} {ta : TA} {px py pt : Pos} {kt k2 pt2} (hc : X.calm = true) (hN : X.N.Nodup) (hi : X.N[i]? = some x) (hj : X.N[j]? = some y) (hij : i ≠ j)
    (hx : X.env.scope.names.lookup x = some .local) (hy : X.env.scope.names.lookup y = some .local) (ha : PA X [a, b] ta)
    (hw : swappedStores [.Tuple [.Name x px, .Name y py] kt pt] (.Tuple [a, b] k2 pt2) X.env = pure (some [x, y]))
    (hs : swapsWithSole [.Tuple [.Name x px, .Name y py] kt pt] (.Tuple [a, b] k2 pt2) pos.line X.env = pure false := by rfl) :
    PS X (.Assign [.Tuple [.Name x px, .Name y py] kt pt] (.Tuple [a, b] k2 pt2) pos) (tPar i j ta) := by
  intro pins s σ H D I h
  rw [exec_Assign_arm]
  refine wpAny_bind (wpAny_standAt ?_)
  rw [hs]
  refine wpAny_bind (wpAny_pure ?_)
  rw [if_neg (by decide)]
  refine wpAny_bind (Tuple_ (thn (ha _ pins s σ H _ I h) fun us s1 ⟨vs, H1, I1, r1, q1⟩ => ?_))
  obtain ⟨v, w, e1, q1⟩ := q1
  subst e1
  obtain ⟨u1, u2, rfl, rv, rw'⟩ : ∃ u1 u2, us = [u1, u2] ∧ RelV v u1 ∧ RelV w u2 := by
    cases r1 with
    | cons p q =>
      cases q with
      | cons p' q' =>
        cases q'
        exact ⟨_, _, rfl, p, p'⟩
  refine wpAny_newObj_type ?_ (by show 2 ≤ sizeLine; decide)
  have I2 : Inv X pins σ H1 { s1 with heap := s1.heap.push { cls := .type "tuple", data := .seq [u1, u2].toArray } } := I1.kept (t' := s1.toks) fun b o e => Heap.get?_push_of_some _ e
  rw [hw]
  refine wpAny_bind (wpAny_pure ?_)
  show wpAny (model X.prog X.w) X.A (do rule "assign.swapped-stores"; let items ← unpackItems (.ref s1.heap.objs.size) 2 none; assignInOrder [fun v => bindName X.env y v, fun v => bindName X.env x v] items.reverse; pure Flow.next) _ _ _
  refine wpAny_bind (wpAny_rule (wpAny_bind (unpackItems_tuple (items := #[u1, u2]) (I.ok.hd hc) (IsTup.new s1.heap _) fun h' hx' => ?_)))
  have I3 := I2.kept (h' := h') (t' := s1.toks) fun b o e => hx' b o (Nat.ne_of_lt (Heap.lt_size e)) e
  show wpAny _ _ (assignInOrder [fun v => bindName X.env y v, fun v => bindName X.env x v] [u2, u1] >>= fun _ => pure Flow.next) _ _ _
  refine wpAny_bind (assignInOrder_cons (wpAny_bindName (store_ok I3 hN hj (.inl hy) rw' (fun s2 I4 => ?_) (.inr hy))))
  refine assignInOrder_cons (wpAny_bindName (store_ok I4 hN hi (.inl hx) rv (fun s3 I5 => assignInOrder_nil (wpAny_pure ?_)) (.inr hx)))
  rw [List.set_comm _ _ (Ne.symm hij)] at I5
  exact ⟨_, H1, I5, q1⟩
/-- name op= e -/
def tAug (i : Nat) (te : TE) (ti : TIp) : TS := fun D σ H => ∃ x, σ[i]? = some (some x) ∧ te σ H fun y H1 => ti x y H1 fun z H2 => D.nx (σ.set i (some z)) H2
theorem ps_aug {i : Nat} {x : Str} {e : Expr} {te : TE} {op : Operator} {ti : TIp} {pos' : Pos} (hN : X.N.Nodup) (hi : X.N[i]? = some x) (hx : Loc X.env.scope x) (he : PE X e te) (ho : PIp X op ti) (hf : X.fn x = true ∨ X.env.scope.names.lookup x = some .local := by first | exact .inl rfl | exact .inr rfl | assumption) :
    PS X (.AugAssign (.Name x pos') op e pos) (tAug i te ti) := by
  intro pins s σ H D I h
  obtain ⟨v, e1, h⟩ := h
  obtain ⟨m, hn, hl⟩ := I.loc
  have vis : Vis X.env.scope x := by rcases hx with k | k; exact .inl k; exact .inr (.inl k)
  obtain ⟨u, r, l⟩ := hl i x v hi e1 vis
  refine wpAny_AugAssign_Name ?_
  have go : wpAny (model X.prog X.w) X.A (eval e X.env) (fun w s₂ => wpAny (model X.prog X.w) X.A (inplaceOp op u w) (fun r s₃ => wpAny (model X.prog X.w) X.A (storeName X.env x r) (fun _ => SP X pins D .next) X.xe s₃) X.xe s₂) X.xe s := by
    refine thn (he pins s σ H _ I h) fun w s1 ⟨y, H1, I1, r1, q1⟩ => ?_
    refine thn (ho pins s1 σ H1 v y u w _ I1 r r1 q1) fun z s2 ⟨zv, H2, I2, r2, q2⟩ => ?_
    exact store_ok I2 hN hi hx r2 (fun s3 I3 => ⟨_, H2, I3, q2⟩) hf
  rcases l with ⟨hk, hm⟩ | ⟨hk, c, hc, hcell⟩
  · exact wpAny_loadName_local I.ok.kind hk hn hm go
  · rcases hk with hk | hk
    · exact wpAny_loadName_cell I.ok.kind hk hc hcell go
    · rcases hx with k | k
      · have : X.env.scope.names.lookup x = some .free := hk
        rw [k] at this; cases this
      · have : X.env.scope.names.lookup x = some .free := hk
        rw [k] at this; cases this
/-- o[i] op= e -/
def tAugS (to ti te : TE) (tget : V → V → Hp → VK → Prop) (tip : TIp) (tset : TSet) : TS := fun D σ H => to σ H fun o H1 => ti σ H1 fun i H2 => tget o i H2 fun x H3 => te σ H3 fun y H4 => tip x y H4 fun z H5 => tset o i z H5 fun H6 => D.nx σ H6
/-- o[i], by values -/
def PGet (X : Cx) (t : V → V → Hp → VK → Prop) : Prop :=
  ∀ (pins : List (Addr × Obj)) (s : Shared) (σ : St) (H : Hp) (o i : V) (ov iv : Value) (Q : VK), Inv X pins σ H s → RelV o ov → RelV i iv → t o i H Q →
    wpAny (model X.prog X.w) X.A (getItem ov iv) (EP X pins σ Q) X.xe s
theorem ps_augS {o i e : Expr} {to ti te : TE} {tget : V → V → Hp → VK → Prop} {tip : TIp} {tset : TSet} {op : Operator} {tpos : Pos} (ho : PE X o to) (hi : PE X i ti) (hg : PGet X tget) (he : PE X e te) (hp : PIp X op tip) (hs : PSet X tset)
    (ha : ∀ ov iv new, augStore i ov iv new = (do holding [new, ov, iv] (setItem ov iv new); release [new, ov, iv] []; pure .next) := by intros; rfl) : PS X (.AugAssign (.Subscript o i tpos) op e pos) (tAugS to ti te tget tip tset) := by
  intro pins s σ H D I h
  refine wpAny_AugAssign_SubscriptAny (thn (ho pins s σ H _ I h) fun ov s1 ⟨x1, H1, I1, r1, q1⟩ => ?_) ha
  refine thn (hi pins s1 σ H1 _ I1 q1) fun iv s2 ⟨x2, H2, I2, r2, q2⟩ => ?_
  refine thn (hg pins s2 σ H2 x1 x2 ov iv _ I2 r1 r2 q2) fun old s3 ⟨x3, H3, I3, r3, q3⟩ => ?_
  refine thn (he pins s3 σ H3 _ I3 q3) fun v s4 ⟨x4, H4, I4, r4, q4⟩ => ?_
  refine thn (hp pins s4 σ H4 x3 x4 old v _ I4 r3 r4 q4) fun new s5 ⟨x5, H5, I5, r5, q5⟩ => ?_
  exact thn (hs pins s5 σ H5 x1 x2 x5 ov iv new _ I5 r1 r2 r5 q5) fun _ s6 ⟨H6, I6, q6⟩ => ⟨σ, H6, I6, q6⟩
/-- ints -/
def ipI (f : Int → Int → Int) : TIp := fun x y H Q => ∃ i j, x = .int i ∧ y = .int j ∧ Q (.int (f i j)) H
theorem ip_add : PIp X .Add (ipI fun i j => i + j) := by
  intro pins s σ H x y v u Q I r1 r2 h
  obtain ⟨i, j, e1, e2, q⟩ := h
  subst e1; subst e2
  obtain ⟨t, rfl⟩ := r1
  obtain ⟨t', rfl⟩ := r2
  exact iadd_int ⟨.int _, H, I.tok _, ⟨_, rfl⟩, q⟩
theorem ip_sub : PIp X .Sub (ipI fun i j => i - j) := by
  intro pins s σ H x y v u Q I r1 r2 h
  obtain ⟨i, j, e1, e2, q⟩ := h
  subst e1; subst e2
  obtain ⟨t, rfl⟩ := r1
  obtain ⟨t', rfl⟩ := r2
  exact isub_int ⟨.int _, H, I.tok _, ⟨_, rfl⟩, q⟩
end

/-! ### while -/
section
variable {X : Cx} {pos : Pos}
/-- the invariant W with its measure -/
def tWhile (c : TT) (tb : TS) : TS := fun D σ H => ∃ W : Nat → St → Hp → Prop, (∃ m, W m σ H) ∧ ∀ m σ H, W m σ H →
  c σ H fun b H1 => if b = true then ∃ N : St → Hp → Prop, (∀ σ' H', N σ' H' → ∃ m', m' < m ∧ W m' σ' H') ∧ tb { D with nx := N, ct := N, bk := D.nx } σ H1 else D.nx σ H1
theorem ps_while {c : Expr} {body : List Stmt} {tc : TT} {tb : TS} (hp : PassesOwn (model X.prog X.w) X.A X.env X.xe) (hc : PT X c tc) (hb : PSs X body tb) : PS X (.While c body [] pos) (tWhile tc tb) := by
  intro pins s σ H D I h
  obtain ⟨W, ⟨m0, w0⟩, turn⟩ := h
  refine wpAny_While (codeAny_whileLoop (fun n s' => ∃ σ' H', Inv X pins σ' H' s' ∧ W n σ' H') ?_ m0 ⟨σ, H, I, w0⟩)
  rintro n s1 ⟨σ1, H1, I1, w1⟩
  refine wpAny_passesOwn hp (thn (hc pins s1 σ1 H1 _ I1 (turn n σ1 H1 w1)) fun b s2 ⟨H2, I2, q2⟩ => ?_)
  cases b with
  | true =>
    obtain ⟨N, hN, q2⟩ := q2
    rw [if_pos rfl]
    refine wpAny_passesOwn hp (thn (hb pins s2 σ1 H2 _ I2 q2) fun f s3 q3 => ?_)
    cases f with
    | next =>
      obtain ⟨σ3, H3, I3, n3⟩ := q3
      obtain ⟨m', hm, w3⟩ := hN σ3 H3 n3
      exact ⟨m', hm, σ3, H3, I3, w3⟩
    | cont =>
      obtain ⟨σ3, H3, I3, n3⟩ := q3
      obtain ⟨m', hm, w3⟩ := hN σ3 H3 n3
      exact ⟨m', hm, σ3, H3, I3, w3⟩
    | brk => exact q3
    | ret v => exact q3
  | false =>
    rw [if_neg Bool.false_ne_true]
    exact wpAny_execs_nil ⟨σ1, H2, I2, q2⟩
end

/-! ### what a loop or a comprehension walks -/
/-- at turn i: it yields x (the heap may grow), or it stops -/
structure It where
  go : Nat → Hp → Prop
  yld : Nat → Hp → V → Hp → Prop
  stop : Nat → Hp → Prop
/-- the iterator's own objects may turn: they are not the frame's, not pinned, younger than the entry (or a comprehension's own) -/
def FpOk (X : Cx) (pins : List (Addr × Obj)) (H : Hp) (b : Addr) : Prop :=
  H b = none ∧ b ≠ X.env.locals ∧ b ∉ X.fs ∧ (b ∈ X.ex ∨ X.s₀.heap.objs.size ≤ b) ∧ (∀ x c, X.env.cells.lookup x = some c → c ≠ b) ∧ ∀ p ∈ X.pn ++ pins, p.1 ≠ b
theorem Inv.fpOk {X : Cx} {pins : List (Addr × Obj)} {σ : St} {H H' : Hp} {s : Shared} {b : Addr} (I : Inv X pins σ H s) (hb : s.heap.objs.size ≤ b) (hn : H' b = none) : FpOk X pins H' b := by
  refine ⟨hn, Nat.ne_of_gt (Nat.lt_of_lt_of_le I.lt hb), I.nofs hb, .inr (Nat.le_trans I.sz hb), fun x c e z => ?_, fun p hp z => ?_⟩
  · obtain ⟨v, q⟩ := I.cell x c e
    exact absurd (Nat.lt_of_lt_of_le q.lt (by rw [z]; exact hb)) (Nat.lt_irrefl _)
  · exact absurd (Nat.lt_of_lt_of_le (Heap.lt_size (I.pin p hp).1) (by rw [z]; exact hb)) (Nat.lt_irrefl _)
structure Turn (P : Program) (w : World) (K : PySem.W.Frag) (tg : Expr) (J : It) (fp : List Addr) (it : Addr) (tn : Nat → Heap → Prop) : Prop where
  mem : it ∈ fp
  obj : ∀ i h, tn i h → ∀ b ∈ fp, ∃ o, h.get? b = some o ∧ ∀ v, o.data ≠ .cell v
  keep : ∀ i h h', tn i h → (∀ b ∈ fp, ∀ o, h.get? b = some o → h'.get? b = some o) → tn i h'
  item : ∀ (X : Cx), X.prog = P → X.w = w → X.K = K → X.calm = true → ∀ (i : Nat) (pins : List (Addr × Obj)) (s : Shared) (σ : St) (H : Hp) (E : Value → Shared → Prop), Inv X pins σ H s → (∀ b ∈ fp, FpOk X pins H b) → tn i s.heap → J.go i H →
    wpAny (model P w) X.A (pyNext (.ref it)) (fun r s1 => ∃ u, r = some u ∧
      wpAny (model P w) X.A (letOwnedTupleGo tg (.ref it) u) (fun _ s2 => ∃ x H', Inv X pins σ H' s2 ∧ RelV x u ∧ J.yld i H x H' ∧ tn (i + 1) s2.heap ∧ ∀ b ∈ fp, H' b = none) E s1) E s
  done : ∀ (X : Cx), X.prog = P → X.w = w → X.K = K → X.calm = true → ∀ (i : Nat) (pins : List (Addr × Obj)) (s : Shared) (σ : St) (H : Hp) (E : Value → Shared → Prop), Inv X pins σ H s → (∀ b ∈ fp, FpOk X pins H b) → tn i s.heap → J.stop i H →
    wpAny (model P w) X.A (pyNext (.ref it)) (fun r s1 => r = none ∧ Inv X pins σ H s1) E s
  self : ∀ (A : Around) (i : Nat) (s : Shared) (Q : Value → Shared → Prop) (E : Value → Shared → Prop), tn i s.heap → Q (.ref it) s → wpAny (model P w) A (pyIter (.ref it)) Q E s
abbrev TI := St → Hp → (It → Hp → Prop) → Prop
/-- an iterator has come -/
def PIE (X : Cx) (pins : List (Addr × Obj)) (σ : St) (tg : Expr) (R : It → Hp → Prop) (itv : Value) (s2 : Shared) : Prop :=
  ∃ (it : Addr) (fp : List Addr) (tn : Nat → Heap → Prop) (J : It) (H' : Hp), itv = .ref it ∧ Inv X pins σ H' s2 ∧ Turn X.prog X.w X.K tg J fp it tn ∧ tn 0 s2.heap ∧ (∀ b ∈ fp, FpOk X pins H' b) ∧ R J H'
def PI (X : Cx) (tg iter : Expr) (wi : TI) : Prop :=
  ∀ (pins : List (Addr × Obj)) (s : Shared) (σ : St) (H : Hp) (R : It → Hp → Prop), Inv X pins σ H s → wi σ H R →
    wpAny (model X.prog X.w) X.A (eval iter X.env) (fun v s1 => wpAny (model X.prog X.w) X.A (pyIter v) (PIE X pins σ tg R) X.xe s1) X.xe s

/-- the step ahead of the store is nothing for an iterator that keeps no tuple -/
theorem go_of {M : Model} {A : Around} {E : Value → Shared → Prop} {s : Shared} {tg : Expr} {it : Addr} {u : Value} {o : Obj} {n : String} {vs : Array Value} {Q : Unit → Shared → Prop} (ho : s.heap.get? it = some o) (hc : o.cls = .type n) (hd : o.data = .fields vs)
    (hn : ["enumerate", "zip", "dict_itemiterator", "dict_reverseitemiterator", "odict_iterator", "itertools.zip_longest", "itertools.pairwise"].contains n = false) (hQ : Q () s) : wpAny M A (letOwnedTupleGo tg (.ref it) u) Q E s := by
  unfold letOwnedTupleGo
  cases tg <;> first
    | exact wpAny_pure hQ
    | (cases u <;> first
        | exact wpAny_pure hQ
        | (refine wpAny_bind (wpAny_load ho ?_)
           rw [hc, hd]
           show wpAny M A (if (["enumerate", "zip", "dict_itemiterator", "dict_reverseitemiterator", "odict_iterator", "itertools.zip_longest", "itertools.pairwise"].contains n && vs[0]? == some (rawInt _)) = true then _ else _) Q E s
           rw [if_neg (by intro h; rw [hn, Bool.false_and] at h; cases h)]
           exact wpAny_pure hQ))

/-- the list at a, as it stands at each turn (a loop may append to it) -/
def Itl (K : PySem.W.Frag) (a : Addr) : It :=
  ⟨fun i H => ∃ xs x, SqL K H a xs ∧ xs[i]? = some x, fun i H x H' => H' = H ∧ ∀ xs, SqL K H a xs → xs[i]? = some x, fun i H => ∃ xs, SqL K H a xs ∧ xs.length ≤ i⟩
def Itt (K : PySem.W.Frag) (a : Addr) : It :=
  ⟨fun i H => ∃ xs x, SqT K H a xs ∧ xs[i]? = some x, fun i H x H' => H' = H ∧ ∀ xs, SqT K H a xs → xs[i]? = some x, fun i H => ∃ xs, SqT K H a xs ∧ xs.length ≤ i⟩
/-- lo, lo + 1, .. (n of them) -/
def Itr (lo : Int) (n : Nat) : It := ⟨fun i _ => i < n, fun i H x H' => H' = H ∧ x = .int (lo + i), fun i _ => n ≤ i⟩
theorem turn_list {P : Program} {w : World} {K : PySem.W.Frag} {tg : Expr} (a it : Addr) : Turn P w K tg (Itl K a) [it] it (fun i h => h.IsListIter it a i) where
  mem := by simp
  obj := fun i h st b hb => by
    have e : b = it := by simpa using hb
    subst e
    obtain ⟨o, e, c, d⟩ := st
    exact ⟨o, e, fun v z => by rw [d] at z; cases z⟩
  keep := fun i h h' st k => st.at fun o e => k it (by simp) o e
  item := by
    intro X hP hw hK hc i pins s σ H E I hf st hg
    subst hP hw hK
    obtain ⟨xs, x, hq, hx⟩ := hg
    obtain ⟨its, rv, p, hz⟩ := I.list hq
    obtain ⟨u, hu, ru⟩ := rv.get hx
    obtain ⟨f0, f1, f2, f3, f4, f5⟩ := hf it (by simp)
    refine wpAny_pyNext_list_item st p.isList (x := u) (by simpa using hu) fun h' st' sb => ?_
    have I1 : Inv X pins σ H { s with heap := h' } := I.turned (t' := s.toks) (fun b o hb e => (sb.2 b hb).trans e) f0 f1 f3 f4 f5
    obtain ⟨o, e, c, d⟩ := id st'
    exact ⟨u, rfl, go_of (s := { s with heap := h' }) e c d (by decide) ⟨x, H, I1, ru, ⟨rfl, fun ys hy => by rw [I.list_inj hy hq]; exact hx⟩, st', fun b hb => (hf b hb).1⟩⟩
  done := by
    intro X hP hw hK hc i pins s σ H E I hf st hg
    subst hP hw hK
    obtain ⟨xs, hq, hx⟩ := hg
    obtain ⟨its, rv, p, hz⟩ := I.list hq
    obtain ⟨f0, f1, f2, f3, f4, f5⟩ := hf it (by simp)
    have hl := rv.length
    exact wpAny_pyNext_list_end (I.ok.hd hc) st p.isList (by simp; omega) fun h' eb => ⟨rfl, I.turned (t' := s.toks) (fun b o hb e => eb b o hb e) f0 f1 f3 f4 f5⟩
  self := fun _ _ _ _ _ st h => wpAny_pyIter_listiter st h
theorem turn_tuple {P : Program} {w : World} {K : PySem.W.Frag} {tg : Expr} (a it : Addr) : Turn P w K tg (Itt K a) [it] it (fun i h => h.IsTupleIter it a i) where
  mem := by simp
  obj := fun i h st b hb => by
    have e : b = it := by simpa using hb
    subst e
    obtain ⟨o, e, c, d⟩ := st
    exact ⟨o, e, fun v z => by rw [d] at z; cases z⟩
  keep := fun i h h' st k => st.at fun o e => k it (by simp) o e
  item := by
    intro X hP hw hK hc i pins s σ H E I hf st hg
    subst hP hw hK
    obtain ⟨xs, x, hq, hx⟩ := hg
    obtain ⟨its, rv, p, hz⟩ := I.tuple hq
    obtain ⟨u, hu, ru⟩ := rv.get hx
    obtain ⟨f0, f1, f2, f3, f4, f5⟩ := hf it (by simp)
    refine wpAny_pyNext_tuple_item st (show s.heap.IsTuple a its.toArray from p) (x := u) (by simpa using hu) fun h' st' sb => ?_
    have I1 : Inv X pins σ H { s with heap := h' } := I.turned (t' := s.toks) (fun b o hb e => (sb.2 b hb).trans e) f0 f1 f3 f4 f5
    obtain ⟨o, e, c, d⟩ := id st'
    exact ⟨u, rfl, go_of (s := { s with heap := h' }) e c d (by decide) ⟨x, H, I1, ru, ⟨rfl, fun ys hy => by rw [I.tuple_inj hy hq]; exact hx⟩, st', fun b hb => (hf b hb).1⟩⟩
  done := by
    intro X hP hw hK hc i pins s σ H E I hf st hg
    subst hP hw hK
    obtain ⟨xs, hq, hx⟩ := hg
    obtain ⟨its, rv, p, hz⟩ := I.tuple hq
    obtain ⟨f0, f1, f2, f3, f4, f5⟩ := hf it (by simp)
    have hl := rv.length
    exact wpAny_pyNext_tuple_end (I.ok.hd hc) st (show s.heap.IsTuple a its.toArray from p) (by simp; omega) fun h' eb => ⟨rfl, I.turned (t' := s.toks) (fun b o hb e => eb b o hb e) f0 f1 f3 f4 f5⟩
  self := fun _ _ _ _ _ st h => wpAny_pyIter_tupleiter st h
theorem turn_range {P : Program} {w : World} {K : PySem.W.Frag} {tg : Expr} (it : Addr) (lo : Int) (n : Nat) : Turn P w K tg (Itr lo n) [it] it (fun i h => IsRangeIter h it (lo + (i : Nat) * 1) ((n : Int) - (i : Nat)) 1) where
  mem := by simp
  obj := fun i h st b hb => by
    have e : b = it := by simpa using hb
    subst e
    exact ⟨_, st, fun v z => by
      have z' : Data.fields _ = Data.cell v := z
      cases z'⟩
  keep := fun i h h' st k => k it (by simp) _ st
  item := by
    intro X hP hw hK hc i pins s σ H E I hf st hg
    subst hP hw hK
    obtain ⟨f0, f1, f2, f3, f4, f5⟩ := hf it (by simp)
    have W := Walks.range (prog := X.prog) (w := X.w) (I.ok.hd hc) it lo 1 n
    refine W.item i s _ _ hg st fun v h' tk hv st' kk => ?_
    obtain ⟨t, rfl⟩ := hv
    have I1 : Inv X pins σ H { s with heap := h', toks := tk } := I.turned (fun b o hb e => kk b o (by simpa using hb) e) f0 f1 f3 f4 f5
    refine ⟨_, rfl, go_of (s := { s with heap := h', toks := tk }) (n := "range_iterator") st' rfl rfl (by decide) ⟨.int (lo + i), H, I1, ⟨t, ?_⟩, ⟨rfl, rfl⟩, st', fun b hb => (hf b hb).1⟩⟩
    rw [Int.mul_one]
  done := by
    intro X hP hw hK hc i pins s σ H E I hf st hg
    subst hP hw hK
    obtain ⟨f0, f1, f2, f3, f4, f5⟩ := hf it (by simp)
    exact wpAny_pyNext_range_end (I.ok.hd hc) st (by have : n ≤ i := hg; omega) fun h' eb => ⟨rfl, I.turned (t' := s.toks) (fun b o hb e => eb b o hb e) f0 f1 f3 f4 f5⟩
  self := fun _ _ _ _ _ st h => wpAny_pyIter_rangeiter st h
end L2

namespace L2
open PySem PySem.Spec PyProof.Rows
section
variable {X : Cx} {tg : Expr}
def iList (K : PySem.W.Frag) (tl : TE) : TI := fun σ H R => tl σ H fun x H1 => ∃ a, x = .ref a ∧ (∃ xs, SqL K H1 a xs) ∧ R (Itl K a) H1
def iTup (K : PySem.W.Frag) (tl : TE) : TI := fun σ H R => tl σ H fun x H1 => ∃ a, x = .ref a ∧ (∃ xs, SqT K H1 a xs) ∧ R (Itt K a) H1
theorem pi_list {l : Expr} {tl : TE} (hl : PE X l tl) : PI X tg l (iList X.K tl) := by
  intro pins s σ H R I h
  refine thn (hl pins s σ H _ I h) fun v s1 ⟨x, H1, I1, r1, q1⟩ => ?_
  obtain ⟨a, e, ⟨xs, hq⟩, q⟩ := q1
  subst e
  cases r1
  obtain ⟨its, rv, p, hz⟩ := I1.list hq
  refine wpAny_pyIter_list p.isList ?_
  refine ⟨s1.heap.objs.size, [s1.heap.objs.size], _, _, H1, rfl, I1.kept (t' := s1.toks) fun b o e => Heap.get?_push_of_some _ e, turn_list a _, ⟨_, Heap.get?_push_size _ rfl, rfl, rfl⟩, fun b hb => ?_, q⟩
  have e : b = s1.heap.objs.size := by simpa using hb
  subst e
  exact I1.fpOk (Nat.le_refl _) (I1.hok.fresh (Nat.le_refl _))
theorem pi_tup {l : Expr} {tl : TE} (hl : PE X l tl) : PI X tg l (iTup X.K tl) := by
  intro pins s σ H R I h
  refine thn (hl pins s σ H _ I h) fun v s1 ⟨x, H1, I1, r1, q1⟩ => ?_
  obtain ⟨a, e, ⟨xs, hq⟩, q⟩ := q1
  subst e
  cases r1
  obtain ⟨its, rv, p, hz⟩ := I1.tuple hq
  refine wpAny_pyIter_tuple (show s1.heap.IsTuple a its.toArray from p) ?_
  refine ⟨s1.heap.objs.size, [s1.heap.objs.size], _, _, H1, rfl, I1.kept (t' := s1.toks) fun b o e => Heap.get?_push_of_some _ e, turn_tuple a _, ⟨_, Heap.get?_push_size _ rfl, rfl, rfl⟩, fun b hb => ?_, q⟩
  have e : b = s1.heap.objs.size := by simpa using hb
  subst e
  exact I1.fpOk (Nat.le_refl _) (I1.hok.fresh (Nat.le_refl _))
/-- a range object just made, walked -/
theorem range_it {pins : List (Addr × Obj)} {σ : St} {H : Hp} {s : Shared} {R : It → Hp → Prop} {E : Value → Shared → Prop} {lo hi : Int} {t u v : Tok} {tk : Nat} (I : Inv X pins σ H s) (h1 : -(2 ^ 62) ≤ lo) (h2 : lo < 2 ^ 62) (h3 : -(2 ^ 62) ≤ hi) (h4 : hi < 2 ^ 62)
    (q : R (Itr lo (hi - lo).toNat) H) : wpAny (model X.prog X.w) X.A (pyIter (.ref s.heap.objs.size)) (PIE X pins σ tg R) E { s with heap := s.heap.push { cls := .type "range", data := .fields #[.int lo t, .int hi u, .int 1 v] }, toks := tk } := by
  refine wpAny_pyIter_range (IsRange.new ..) (small_one h1 h2 h3 h4) ?_
  have I1 : Inv X pins σ H { s with heap := s.heap.push { cls := .type "range", data := .fields #[.int lo t, .int hi u, .int 1 v] }, toks := tk } := I.kept fun b o e => Heap.get?_push_of_some _ e
  refine ⟨(s.heap.push { cls := .type "range", data := .fields #[.int lo t, .int hi u, .int 1 v] }).objs.size, [(s.heap.push { cls := .type "range", data := .fields #[.int lo t, .int hi u, .int 1 v] }).objs.size], _, _, H, rfl,
    I1.kept (t' := tk) fun b o e => Heap.get?_push_of_some _ e, turn_range _ lo (hi - lo).toNat, ?_, fun b hb => ?_, q⟩
  · have e1 : lo + ((0 : Nat) : Int) * 1 = lo := by simp
    have e2 : (((hi - lo).toNat : Nat) : Int) - ((0 : Nat) : Int) = Builtin.Range.rangeSize lo hi 1 := by rw [rangeSize_one]; split <;> omega
    show IsRangeIter _ _ (lo + ((0 : Nat) : Int) * 1) ((((hi - lo).toNat : Nat) : Int) - ((0 : Nat) : Int)) 1
    rw [e1, e2]
    exact Heap.get?_push_size _ rfl
  · have e : b = (s.heap.push { cls := .type "range", data := .fields #[.int lo t, .int hi u, .int 1 v] }).objs.size := by simpa using hb
    subst e
    exact I1.fpOk (Nat.le_refl _) (I1.hok.fresh (Nat.le_refl _))
def iRng1 (ta : TA) : TI := fun σ H R => ta σ H fun vs H1 => ∃ j : Int, vs = [.int j] ∧ -(2 ^ 62) ≤ j ∧ j < 2 ^ 62 ∧ R (Itr 0 j.toNat) H1
def iRng2 (ta : TA) : TI := fun σ H R => ta σ H fun vs H1 => ∃ i j : Int, vs = [.int i, .int j] ∧ (-(2 ^ 62) ≤ i ∧ i < 2 ^ 62 ∧ -(2 ^ 62) ≤ j ∧ j < 2 ^ 62) ∧ R (Itr i (j - i).toNat) H1
theorem pi_range1 {a : Expr} {ta : TA} {p pos : Pos} (hg : Gl X "range") (hm : X.mg "range" = none) (ha : PA X [a] ta) (hs : starEach [a] X.env = [(false, eval a X.env)] := by rfl) : PI X tg (.Call (.Name "range" p) [a] [] pos) (iRng1 ta) := by
  intro pins s σ H R I h
  refine Call_ (ld_blt I hg hm boot_range (PyProof.Rows.callWith_type1 (thn (ha pos pins s σ H _ I h) fun us s1 ⟨vs, H1, I1, r1, q1⟩ => ?_) hs rfl))
  obtain ⟨j, e, q1, q2, q⟩ := q1
  subst e
  cases r1 with
  | cons r rr =>
    cases rr
    obtain ⟨t, rfl⟩ := r
    exact call_range_1 (range_it I1 (by omega) (by omega) q1 q2 (by simpa using q))
theorem pi_range2 {a b : Expr} {ta : TA} {p pos : Pos} (hg : Gl X "range") (hm : X.mg "range" = none) (ha : PA X [a, b] ta) (hs : starEach [a, b] X.env = [(false, eval a X.env), (false, eval b X.env)] := by rfl) (hs2 : starEach [b] X.env = [(false, eval b X.env)] := by rfl) :
    PI X tg (.Call (.Name "range" p) [a, b] [] pos) (iRng2 ta) := by
  intro pins s σ H R I h
  refine Call_ (ld_blt I hg hm boot_range (PyProof.Rows.callWith_type1 (thn (ha pos pins s σ H _ I h) fun us s1 ⟨vs, H1, I1, r1, q1⟩ => ?_) (by rw [hs, hs2]) (by rw [hs2]; rfl)))
  obtain ⟨i, j, e, ⟨q1, q2, q3, q4⟩, q⟩ := q1
  subst e
  cases r1 with
  | cons r rr =>
    cases rr with
    | cons r' rr =>
      cases rr
      obtain ⟨t, rfl⟩ := r
      obtain ⟨t', rfl⟩ := r'
      exact call_range_2 (range_it I1 q1 q2 q3 q4 q)

/-! ### for -/
/-- W: the invariant by the turn and a measure; N: what the body is to reach -/
def tFor (wi : TI) (g : TG) (tb : TS) : TS := fun D σ H => wi σ H fun J H1 => ∃ W : Nat → Nat → St → Hp → Prop, (∃ m, W 0 m σ H1) ∧ ∀ i m σ H, W i m σ H →
  (J.stop i H ∧ D.nx σ H) ∨ (J.go i H ∧ ∃ N : St → Hp → Prop, (∀ σ' H', N σ' H' → ∃ m', m' < m ∧ W (i + 1) m' σ' H') ∧ ∀ x H', J.yld i H x H' → g x σ H' fun σ2 H2 => tb { D with nx := N, ct := N, bk := D.nx } σ2 H2)
/-- the records at fp as they stand -/
def pinsAt (fp : List Addr) (h : Heap) : List (Addr × Obj) := fp.filterMap fun b => (h.get? b).map fun o => (b, o)
theorem mem_pinsAt {fp : List Addr} {h : Heap} {b : Addr} {o : Obj} (hb : b ∈ fp) (e : h.get? b = some o) : (b, o) ∈ pinsAt fp h := List.mem_filterMap.mpr ⟨b, hb, by rw [e]; rfl⟩
theorem of_pinsAt {fp : List Addr} {h : Heap} {p : Addr × Obj} (hp : p ∈ pinsAt fp h) : p.1 ∈ fp ∧ h.get? p.1 = some p.2 := by
  obtain ⟨b, hb, e⟩ := List.mem_filterMap.mp hp
  cases q : h.get? b with
  | none => rw [q] at e; cases e
  | some o =>
    rw [q] at e
    have e' : (b, o) = p := Option.some.inj e
    subst e'
    exact ⟨hb, q⟩
theorem Inv.pinned {pins : List (Addr × Obj)} {σ : St} {H : Hp} {s : Shared} {fp : List Addr} (I : Inv X pins σ H s) (hf : ∀ b ∈ fp, FpOk X pins H b) (ho : ∀ b ∈ fp, ∃ o, s.heap.get? b = some o ∧ ∀ v, o.data ≠ .cell v) : Inv X (pins ++ pinsAt fp s.heap) σ H s :=
  I.pins_of fun p hp => (List.mem_append.mp hp).elim (fun z => I.pin p (List.mem_append_right _ z)) fun z => by
    obtain ⟨hb, e⟩ := of_pinsAt z
    obtain ⟨f0, f1, f2, _⟩ := hf p.1 hb
    obtain ⟨o, e', d⟩ := ho p.1 hb
    rw [e] at e'; cases e'
    exact ⟨e, f0, f1, f2, d⟩
theorem Inv.unpinned {pins pl : List (Addr × Obj)} {σ : St} {H : Hp} {s : Shared} (I : Inv X (pins ++ pl) σ H s) : Inv X pins σ H s := I.pins_of fun p hp => I.pin p (List.mem_append_right _ (List.mem_append_left _ hp))
theorem ps_for {iter : Expr} {body : List Stmt} {wi : TI} {g : TG} {tb : TS} {pos : Pos} (hp : PassesOwn (model X.prog X.w) X.A X.env X.xe) (hc : X.calm = true) (hi : PI X tg iter wi) (hg : PG X tg g) (hb : PSs X body tb)
    (hs : ∀ x, foldedSetIterable iter X.env x = pure x := by intro _; rfl) : PS X (.For tg iter body [] pos) (tFor wi g tb) := by
  intro pins s σ H D I h
  refine wpAny_For (thn (hi pins s σ H _ I h) fun v s1 h1 => thn h1 fun itv s2 h2 => ?_) hs
  obtain ⟨it, fp, tn, J, H2, e, I2, T, st2, f2, W, ⟨m0, w0⟩, turn⟩ := h2
  subst e
  -- what stays true of the iterator's objects through the loop
  have stat : ∀ {H' : Hp}, (∀ b ∈ fp, H' b = none) → ∀ b ∈ fp, FpOk X pins H' b := fun hn b hb => ⟨hn b hb, (f2 b hb).2⟩
  refine codeAny_forLoop_any (fun n s' => ∃ i σ' H', Inv X pins σ' H' s' ∧ tn i s'.heap ∧ (∀ b ∈ fp, H' b = none) ∧ W i n σ' H') ?_ m0 ⟨0, σ, H2, I2, st2, fun b hb => (f2 b hb).1, w0⟩
  rintro n s3 ⟨i, σ3, H3, I3, st3, fr3, w3⟩
  rcases turn i n σ3 H3 w3 with ⟨stop, qn⟩ | ⟨go, N, hN, step⟩
  · refine wpAny_passesOwn hp (thn (T.done X rfl rfl rfl hc i pins s3 σ3 H3 X.xe I3 (stat fr3) st3 stop) fun r s4 ⟨hr, I4⟩ => ?_)
    subst hr
    exact wpAny_execs_nil ⟨σ3, H3, I4, qn⟩
  · refine wpAny_passesOwn hp (thn (T.item X rfl rfl rfl hc i pins s3 σ3 H3 X.xe I3 (stat fr3) st3 go) fun r s4 ⟨u, hr, h4⟩ => ?_)
    subst hr
    refine wpAny_passesOwn hp (thn h4 fun _ s5 ⟨x, H5, I5, r5, y5, st5, fr5⟩ => ?_)
    have I5' := I5.pinned (stat fr5) (T.obj _ _ st5)
    refine wpAny_passesOwn hp (thn (hg _ s5 σ3 H5 x u _ I5' r5 (step x H5 y5)) fun _ s6 ⟨σ6, H6, I6, q6⟩ => ?_)
    refine wpAny_passesOwn hp (thn (hb _ s6 σ6 H6 _ I6 q6) fun f s7 q7 => ?_)
    have again : ∀ {σ7 : St} {H7 : Hp}, Inv X (pins ++ pinsAt fp s5.heap) σ7 H7 s7 → N σ7 H7 → ∃ m, m < n ∧ ∃ i σ' H', Inv X pins σ' H' s7 ∧ tn i s7.heap ∧ (∀ b ∈ fp, H' b = none) ∧ W i m σ' H' := fun {σ7 H7} I7 n7 => by
      obtain ⟨m', hm, w7⟩ := hN σ7 H7 n7
      refine ⟨m', hm, i + 1, σ7, H7, I7.unpinned, T.keep _ _ _ st5 fun b hb o e => (I7.pin (b, o) (List.mem_append_right _ (List.mem_append_right _ (mem_pinsAt hb e)))).1, fun b hb => ?_, w7⟩
      obtain ⟨o, e, d⟩ := T.obj _ _ st5 b hb
      exact (I7.pin (b, o) (List.mem_append_right _ (List.mem_append_right _ (mem_pinsAt hb e)))).2.1
    cases f with
    | next => obtain ⟨σ7, H7, I7, n7⟩ := q7; exact again I7 n7
    | cont => obtain ⟨σ7, H7, I7, n7⟩ := q7; exact again I7 n7
    | brk => obtain ⟨σ7, H7, I7, q7⟩ := q7; exact ⟨σ7, H7, I7.unpinned, q7⟩
    | ret v => obtain ⟨x7, σ7, H7, I7, r7, q7⟩ := q7; exact ⟨x7, σ7, H7, I7.unpinned, r7, q7⟩
end

/-! ### the forms one uses -/
/-- over a list that the body leaves as it is -/
theorem for_list {K : PySem.W.Frag} {a : Addr} {xs : List V} {g : TG} {tb : TS} {D : Ends} {σ : St} {H : Hp} (Pv : Nat → St → Hp → Prop) (h0 : Pv 0 σ H) (hl : ∀ i σ H, i ≤ xs.length → Pv i σ H → SqL K H a xs)
    (hs : ∀ i x σ H, xs[i]? = some x → Pv i σ H → g x σ H fun σ2 H2 => tb { D with nx := Pv (i + 1), ct := Pv (i + 1), bk := D.nx } σ2 H2) (hd : ∀ σ H, Pv xs.length σ H → D.nx σ H) :
    ∃ W : Nat → Nat → St → Hp → Prop, (∃ m, W 0 m σ H) ∧ ∀ i m σ H, W i m σ H →
      ((Itl K a).stop i H ∧ D.nx σ H) ∨ ((Itl K a).go i H ∧ ∃ N : St → Hp → Prop, (∀ σ' H', N σ' H' → ∃ m', m' < m ∧ W (i + 1) m' σ' H') ∧ ∀ x H', (Itl K a).yld i H x H' → g x σ H' fun σ2 H2 => tb { D with nx := N, ct := N, bk := D.nx } σ2 H2) := by
  refine ⟨fun i m σ H => m = xs.length - i ∧ i ≤ xs.length ∧ Pv i σ H, ⟨xs.length, by simp, Nat.zero_le _, h0⟩, ?_⟩
  rintro i m σ H ⟨rfl, hi, p⟩
  have q := hl i σ H hi p
  by_cases hlt : i < xs.length
  · refine .inr ⟨⟨xs, xs[i], q, by simp [hlt]⟩, Pv (i + 1), fun σ' H' p' => ⟨xs.length - (i + 1), by omega, rfl, hlt, p'⟩, fun x H' y => ?_⟩
    obtain ⟨e, y⟩ := y
    subst e
    exact hs i x σ _ (y xs q) p
  · have e : i = xs.length := by omega
    subst e
    exact .inl ⟨⟨xs, q, Nat.le_refl _⟩, hd σ H p⟩
theorem for_tup {K : PySem.W.Frag} {a : Addr} {xs : List V} {g : TG} {tb : TS} {D : Ends} {σ : St} {H : Hp} (Pv : Nat → St → Hp → Prop) (h0 : Pv 0 σ H) (hl : ∀ i σ H, i ≤ xs.length → Pv i σ H → SqT K H a xs)
    (hs : ∀ i x σ H, xs[i]? = some x → Pv i σ H → g x σ H fun σ2 H2 => tb { D with nx := Pv (i + 1), ct := Pv (i + 1), bk := D.nx } σ2 H2) (hd : ∀ σ H, Pv xs.length σ H → D.nx σ H) :
    ∃ W : Nat → Nat → St → Hp → Prop, (∃ m, W 0 m σ H) ∧ ∀ i m σ H, W i m σ H →
      ((Itt K a).stop i H ∧ D.nx σ H) ∨ ((Itt K a).go i H ∧ ∃ N : St → Hp → Prop, (∀ σ' H', N σ' H' → ∃ m', m' < m ∧ W (i + 1) m' σ' H') ∧ ∀ x H', (Itt K a).yld i H x H' → g x σ H' fun σ2 H2 => tb { D with nx := N, ct := N, bk := D.nx } σ2 H2) := by
  refine ⟨fun i m σ H => m = xs.length - i ∧ i ≤ xs.length ∧ Pv i σ H, ⟨xs.length, by simp, Nat.zero_le _, h0⟩, ?_⟩
  rintro i m σ H ⟨rfl, hi, p⟩
  have q := hl i σ H hi p
  by_cases hlt : i < xs.length
  · refine .inr ⟨⟨xs, xs[i], q, by simp [hlt]⟩, Pv (i + 1), fun σ' H' p' => ⟨xs.length - (i + 1), by omega, rfl, hlt, p'⟩, fun x H' y => ?_⟩
    obtain ⟨e, y⟩ := y
    subst e
    exact hs i x σ _ (y xs q) p
  · have e : i = xs.length := by omega
    subst e
    exact .inl ⟨⟨xs, q, Nat.le_refl _⟩, hd σ H p⟩
theorem for_range {lo : Int} {n : Nat} {g : TG} {tb : TS} {D : Ends} {σ : St} {H : Hp} (Pv : Nat → St → Hp → Prop) (h0 : Pv 0 σ H)
    (hs : ∀ i σ H, i < n → Pv i σ H → g (.int (lo + i)) σ H fun σ2 H2 => tb { D with nx := Pv (i + 1), ct := Pv (i + 1), bk := D.nx } σ2 H2) (hd : ∀ σ H, Pv n σ H → D.nx σ H) :
    ∃ W : Nat → Nat → St → Hp → Prop, (∃ m, W 0 m σ H) ∧ ∀ i m σ H, W i m σ H →
      ((Itr lo n).stop i H ∧ D.nx σ H) ∨ ((Itr lo n).go i H ∧ ∃ N : St → Hp → Prop, (∀ σ' H', N σ' H' → ∃ m', m' < m ∧ W (i + 1) m' σ' H') ∧ ∀ x H', (Itr lo n).yld i H x H' → g x σ H' fun σ2 H2 => tb { D with nx := N, ct := N, bk := D.nx } σ2 H2) := by
  refine ⟨fun i m σ H => m = n - i ∧ i ≤ n ∧ Pv i σ H, ⟨n, by simp, Nat.zero_le _, h0⟩, ?_⟩
  rintro i m σ H ⟨rfl, hi, p⟩
  by_cases hlt : i < n
  · refine .inr ⟨hlt, Pv (i + 1), fun σ' H' p' => ⟨n - (i + 1), by omega, rfl, hlt, p'⟩, fun x H' y => ?_⟩
    obtain ⟨e, y⟩ := y
    subst e y
    exact hs i σ _ hlt p
  · have e : i = n := by omega
    subst e
    exact .inl ⟨Nat.le_refl _, hd σ H p⟩
/-- while, by a word and a measure of the state -/
theorem while_by {c : TT} {tb : TS} {D : Ends} {σ : St} {H : Hp} (Pv : St → Hp → Prop) (μ : St → Hp → Nat) (h0 : Pv σ H)
    (hs : ∀ σ H, Pv σ H → c σ H fun b H1 => if b = true then tb { D with nx := fun σ' H' => Pv σ' H' ∧ μ σ' H' < μ σ H, ct := fun σ' H' => Pv σ' H' ∧ μ σ' H' < μ σ H, bk := D.nx } σ H1 else D.nx σ H1)
    (mono : ∀ σ H Q Q', (∀ b H1, Q b H1 → Q' b H1) → c σ H Q → c σ H Q') : tWhile c tb D σ H := by
  refine ⟨fun m σ H => m = μ σ H ∧ Pv σ H, ⟨_, rfl, h0⟩, ?_⟩
  rintro m σ H ⟨rfl, p⟩
  refine mono σ H _ _ (fun b H1 q => ?_) (hs σ H p)
  cases b with
  | true => exact ⟨_, fun σ' H' ⟨p', l⟩ => ⟨_, l, rfl, p'⟩, q⟩
  | false => exact q
end L2

namespace L2
open PySem PySem.Spec PyProof.Rows

abbrev R2 := V → V → Hp → VK → Prop
/-- a two-place operation on values: f is binaryOp op, inplaceOp op or compareOp op -/
def OpR (X : Cx) (f : Value → Value → Sem Value) (r : R2) : Prop :=
  ∀ (pins : List (Addr × Obj)) (s : Shared) (σ : St) (H : Hp) (x y : V) (v u : Value) (Q : VK), Inv X pins σ H s → RelV x v → RelV y u → r x y H Q →
    wpAny (model X.prog X.w) X.A (f v u) (EP X pins σ Q) X.xe s
/-- a one-place operation -/
def UnR (X : Cx) (f : Value → Sem Value) (r : V → Hp → VK → Prop) : Prop :=
  ∀ (pins : List (Addr × Obj)) (s : Shared) (σ : St) (H : Hp) (x : V) (v : Value) (Q : VK), Inv X pins σ H s → RelV x v → r x H Q →
    wpAny (model X.prog X.w) X.A (f v) (EP X pins σ Q) X.xe s
/-- a call of a value that is known (a builtin, a type) with values -/
def CallR (X : Cx) (f : Value) (r : List V → Hp → VK → Prop) : Prop :=
  ∀ (pins : List (Addr × Obj)) (s : Shared) (σ : St) (H : Hp) (xs : List V) (us : List Value) (Q : VK), Inv X pins σ H s → Vals xs us → r xs H Q →
    wpAny (model X.prog X.w) X.A (call f us) (EP X pins σ Q) X.xe s
/-- a value's truth -/
def TruR (X : Cx) (r : V → Hp → (Bool → Hp → Prop) → Prop) : Prop :=
  ∀ (pins : List (Addr × Obj)) (s : Shared) (σ : St) (H : Hp) (x : V) (v : Value) (Q : Bool → Hp → Prop), Inv X pins σ H s → RelV x v → r x H Q →
    wpAny (model X.prog X.w) X.A (truthy v) (TP X pins σ Q) X.xe s

def tOp (r : R2) (ta tb : TE) : TE := fun σ H Q => ta σ H fun x H1 => tb σ H1 fun y H2 => r x y H2 Q
def tUn (r : V → Hp → VK → Prop) (ta : TE) : TE := fun σ H Q => ta σ H fun x H1 => r x H1 Q
/-- ints in, under C, and a value out -/
def rI (C : Int → Int → Prop) (g : Int → Int → V) : R2 := fun x y H Q => ∃ i j, x = .int i ∧ y = .int j ∧ C i j ∧ Q (g i j) H
def rI0 (g : Int → Int → V) : R2 := fun x y H Q => ∃ i j, x = .int i ∧ y = .int j ∧ Q (g i j) H
def rU (g : Int → V) : V → Hp → VK → Prop := fun x H Q => ∃ i, x = .int i ∧ Q (g i) H

section
variable {X : Cx} {a b c : Expr} {ta tb tc : TE} {pos : Pos}

theorem binT (ha : PE X a ta) (hb : PE X b tb) {pins : List (Addr × Obj)} {s : Shared} {σ : St} {H : Hp} {R : V → V → Hp → Prop} (I : Inv X pins σ H s)
    (h : ta σ H fun x H1 => tb σ H1 fun y H2 => R x y H2) {Q : Value → Shared → Prop} {f : Value → Value → Sem Value}
    (hf : ∀ v u s2 x y H2, Inv X pins σ H2 s2 → RelV x v → RelV y u → R x y H2 → wpAny (model X.prog X.w) X.A (f v u) Q X.xe s2) :
    wpAny (model X.prog X.w) X.A (eval a X.env) (fun v s₁ => wpAny (model X.prog X.w) X.A (eval b X.env) (fun u s₂ => wpAny (model X.prog X.w) X.A (f v u) Q X.xe s₂) X.xe s₁) X.xe s := by
  refine thn (ha pins s σ H _ I h) fun v s1 ⟨x, H1, I1, r1, q1⟩ => ?_
  refine thn (hb pins s1 σ H1 _ I1 q1) fun u s2 ⟨y, H2, I2, r2, q2⟩ => ?_
  exact hf v u s2 x y H2 I2 r1 r2 q2

theorem pe_op {op : Operator} {r : R2} (ho : OpR X (binaryOp op) r) (ha : PE X a ta) (hb : PE X b tb) : PE X (.BinOp a op b pos) (tOp r ta tb) := by
  intro pins s σ H Q I h
  exact wpAny_BinOp (binT ha hb I h fun v u s2 x y H2 I2 rx ry q => ho pins s2 σ H2 x y v u Q I2 rx ry q)
theorem pe_un {op : UnaryOp} {r : V → Hp → VK → Prop} (ho : UnR X (unaryOp op) r) (ha : PE X a ta) : PE X (.UnaryOp op a pos) (tUn r ta) := by
  intro pins s σ H Q I h
  exact UnaryOp_ (thn (ha pins s σ H _ I h) fun v s1 ⟨x, H1, I1, r1, q1⟩ => ho pins s1 σ H1 x v Q I1 r1 q1)
/-- a op= e at a name: the name's slot i -/
theorem augR {op : Operator} {r : R2} (ho : OpR X (inplaceOp op) r) {pins : List (Addr × Obj)} {s : Shared} {σ : St} {H : Hp} {x y : V} {v u : Value} {Q : VK} (I : Inv X pins σ H s)
    (rx : RelV x v) (ry : RelV y u) (q : r x y H Q) : wpAny (model X.prog X.w) X.A (inplaceOp op v u) (EP X pins σ Q) X.xe s := ho pins s σ H x y v u Q I rx ry q

/-! ### ints -/
theorem opI {f : Value → Value → Sem Value} {C : Int → Int → Prop} {g : Int → Int → Int}
    (rule : ∀ (i j : Int) (t u : Tok) (s : Shared) (Q : Value → Shared → Prop) (E : Value → Shared → Prop), C i j → Q (.int (g i j) s.toks) { s with toks := s.toks + 1 } → wpAny (model X.prog X.w) X.A (f (.int i t) (.int j u)) Q E s) :
    OpR X f (rI C fun i j => .int (g i j)) := by
  intro pins s σ H x y v u Q I rx ry h
  obtain ⟨i, j, rfl, rfl, hc, q⟩ := h
  obtain ⟨t, rfl⟩ := rx
  obtain ⟨t', rfl⟩ := ry
  exact rule i j t t' s _ _ hc ⟨.int (g i j), H, I.tok _, ⟨_, rfl⟩, q⟩
theorem opI0 {f : Value → Value → Sem Value} {g : Int → Int → Int}
    (rule : ∀ (i j : Int) (t u : Tok) (s : Shared) (Q : Value → Shared → Prop) (E : Value → Shared → Prop), Q (.int (g i j) s.toks) { s with toks := s.toks + 1 } → wpAny (model X.prog X.w) X.A (f (.int i t) (.int j u)) Q E s) :
    OpR X f (rI0 fun i j => .int (g i j)) := by
  intro pins s σ H x y v u Q I rx ry h
  obtain ⟨i, j, rfl, rfl, q⟩ := h
  obtain ⟨t, rfl⟩ := rx
  obtain ⟨t', rfl⟩ := ry
  exact rule i j t t' s _ _ ⟨.int (g i j), H, I.tok _, ⟨_, rfl⟩, q⟩
theorem opB0 {f : Value → Value → Sem Value} {g : Int → Int → Bool}
    (rule : ∀ (i j : Int) (t u : Tok) (s : Shared) (Q : Value → Shared → Prop) (E : Value → Shared → Prop), Q (.bool (g i j)) s → wpAny (model X.prog X.w) X.A (f (.int i t) (.int j u)) Q E s) :
    OpR X f (rI0 fun i j => .bl (g i j)) := by
  intro pins s σ H x y v u Q I rx ry h
  obtain ⟨i, j, rfl, rfl, q⟩ := h
  obtain ⟨t, rfl⟩ := rx
  obtain ⟨t', rfl⟩ := ry
  exact rule i j t t' s _ _ ⟨.bl (g i j), H, I, rfl, q⟩

def CDiv (i j : Int) : Prop := 0 < j ∧ j < 1073741824
def CDivN (i j : Int) : Prop := j ≠ 0 ∧ j.natAbs < 1073741824
def CPow (i j : Int) : Prop := 0 ≤ j ∧ j ≤ 1000000 ∧ i.natAbs < 2 ^ 64
def CMul (i j : Int) : Prop := (-(2 ^ 64) < i ∧ i < 2 ^ 64) ∨ (-(2 ^ 64) < j ∧ j < 2 ^ 64)
theorem CMul.ok {i j : Int} (h : CMul i j) : IntMulOk i j := by
  rcases h with ⟨h1, h2⟩ | ⟨h1, h2⟩
  · exact .of_left (intBits_le_64 h1 h2)
  · exact .of_right (intBits_le_64 h1 h2)
theorem two_pow_nn (k : Nat) : (0 : Int) ≤ 2 ^ k := by
  rw [two_pow_cast]
  exact Int.natCast_nonneg _

theorem op_add : OpR X (binaryOp .Add) (rI0 fun i j => .int (i + j)) := opI0 fun _ _ _ _ _ _ _ q => add_int q
theorem op_sub : OpR X (binaryOp .Sub) (rI0 fun i j => .int (i - j)) := opI0 fun _ _ _ _ _ _ _ q => sub_int q
theorem op_mul : OpR X (binaryOp .Mult) (rI CMul fun i j => .int (i * j)) := opI fun _ _ _ _ _ _ _ hc q => mul_int q hc.ok
/-- // by a positive divisor -/
theorem op_fdiv : OpR X (binaryOp .FloorDiv) (rI CDiv fun i j => .int (i / j)) := opI fun i j _ _ _ _ _ hc q => by
  have h1 : (0 : Int) < j := hc.1
  have h2 : j < 1073741824 := hc.2
  exact floordiv_int (by omega) (by rw [Int.fdiv_eq_ediv_of_nonneg i (by omega)]; exact q) (.inl (PyProof.noPylong_small (by omega)))
theorem op_fdivN : OpR X (binaryOp .FloorDiv) (rI CDivN fun i j => .int (i.fdiv j)) := opI fun _ _ _ _ _ _ _ hc q => floordiv_int hc.1 q (.inl (PyProof.noPylong_small hc.2))
/-- % by a positive divisor of any size -/
theorem op_mod : OpR X (binaryOp .Mod) (rI (fun _ j => 0 < j) fun i j => .int (i % j)) := opI fun i j _ _ _ _ _ hc q => by
  have h1 : (0 : Int) < j := hc
  exact mod_int' (by omega) (by rw [Int.fmod_eq_emod_of_nonneg i (by omega)]; exact q)
theorem op_modN : OpR X (binaryOp .Mod) (rI (fun _ j => j ≠ 0) fun i j => .int (i.fmod j)) := opI fun _ _ _ _ _ _ _ hc q => mod_int' hc q
theorem op_pow : OpR X (binaryOp .Pow) (rI CPow fun i j => .int (i ^ j.toNat)) := opI fun _ _ _ _ _ _ _ hc q => pow_int_small hc.1 hc.2.1 hc.2.2 q
theorem op_shl : OpR X (binaryOp .LShift) (rI CPow fun i j => .int (i * 2 ^ j.toNat)) := opI fun _ _ _ _ _ _ _ hc q => lshift_int_small hc.1 hc.2.1 hc.2.2 q
theorem op_shr : OpR X (binaryOp .RShift) (rI (fun _ j => 0 ≤ j) fun i j => .int (i / 2 ^ j.toNat)) := opI fun i j _ _ _ _ _ hc q =>
  rshift_int hc (by rw [Int.fdiv_eq_ediv_of_nonneg i (two_pow_nn _)]; exact q)
theorem op_and : OpR X (binaryOp .BitAnd) (rI0 fun i j => .int (Builtin.bitAnd i j)) := opI0 fun _ _ _ _ _ _ _ q => and_int q
theorem op_or : OpR X (binaryOp .BitOr) (rI0 fun i j => .int (Builtin.bitOr i j)) := opI0 fun _ _ _ _ _ _ _ q => or_int q
theorem op_xor : OpR X (binaryOp .BitXor) (rI0 fun i j => .int (Builtin.bitXor i j)) := opI0 fun _ _ _ _ _ _ _ q => xor_int q

theorem iop_add : OpR X (inplaceOp .Add) (rI0 fun i j => .int (i + j)) := opI0 fun _ _ _ _ _ _ _ q => iadd_int q
theorem iop_sub : OpR X (inplaceOp .Sub) (rI0 fun i j => .int (i - j)) := opI0 fun _ _ _ _ _ _ _ q => isub_int q
theorem iop_mul : OpR X (inplaceOp .Mult) (rI CMul fun i j => .int (i * j)) := opI fun _ _ _ _ _ _ _ hc q => imul_int q hc.ok
theorem iop_fdiv : OpR X (inplaceOp .FloorDiv) (rI CDiv fun i j => .int (i / j)) := opI fun i j _ _ _ _ _ hc q => by
  have h1 : (0 : Int) < j := hc.1
  have h2 : j < 1073741824 := hc.2
  exact ifloordiv_int (by omega) (by rw [Int.fdiv_eq_ediv_of_nonneg i (by omega)]; exact q) (.inl (PyProof.noPylong_small (by omega)))
theorem iop_mod : OpR X (inplaceOp .Mod) (rI (fun _ j => 0 < j) fun i j => .int (i % j)) := opI fun i j _ _ _ _ _ hc q => by
  have h1 : (0 : Int) < j := hc
  exact imod_int (by omega) (by rw [Int.fmod_eq_emod_of_nonneg i (by omega)]; exact q)
theorem iop_shl : OpR X (inplaceOp .LShift) (rI CPow fun i j => .int (i * 2 ^ j.toNat)) := opI fun _ _ _ _ _ _ _ hc q => ilshift_int_small hc.1 hc.2.1 hc.2.2 q
theorem iop_shr : OpR X (inplaceOp .RShift) (rI (fun _ j => 0 ≤ j) fun i j => .int (i / 2 ^ j.toNat)) := opI fun i j _ _ _ _ _ hc q =>
  irshift_int hc (by rw [Int.fdiv_eq_ediv_of_nonneg i (two_pow_nn _)]; exact q)
theorem iop_and : OpR X (inplaceOp .BitAnd) (rI0 fun i j => .int (Builtin.bitAnd i j)) := opI0 fun _ _ _ _ _ _ _ q => iand_int q
theorem iop_or : OpR X (inplaceOp .BitOr) (rI0 fun i j => .int (Builtin.bitOr i j)) := opI0 fun _ _ _ _ _ _ _ q => ior_int q
theorem iop_xor : OpR X (inplaceOp .BitXor) (rI0 fun i j => .int (Builtin.bitXor i j)) := opI0 fun _ _ _ _ _ _ _ q => ixor_int q

theorem unI {f : Value → Sem Value} {g : Int → Int}
    (rule : ∀ (i : Int) (t : Tok) (s : Shared) (Q : Value → Shared → Prop) (E : Value → Shared → Prop), Q (.int (g i) s.toks) { s with toks := s.toks + 1 } → wpAny (model X.prog X.w) X.A (f (.int i t)) Q E s) :
    UnR X f (rU fun i => .int (g i)) := by
  intro pins s σ H x v Q I rx h
  obtain ⟨i, rfl, q⟩ := h
  obtain ⟨t, rfl⟩ := rx
  exact rule i t s _ _ ⟨.int (g i), H, I.tok _, ⟨_, rfl⟩, q⟩
theorem un_neg : UnR X (unaryOp .USub) (rU fun i => .int (-i)) := unI fun _ _ _ _ _ q => neg_int q
theorem un_inv : UnR X (unaryOp .Invert) (rU fun i => .int (Builtin.bitNot i)) := unI fun _ _ _ _ _ q => invert_int q

/-! ### bools among ints: n += (a < b) -/
theorem op_add_ib : OpR X (binaryOp .Add) (fun x y H Q => ∃ i k, x = .int i ∧ y = .bl k ∧ Q (.int (i + b2i k)) H) := by
  intro pins s σ H x y v u Q I rx ry h
  obtain ⟨i, k, rfl, rfl, q⟩ := h
  obtain ⟨t, rfl⟩ := rx
  cases ry
  exact add_int_bool ⟨.int (i + b2i k), H, I.tok _, ⟨_, rfl⟩, q⟩
end

/-! ### comparisons -/
/-- the scalars that == tells apart as data does -/
def scal : V → V → Bool
  | .non, .non => true | .non, .int _ => true | .int _, .non => true | .non, .bl _ => true | .bl _, .non => true | .non, .str _ => true | .str _, .non => true
  | .int _, .int _ => true | .bl _, .bl _ => true | .str _, .str _ => true | .byt _, .byt _ => true
  | .int _, .str _ => true | .str _, .int _ => true | .bl _, .str _ => true | .str _, .bl _ => true
  | _, _ => false
def rEq : R2 := fun x y H Q => scal x y = true ∧ Q (.bl (decide (x = y))) H
def rNe : R2 := fun x y H Q => scal x y = true ∧ Q (.bl (!decide (x = y))) H

theorem dec_int {i j : Int} : decide (V.int i = V.int j) = (i == j) := by
  rw [Bool.eq_iff_iff]
  simp
theorem dec_bl {i j : Bool} : decide (V.bl i = V.bl j) = (i == j) := by
  rw [Bool.eq_iff_iff]
  simp
theorem dec_str {i j : Str} : decide (V.str i = V.str j) = (i == j) := by
  rw [Bool.eq_iff_iff]
  simp
theorem dec_byt {i j : Array UInt8} : decide (V.byt i = V.byt j) = (i.toList == j.toList) := by
  rw [Bool.eq_iff_iff]
  cases i
  cases j
  simp

section
variable {X : Cx} {a b c : Expr} {ta tb tc : TE} {pos : Pos}
theorem fin_bl {pins : List (Addr × Obj)} {σ : St} {H : Hp} {s : Shared} {Q : VK} {k k' : Bool} (I : Inv X pins σ H s) (q : Q (.bl k) H) (e : k = k') : EP X pins σ Q (.bool k') s := by
  subst e
  exact ⟨.bl k, H, I, rfl, q⟩
theorem op_eq : OpR X (compareOp .Eq) rEq := by
  intro pins s σ H x y v u Q I rx ry h
  obtain ⟨hs, q⟩ := h
  cases x with
  | non =>
    cases rx
    cases y with
    | non => cases ry; exact PySem.EqNone.eq_none_none (fin_bl I q (by simp))
    | bl j => cases ry; exact PySem.EqNone.eq_none_bool (fin_bl I q (by simp))
    | int j => obtain ⟨t', rfl⟩ := ry; exact PySem.EqNone.eq_none_int (fin_bl I q (by simp))
    | str j => obtain ⟨t', rfl⟩ := ry; exact PySem.EqNone.eq_none_str (fin_bl I q (by simp))
    | _ => exact absurd (show false = true from hs) Bool.false_ne_true
  | bl i =>
    cases rx
    cases y with
    | non => cases ry; exact PySem.EqNone.eq_bool_none (fin_bl I q (by simp))
    | bl j => cases ry; exact eq_bool (fin_bl I q dec_bl)
    | str j => obtain ⟨t', rfl⟩ := ry; exact PySem.EqMixed.eq_bool_str (fin_bl I q (by simp))
    | _ => exact absurd (show false = true from hs) Bool.false_ne_true
  | int i =>
    obtain ⟨t, rfl⟩ := rx
    cases y with
    | non => cases ry; exact PySem.EqNone.eq_int_none (fin_bl I q (by simp))
    | int j => obtain ⟨t', rfl⟩ := ry; exact eq_int (fin_bl I q dec_int)
    | str j => obtain ⟨t', rfl⟩ := ry; exact PySem.EqMixed.eq_int_str (fin_bl I q (by simp))
    | _ => exact absurd (show false = true from hs) Bool.false_ne_true
  | str i =>
    obtain ⟨t, rfl⟩ := rx
    cases y with
    | non => cases ry; exact PySem.EqNone.eq_str_none (fin_bl I q (by simp))
    | bl j => cases ry; exact PySem.EqMixed.eq_str_bool (fin_bl I q (by simp))
    | int j => obtain ⟨t', rfl⟩ := ry; exact PySem.EqMixed.eq_str_int (fin_bl I q (by simp))
    | str j => obtain ⟨t', rfl⟩ := ry; exact eq_str (fin_bl I q dec_str)
    | _ => exact absurd (show false = true from hs) Bool.false_ne_true
  | byt i =>
    obtain ⟨t, rfl⟩ := rx
    cases y with
    | byt j => obtain ⟨t', rfl⟩ := ry; exact PySem.W.eq_bytes (fin_bl I q dec_byt)
    | _ => exact absurd (show false = true from hs) Bool.false_ne_true
  | _ => cases y <;> exact absurd (show false = true from hs) Bool.false_ne_true
theorem op_ne : OpR X (compareOp .NotEq) rNe := by
  intro pins s σ H x y v u Q I rx ry h
  obtain ⟨hs, q⟩ := h
  cases x with
  | non =>
    cases rx
    cases y with
    | non => cases ry; exact PySem.EqNone.ne_none_none (fin_bl I q (by simp))
    | bl j => cases ry; exact PySem.EqNone.ne_none_bool (fin_bl I q (by simp))
    | int j => obtain ⟨t', rfl⟩ := ry; exact PySem.EqNone.ne_none_int (fin_bl I q (by simp))
    | str j => obtain ⟨t', rfl⟩ := ry; exact PySem.EqNone.ne_none_str (fin_bl I q (by simp))
    | _ => exact absurd (show false = true from hs) Bool.false_ne_true
  | bl i =>
    cases rx
    cases y with
    | non => cases ry; exact PySem.EqNone.ne_bool_none (fin_bl I q (by simp))
    | bl j => cases ry; exact ne_bool (fin_bl I q (congrArg not dec_bl))
    | str j => obtain ⟨t', rfl⟩ := ry; exact PySem.EqMixed.ne_bool_str (fin_bl I q (by simp))
    | _ => exact absurd (show false = true from hs) Bool.false_ne_true
  | int i =>
    obtain ⟨t, rfl⟩ := rx
    cases y with
    | non => cases ry; exact PySem.EqNone.ne_int_none (fin_bl I q (by simp))
    | int j => obtain ⟨t', rfl⟩ := ry; exact ne_int (fin_bl I q (congrArg not dec_int))
    | str j => obtain ⟨t', rfl⟩ := ry; exact PySem.EqMixed.ne_int_str (fin_bl I q (by simp))
    | _ => exact absurd (show false = true from hs) Bool.false_ne_true
  | str i =>
    obtain ⟨t, rfl⟩ := rx
    cases y with
    | non => cases ry; exact PySem.EqNone.ne_str_none (fin_bl I q (by simp))
    | bl j => cases ry; exact PySem.EqMixed.ne_str_bool (fin_bl I q (by simp))
    | int j => obtain ⟨t', rfl⟩ := ry; exact PySem.EqMixed.ne_str_int (fin_bl I q (by simp))
    | str j => obtain ⟨t', rfl⟩ := ry; exact ne_str (fin_bl I q (congrArg not dec_str))
    | _ => exact absurd (show false = true from hs) Bool.false_ne_true
  | byt i =>
    obtain ⟨t, rfl⟩ := rx
    cases y with
    | byt j => obtain ⟨t', rfl⟩ := ry; exact PySem.W.ne_bytes (fin_bl I q (congrArg not dec_byt))
    | _ => exact absurd (show false = true from hs) Bool.false_ne_true
  | _ => cases y <;> exact absurd (show false = true from hs) Bool.false_ne_true

theorem op_lt : OpR X (compareOp .Lt) (rI0 fun i j => .bl (decide (i < j))) := opB0 fun _ _ _ _ _ _ _ q => lt_int q
theorem op_le : OpR X (compareOp .LtE) (rI0 fun i j => .bl (decide (i ≤ j))) := opB0 fun _ _ _ _ _ _ _ q => le_int q
theorem op_gt : OpR X (compareOp .Gt) (rI0 fun i j => .bl (decide (j < i))) := opB0 fun _ _ _ _ _ _ _ q => gt_int q
theorem op_ge : OpR X (compareOp .GtE) (rI0 fun i j => .bl (decide (j ≤ i))) := opB0 fun _ _ _ _ _ _ _ q => ge_int q
theorem op_lt_str : OpR X (compareOp .Lt) (fun x y H Q => ∃ i j, x = .str i ∧ y = .str j ∧ Q (.bl (decide (i.cps.toList < j.cps.toList))) H) := by
  intro pins s σ H x y v u Q I rx ry h
  obtain ⟨i, j, rfl, rfl, q⟩ := h
  obtain ⟨t, rfl⟩ := rx
  obtain ⟨t', rfl⟩ := ry
  exact lt_str (fin_bl I q rfl)
/-- the one string within the other -/
theorem op_in_str : OpR X (compareOp .In) (fun x y H Q => ∃ i j, x = .str i ∧ y = .str j ∧ Q (.bl (!(Builtin.Str.occurrences j i 0 j.length 1).isEmpty)) H) := by
  intro pins s σ H x y v u Q I rx ry h
  obtain ⟨i, j, rfl, rfl, q⟩ := h
  obtain ⟨t, rfl⟩ := rx
  obtain ⟨t', rfl⟩ := ry
  exact in_str (fin_bl I q rfl)

/-- is None, is not None: the right side a value none -/
theorem op_isN : OpR X (compareOp .Is) (fun x y H Q => y = .non ∧ Q (.bl (decide (x = .non))) H) := by
  intro pins s σ H x y v u Q I rx ry h
  obtain ⟨rfl, q⟩ := h
  cases ry
  refine is_none_gen (fin_bl I q ?_)
  cases x <;> first
    | (cases rx; rfl)
    | (obtain ⟨t, rfl⟩ := rx; rfl)
theorem op_notN : OpR X (compareOp .IsNot) (fun x y H Q => y = .non ∧ Q (.bl (!decide (x = .non))) H) := by
  intro pins s σ H x y v u Q I rx ry h
  obtain ⟨rfl, q⟩ := h
  cases ry
  refine isnot_none_gen (fin_bl I q ?_)
  cases x <;> first
    | (cases rx; rfl)
    | (obtain ⟨t, rfl⟩ := rx; rfl)

theorem op_notin_str : OpR X (compareOp .NotIn) (fun x y H Q => ∃ i j, x = .str i ∧ y = .str j ∧ Q (.bl (!(!(Builtin.Str.occurrences j i 0 j.length 1).isEmpty))) H) := by
  intro pins s σ H x y v u Q I rx ry h
  obtain ⟨i, j, rfl, rfl, q⟩ := h
  obtain ⟨t, rfl⟩ := rx
  obtain ⟨t', rfl⟩ := ry
  exact notIn_str (fin_bl I q rfl)
/-- is, is not of two objects that are tracked lists or instances -/
def isObj : HO → Bool
  | .lst _ => true
  | .ins _ _ _ => true
  | _ => false
theorem obj_there {pins : List (Addr × Obj)} {s : Shared} {σ : St} {H : Hp} {a : Addr} {o : HO} (I : Inv X pins σ H s) (h : H a = some o) (p : isObj o = true) : ∃ ob, s.heap.get? a = some ob ∧ ob.cls ≠ .type "tuple" := by
  cases o with
  | lst xs =>
    obtain ⟨_, its, n, _, e⟩ : xs.length ≤ sizeLine ∧ ∃ (its : List Value) (n : Nat), Vals xs its ∧ s.heap.get? a = some { cls := .type "list", data := .seq its.toArray n } := I.hok a _ h
    exact ⟨_, e, (by show Value.type "list" ≠ .type "tuple"; decide +kernel)⟩
  | ins C dx fs =>
    have x := I.hok a _ h
    obtain ⟨_, _, _, e, _⟩ := x
    exact ⟨_, e, (by show Value.ref C ≠ .type "tuple"; exact fun z => by cases z)⟩
  | _ => exact absurd (show false = true from p) Bool.false_ne_true
theorem op_is_ref : OpR X (compareOp .Is) (fun x y H Q => ∃ a b oa ob, x = .ref a ∧ y = .ref b ∧ H a = some oa ∧ isObj oa = true ∧ H b = some ob ∧ isObj ob = true ∧ Q (.bl (decide (a = b))) H) := by
  intro pins s σ H x y v u Q I rx ry h
  obtain ⟨a, b, oa, ob, rfl, rfl, ha, pa, hb, pb, q⟩ := h
  cases rx
  cases ry
  obtain ⟨o1, e1, n1⟩ := obj_there I ha pa
  obtain ⟨o2, e2, _⟩ := obj_there I hb pb
  by_cases z : a = b
  · subst z
    exact wpAny_is_ref_self (fin_bl I q (by simp))
  · exact wpAny_is_ref_other z e1 e2 n1 (fin_bl I q (by simp [z]))
theorem op_isnot_ref : OpR X (compareOp .IsNot) (fun x y H Q => ∃ a b oa ob, x = .ref a ∧ y = .ref b ∧ H a = some oa ∧ isObj oa = true ∧ H b = some ob ∧ isObj ob = true ∧ Q (.bl (!decide (a = b))) H) := by
  intro pins s σ H x y v u Q I rx ry h
  obtain ⟨a, b, oa, ob, rfl, rfl, ha, pa, hb, pb, q⟩ := h
  cases rx
  cases ry
  obtain ⟨o1, e1, n1⟩ := obj_there I ha pa
  obtain ⟨o2, e2, _⟩ := obj_there I hb pb
  by_cases z : a = b
  · subst z
    exact wpAny_isNot_ref_self (fin_bl I q (by simp))
  · exact wpAny_isNot_ref_other z e1 e2 n1 (fin_bl I q (by simp [z]))

/-- two rules for one operation: by cases -/
theorem OpR.or {f : Value → Value → Sem Value} {r r' : R2} (h : OpR X f r) (h' : OpR X f r') : OpR X f (fun x y H Q => r x y H Q ∨ r' x y H Q) := by
  intro pins s σ H x y v u Q I rx ry q
  rcases q with q | q
  · exact h pins s σ H x y v u Q I rx ry q
  · exact h' pins s σ H x y v u Q I rx ry q

theorem nomark (b : Expr) {op : CmpOp} (h : op ≠ .In := by decide) (h2 : op ≠ .NotIn := by decide) : behindInMarks op b = false := by
  have e1 : (op == CmpOp.In) = false := by cases op <;> first | rfl | exact absurd rfl h
  have e2 : (op == CmpOp.NotIn) = false := by cases op <;> first | rfl | exact absurd rfl h2
  cases b <;> simp [behindInMarks, e1, e2]
/-- a comparison as a value; hm: nomark b, or (for in, not in) by with_unfolding_all rfl -/
theorem pe_cmpR {op : CmpOp} {r : R2} (ho : OpR X (compareOp op) r) (ha : PE X a ta) (hb : PE X b tb) (hm : behindInMarks op b = false) : PE X (.Compare a [op] [b] pos) (tOp r ta tb) := by
  intro pins s σ H Q I h
  exact wpAny_Compare1 (binT ha hb I h fun v u s2 x y H2 I2 rx ry q => ho pins s2 σ H2 x y v u Q I2 rx ry q) hm
/-- a reading of a value as a test -/
def tTest (t : TE) : TT := fun σ H Q => t σ H fun x H' => ∃ k, x = .bl k ∧ Q k H'
theorem pt_cmpR {op : CmpOp} {r : R2} (ho : OpR X (compareOp op) r) (ha : PE X a ta) (hb : PE X b tb) (hm : behindInMarks op b = false) : PT X (.Compare a [op] [b] pos) (tTest (tOp r ta tb)) := by
  intro pins s σ H Q I h
  refine wpAny_isTrue_Compare1 (thn (ha pins s σ H _ I h) fun v s1 ⟨x, H1, I1, r1, q1⟩ => thn (hb pins s1 σ H1 _ I1 q1) fun u s2 ⟨y, H2, I2, r2, q2⟩ =>
    thn (ho pins s2 σ H2 x y v u _ I2 r1 r2 q2) fun c s3 ⟨z, H3, I3, r3, k, e, q3⟩ => ?_) hm
  subst e
  cases r3
  exact wpAny_truthy_bool ⟨H3, I3, q3⟩
/-- a op1 b op2 c -/
def tChain (r r' : R2) (ta tb tc : TE) : TE := fun σ H Q => ta σ H fun x H1 => tb σ H1 fun y H2 => r x y H2 fun z H3 => ∃ k, z = .bl k ∧
  (if k = true then tc σ H3 fun w' H4 => r' y w' H4 Q else Q (.bl false) H3)
theorem pe_chain {op op' : CmpOp} {r r' : R2} (ho : OpR X (compareOp op) r) (ho' : OpR X (compareOp op') r') (ha : PE X a ta) (hb : PE X b tb) (hc : PE X c tc)
    (hm : lastMarks [op, op'] [b, c] = false := by with_unfolding_all rfl) : PE X (.Compare a [op, op'] [b, c] pos) (tChain r r' ta tb tc) := by
  intro pins s σ H Q I h
  refine Compare_chain (thn (ha pins s σ H _ I h) fun v s1 ⟨x, H1, I1, r1, q1⟩ => chain_link (thn (hb pins s1 σ H1 _ I1 q1) fun u s2 ⟨y, H2, I2, r2, q2⟩ =>
    thn (ho pins s2 σ H2 x y v u _ I2 r1 r2 q2) fun d s3 ⟨z, H3, I3, r3, k, e, q3⟩ => ?_)) hm
  subst e
  cases r3
  refine wpAny_truthy_bool ?_
  cases k with
  | false => exact ite_ff ⟨.bl false, H3, I3, rfl, q3⟩
  | true => exact ite_tt (chain_last (thn (hc pins s3 σ H3 _ I3 q3) fun w' s4 ⟨z', H4, I4, r4, q4⟩ => ho' pins s4 σ H4 y z' u w' Q I4 r2 r4 q4))
theorem pt_chain {op op' : CmpOp} {r r' : R2} (ho : OpR X (compareOp op) r) (ho' : OpR X (compareOp op') r') (ha : PE X a ta) (hb : PE X b tb) (hc : PE X c tc)
    (hm : lastMarks [op, op'] [b, c] = false := by with_unfolding_all rfl) : PT X (.Compare a [op, op'] [b, c] pos) (tTest (tChain r r' ta tb tc)) := by
  intro pins s σ H Q I h
  refine isTrue_chain (thn (ha pins s σ H _ I h) fun v s1 ⟨x, H1, I1, r1, q1⟩ => test_link (thn (hb pins s1 σ H1 _ I1 q1) fun u s2 ⟨y, H2, I2, r2, q2⟩ =>
    thn (ho pins s2 σ H2 x y v u _ I2 r1 r2 q2) fun d s3 ⟨z, H3, I3, r3, k, e, q3⟩ => ?_)) hm
  subst e
  cases r3
  refine wpAny_truthy_bool ?_
  cases k with
  | false =>
    obtain ⟨k', e', q'⟩ := q3
    cases e'
    exact ite_ff ⟨H3, I3, q'⟩
  | true =>
    refine ite_tt (test_last (thn (hc pins s3 σ H3 _ I3 q3) fun w' s4 ⟨z', H4, I4, r4, q4⟩ => thn (ho' pins s4 σ H4 y z' u w' _ I4 r2 r4 q4) fun d' s5 ⟨z2, H5, I5, r5, k2, e2, q5⟩ => ?_))
    subst e2
    cases r5
    exact wpAny_truthy_bool ⟨H5, I5, q5⟩

/-! ### truth -/
/-- a value's truth by the abstract heap -/
def TruV (K : PySem.W.Frag) (x : V) (H : Hp) (k : Bool) : Prop :=
  match x with
  | .non => k = false
  | .bl b => k = b
  | .int i => k = (i != 0)
  | .str y => y.length ≤ sizeLine ∧ k = ((y.length : Int) != 0)
  | .byt y => y.size ≤ sizeLine ∧ k = ((y.size : Int) != 0)
  | .ref p => (∃ xs, SqL K H p xs ∧ k = !xs.isEmpty) ∨ (∃ xs, SqT K H p xs ∧ k = !xs.isEmpty) ∨ ∃ kvs, H p = some (.dK kvs) ∧ k = !kvs.isEmpty
  | _ => False
theorem isEmpty_kv {κ : Type} {kvs : List (κ × V)} {vs : List (κ × Value)} (r : KV kvs vs) : (!vs.isEmpty) = !kvs.isEmpty := by
  cases r <;> rfl
theorem isEmpty_of {xs : List V} {its : List Value} (r : Vals xs its) : (!its.toArray.isEmpty) = !xs.isEmpty := by
  cases r <;> simp
theorem line63 : (sizeLine : Nat) < 2 ^ 63 := by rw [sizeLine_eq]; decide
theorem tru_ok : TruR X (fun x H Q => ∃ k, TruV X.K x H k ∧ Q k H) := by
  intro pins s σ H x v Q I rx h
  obtain ⟨k, e, q⟩ := h
  have hl := line63
  have hs : sizeLine = 16777216 := sizeLine_eq
  cases x with
  | non =>
    cases rx
    have e' : k = false := e
    subst e'
    exact truthy_none ⟨H, I, q⟩
  | bl b =>
    cases rx
    have e' : k = b := e
    subst e'
    exact wpAny_truthy_bool ⟨H, I, q⟩
  | int i =>
    obtain ⟨t, rfl⟩ := rx
    have e' : k = (i != 0) := e
    subst e'
    exact PySem.P.truthy_int ⟨H, I, q⟩
  | str y =>
    obtain ⟨t, rfl⟩ := rx
    obtain ⟨hy, e'⟩ : y.length ≤ sizeLine ∧ k = ((y.length : Int) != 0) := e
    subst e'
    exact PySem.P.truthy_str (by omega) ⟨H, I.tok _, q⟩
  | byt y =>
    obtain ⟨t, rfl⟩ := rx
    obtain ⟨hy, e'⟩ : y.size ≤ sizeLine ∧ k = ((y.size : Int) != 0) := e
    subst e'
    exact PySem.W.truthy_bytes (by omega) ⟨H, I.tok _, q⟩
  | ref p =>
    cases rx
    have e' : (∃ xs, SqL X.K H p xs ∧ k = !xs.isEmpty) ∨ (∃ xs, SqT X.K H p xs ∧ k = !xs.isEmpty) ∨ ∃ kvs, H p = some (.dK kvs) ∧ k = !kvs.isEmpty := e
    rcases e' with ⟨xs, hx, e'⟩ | ⟨xs, hx, e'⟩ | ⟨kvs, hx, e'⟩
    · subst e'
      obtain ⟨its, r, pl, hz⟩ := I.list hx
      have hlen := r.length
      exact wpAny_truthy_list pl.isList (by simp only [List.size_toArray]; omega) ⟨H, I.tok _, by rw [isEmpty_of r]; exact q⟩
    · subst e'
      obtain ⟨its, r, pl, hz⟩ := I.tuple hx
      have hlen := r.length
      exact truthy_tuple pl (by simp only [List.size_toArray]; omega) ⟨H, I.tok _, by rw [isEmpty_of r]; exact q⟩
    · subst e'
      obtain ⟨hz, hS, vs, r, m⟩ : kvs.length ≤ sizeLine ∧ (p == sysModules) = false ∧ ∃ vs, KV kvs vs ∧ s.heap.DictOf (mixKind X.prog X.w) p vs := I.hok p _ hx
      have hlen : kvs.length = vs.length := Paired.length r
      exact wpAny_truthy_dict hS m (by omega) ⟨H, I.tok _, by rw [isEmpty_kv r]; exact q⟩
  | _ => exact (show False from e).elim
/-- any expression whose test is its value's truth (a name, a call, a subscript, a field ..: he by fun _ => rfl) -/
theorem pt_truth (ha : PE X a ta) (he : ∀ whole, isTrue a X.env whole = (do let v ← whole; standAt a.pos; holding [v] (truthy v))) :
    PT X a (fun σ H Q => ta σ H fun x H' => ∃ k, TruV X.K x H' k ∧ Q k H') := by
  intro pins s σ H Q I h
  exact isTrue_plain (thn (ha pins s σ H _ I h) fun v s1 ⟨x, H1, I1, r1, q1⟩ => tru_ok pins s1 σ H1 x v Q I1 r1 q1) (he _)

/-! ### strs and bytes -/
theorem pe_byt {x : List UInt8} {k : Nat} : PE X (.Constant (.bytes x) k pos) (fun _ H Q => Q (.byt x.toArray) H) := fun _ _ _ H _ I h => PySem.W.Constant_bytes ⟨.byt x.toArray, H, I.tok _, ⟨_, rfl⟩, h⟩
theorem op_add_str : OpR X (binaryOp .Add) (fun x y H Q => ∃ i j, x = .str i ∧ y = .str j ∧ i.length + j.length ≤ sizeLine ∧ Q (.str (i ++ j)) H) := by
  intro pins s σ H x y v u Q I rx ry h
  obtain ⟨i, j, rfl, rfl, hz, q⟩ := h
  obtain ⟨t, rfl⟩ := rx
  obtain ⟨t', rfl⟩ := ry
  exact add_str (fun t' tk => ⟨.str (i ++ j), H, I.tok _, ⟨_, rfl⟩, q⟩) hz
theorem iop_add_str : OpR X (inplaceOp .Add) (fun x y H Q => ∃ i j, x = .str i ∧ y = .str j ∧ i.length + j.length ≤ sizeLine ∧ Q (.str (i ++ j)) H) := by
  intro pins s σ H x y v u Q I rx ry h
  obtain ⟨i, j, rfl, rfl, hz, q⟩ := h
  obtain ⟨t, rfl⟩ := rx
  obtain ⟨t', rfl⟩ := ry
  exact iadd_str (fun t' tk => ⟨.str (i ++ j), H, I.tok _, ⟨_, rfl⟩, q⟩) hz
theorem op_add_byt : OpR X (binaryOp .Add) (fun x y H Q => ∃ i j, x = .byt i ∧ y = .byt j ∧ i.size + j.size ≤ 16777216 ∧ Q (.byt (i ++ j)) H) := by
  intro pins s σ H x y v u Q I rx ry h
  obtain ⟨i, j, rfl, rfl, hz, q⟩ := h
  obtain ⟨t, rfl⟩ := rx
  obtain ⟨t', rfl⟩ := ry
  exact PySem.W.KBy.add_bytes hz (fun t' tk => ⟨.byt (i ++ j), H, I.tok _, ⟨_, rfl⟩, q⟩)

def PlainIxT (b : Expr) : Prop := ∀ o i, subscripted b false o i = operate [o, i] (getItem o i)
/-- s[i], 0 ≤ i < len -/
theorem pe_item_str (ha : PE X a ta) (hb : PE X b tb) (hs : PlainIxT b) :
    PE X (.Subscript a b pos) (tOp (fun x y H Q => ∃ z i c, x = .str z ∧ y = .int i ∧ 0 ≤ i ∧ i < 2 ^ 63 ∧ i < z.length ∧ z.cps[i.toNat]? = some c ∧ Q (.str ⟨#[c]⟩) H) ta tb) := by
  intro pins s σ H Q I h
  refine Subscript_ (binT ha hb I h fun v u s2 x y H2 I2 rx ry q => ?_)
  obtain ⟨z, i, c, rfl, rfl, h0, h63, h1, hc, q⟩ := q
  obtain ⟨t, rfl⟩ := rx
  obtain ⟨t', rfl⟩ := ry
  have e : seqIndex? i z.length = some i.toNat := PySem.StrLaws.seqIndex_nonneg h0 h1
  exact tail_any (typeIs_str s2 z t) slot_str_getitem.lookup (getItem_str (c := c) (by
    have e1 : decide (i < -(2 ^ 63 : Int)) = false := decide_eq_false (by omega)
    have e2 : decide (i ≥ 2 ^ 63) = false := decide_eq_false (by omega)
    rw [e1, e2] <;> rfl) (by rw [e]; exact hc) ⟨.str ⟨#[c]⟩, H2, I2.tok _, ⟨_, rfl⟩, q⟩) (hs _ _)
/-- b[i], 0 ≤ i < len -/
theorem pe_item_byt (ha : PE X a ta) (hb : PE X b tb) (hs : PlainIxT b) :
    PE X (.Subscript a b pos) (tOp (fun x y H Q => ∃ (z : List UInt8) (i : Int), x = .byt z.toArray ∧ y = .int i ∧ z.length ≤ sizeLine ∧ 0 ≤ i ∧ i < z.length ∧ Q (.int ((z.getD i.toNat 0).toNat : Nat)) H) ta tb) := by
  intro pins s σ H Q I h
  refine Subscript_ (binT ha hb I h fun v u s2 x y H2 I2 rx ry q => ?_)
  obtain ⟨z, i, rfl, rfl, hz, h0, h1, q⟩ := q
  obtain ⟨t, rfl⟩ := rx
  obtain ⟨t', rfl⟩ := ry
  have hl : sizeLine = 16777216 := sizeLine_eq
  exact tail_any (PySem.W.typeIs_bytes s2 z.toArray t) PySem.W.FB.slot_bytes_getitem.lookup (PySem.W.getItem_bytes (by omega) h0 h1 ⟨.int ((z.getD i.toNat 0).toNat : Nat), H2, I2.tok _, ⟨_, rfl⟩, q⟩) (hs _ _)

/-! ### scalar builtins, by CallR -/
theorem vals1 {x : V} {us : List Value} (r : Vals [x] us) : ∃ u, us = [u] ∧ RelV x u := by
  cases r with
  | cons r1 r2 => cases r2; exact ⟨_, rfl, r1⟩
theorem vals2 {x y : V} {us : List Value} (r : Vals [x, y] us) : ∃ u w', us = [u, w'] ∧ RelV x u ∧ RelV y w' := by
  cases r with
  | cons r1 r2 =>
    cases r2 with
    | cons r3 r4 => cases r4; exact ⟨_, _, rfl, r1, r3⟩
theorem call_abs : CallR X (.builtin "abs") (fun xs H Q => ∃ i, xs = [.int i] ∧ Q (.int (if i < 0 then -i else i)) H) := by
  intro pins s σ H xs us Q I r h
  obtain ⟨i, rfl, q⟩ := h
  obtain ⟨u, rfl, t, rfl⟩ := vals1 r
  exact call_abs_int fun u tk => ⟨.int (if i < 0 then -i else i), H, I.tok _, ⟨_, rfl⟩, q⟩
theorem call_max2 (hc : X.calm = true) : CallR X (.builtin "max") (fun xs H Q => ∃ i j, xs = [.int i, .int j] ∧ Q (.int (if j > i then j else i)) H) := by
  intro pins s σ H xs us Q I r h
  obtain ⟨i, j, rfl, q⟩ := h
  obtain ⟨u, w', rfl, ⟨t, rfl⟩, ⟨t', rfl⟩⟩ := vals2 r
  refine max_two_ints (I.ok.hd hc) fun h' tk k => ⟨_, H, I.kept k, ?_, q⟩
  by_cases hj : j > i
  · rw [if_pos hj, if_pos hj]; exact ⟨_, rfl⟩
  · rw [if_neg hj, if_neg hj]; exact ⟨_, rfl⟩
theorem call_min2 (hc : X.calm = true) : CallR X (.builtin "min") (fun xs H Q => ∃ i j, xs = [.int i, .int j] ∧ Q (.int (if j < i then j else i)) H) := by
  intro pins s σ H xs us Q I r h
  obtain ⟨i, j, rfl, q⟩ := h
  obtain ⟨u, w', rfl, ⟨t, rfl⟩, ⟨t', rfl⟩⟩ := vals2 r
  refine min_two_ints (I.ok.hd hc) fun h' tk k => ⟨_, H, I.kept k, ?_, q⟩
  by_cases hj : j < i
  · rw [if_pos hj, if_pos hj]; exact ⟨_, rfl⟩
  · rw [if_neg hj, if_neg hj]; exact ⟨_, rfl⟩
theorem call_int1 : CallR X (.type "int") (fun xs H Q => (∃ i, xs = [.int i] ∧ Q (.int i) H) ∨ ∃ k, xs = [.bl k] ∧ Q (.int (if k then 1 else 0)) H) := by
  intro pins s σ H xs us Q I r h
  rcases h with ⟨i, rfl, q⟩ | ⟨k, rfl, q⟩
  · obtain ⟨u, rfl, t, rfl⟩ := vals1 r
    exact call_int_int ⟨.int i, H, I, ⟨_, rfl⟩, q⟩
  · obtain ⟨u, rfl, r1⟩ := vals1 r
    cases r1
    exact call_int_bool ⟨.int (if k then 1 else 0), H, I.tok _, ⟨_, rfl⟩, q⟩
theorem call_bool1 : CallR X (.type "bool") (fun xs H Q => (∃ i, xs = [.int i] ∧ Q (.bl (i != 0)) H) ∨ ∃ k, xs = [.bl k] ∧ Q (.bl k) H) := by
  intro pins s σ H xs us Q I r h
  rcases h with ⟨i, rfl, q⟩ | ⟨k, rfl, q⟩
  · obtain ⟨u, rfl, t, rfl⟩ := vals1 r
    exact call_bool_int ⟨.bl (i != 0), H, I, rfl, q⟩
  · obtain ⟨u, rfl, r1⟩ := vals1 r
    cases r1
    exact call_bool_bool ⟨.bl k, H, I, rfl, q⟩
theorem call_str_int : CallR X (.type "str") (fun xs H Q => ∃ i, xs = [.int i] ∧ i.natAbs.log2 < 1920 ∧ Q (.str (toString i)) H) := by
  intro pins s σ H xs us Q I r h
  obtain ⟨i, rfl, hz, q⟩ := h
  obtain ⟨u, rfl, t, rfl⟩ := vals1 r
  exact PySem.P.str_of_int hz ⟨.str _, H, I.tok _, ⟨_, rfl⟩, q⟩
theorem call_ord : CallR X (.builtin "ord") (fun xs H Q => ∃ x, xs = [.str x] ∧ x.length = 1 ∧ Q (.int (x.cps.getD 0 0 : Nat)) H) := by
  intro pins s σ H xs us Q I r h
  obtain ⟨x, rfl, hz, q⟩ := h
  obtain ⟨u, rfl, t, rfl⟩ := vals1 r
  exact ord_of_one hz ⟨.int _, H, I.tok _, ⟨_, rfl⟩, q⟩
theorem call_chr : CallR X (.builtin "chr") (fun xs H Q => ∃ i, xs = [.int i] ∧ 0 ≤ i ∧ i ≤ 1114111 ∧ Q (.str ⟨#[i.toNat]⟩) H) := by
  intro pins s σ H xs us Q I r h
  obtain ⟨i, rfl, h0, h1, q⟩ := h
  obtain ⟨u, rfl, t, rfl⟩ := vals1 r
  exact chr_of_range h0 h1 ⟨.str _, H, I.tok _, ⟨_, rfl⟩, q⟩
/-- len of a str, a bytes, a list, a tuple -/
def LenV (K : PySem.W.Frag) (x : V) (H : Hp) (n : Nat) : Prop :=
  match x with
  | .str y => y.length ≤ sizeLine ∧ n = y.length
  | .byt y => y.size ≤ sizeLine ∧ n = y.size
  | .ref p => (∃ xs, SqL K H p xs ∧ n = xs.length) ∨ ∃ xs, SqT K H p xs ∧ n = xs.length
  | _ => False
theorem call_len : CallR X (.builtin "len") (fun xs H Q => ∃ x n, xs = [x] ∧ LenV X.K x H n ∧ Q (.int n) H) := by
  intro pins s σ H xs us Q I r h
  obtain ⟨x, n, rfl, e, q⟩ := h
  obtain ⟨u, rfl, rx⟩ := vals1 r
  have hl := line63
  have hs : sizeLine = 16777216 := sizeLine_eq
  cases x with
  | str y =>
    obtain ⟨t, rfl⟩ := rx
    obtain ⟨hy, e'⟩ : y.length ≤ sizeLine ∧ n = y.length := e
    subst e'
    exact len_str (by omega) ⟨.int _, H, I.tok _, ⟨_, rfl⟩, q⟩
  | byt y =>
    obtain ⟨t, rfl⟩ := rx
    obtain ⟨hy, e'⟩ : y.size ≤ sizeLine ∧ n = y.size := e
    subst e'
    exact PySem.W.len_bytes (by omega) ⟨.int _, H, I.tok _, ⟨_, rfl⟩, q⟩
  | ref p =>
    cases rx
    have e' : (∃ xs, SqL X.K H p xs ∧ n = xs.length) ∨ ∃ xs, SqT X.K H p xs ∧ n = xs.length := e
    rcases e' with ⟨xs, hx, e'⟩ | ⟨xs, hx, e'⟩
    · subst e'
      obtain ⟨its, r', pl, hz⟩ := I.list hx
      have hlen := r'.length
      exact Calls.call_len_list pl.isList (by simp only [List.size_toArray]; omega) ⟨.int xs.length, H, I.tok _, ⟨_, by simp only [List.size_toArray]; rw [hlen]⟩, q⟩
    · subst e'
      obtain ⟨its, r', pl, hz⟩ := I.tuple hx
      have hlen := r'.length
      exact len_tuple pl (by simp only [List.size_toArray]; omega) ⟨.int xs.length, H, I.tok _, ⟨_, by simp only [List.size_toArray]; rw [hlen]⟩, q⟩
  | _ => exact (show False from e).elim
/-- divmod: a new tuple -/
theorem call_divmod : CallR X (.builtin "divmod") (fun xs H Q => ∃ i j, xs = [.int i, .int j] ∧ CDiv i j ∧ ∀ p, H p = none → Q (.ref p) (upd H p (.tup [.int (i / j), .int (i % j)]))) := by
  intro pins s σ H xs us Q I r h
  obtain ⟨i, j, rfl, ⟨h1, h2⟩, q⟩ := h
  obtain ⟨u, w', rfl, ⟨t, rfl⟩, ⟨t', rfl⟩⟩ := vals2 r
  refine divmod_int (by omega) ?_ (.inl (PyProof.noPylong_small (by omega)))
  rw [Int.fdiv_eq_ediv_of_nonneg i (by omega), Int.fmod_eq_emod_of_nonneg i (by omega)]
  have hn : H s.heap.objs.size = none := I.hok.fresh (Nat.le_refl _)
  refine ⟨.ref s.heap.objs.size, _, ?_, rfl, q _ hn⟩
  refine I.laid (fun b o e => Heap.get?_push_of_some _ e) (Nat.le_refl _) ⟨by simp only [List.length_cons, List.length_nil]; rw [sizeLine_eq]; decide, [.int (i / j) s.toks, .int (i % j) (s.toks + 1)], .cons ⟨_, rfl⟩ (.cons ⟨_, rfl⟩ .nil), ?_⟩
  exact ⟨_, Heap.get?_push_size s.heap rfl, rfl, 0, rfl⟩
end
end L2

namespace L2
open PySem PySem.Spec PyProof.Rows

/-! ### an instance, its attributes a map -/
structure ObjM (h : Heap) (x dx C : Addr) (mA : Str → Option Value) : Prop where
  obj : h.get? x = some (PySem.W.instObj C dx)
  ns : h.Ns1 dx mA
  ne : dx ≠ x

theorem lookIn_ns {h : Heap} {dx : Addr} {mA : Str → Option Value} (n : h.Ns1 dx mA) : ∃ od, h.get? dx = some od ∧ ∀ name, PySem.W.lookIn name od = some (mA name) := by
  obtain ⟨o, es, ep, ho, hd, hk, _, hm⟩ := n
  refine ⟨o, ho, fun name => ?_⟩
  have e := hm name
  unfold nsFind findBy at e
  rw [← Array.find?_toList] at e
  unfold PySem.W.lookIn
  rw [hd]
  dsimp only
  split
  · rename_i y q
    rw [q] at e
    exact congrArg some e
  · rename_i q
    rw [q] at e
    have a : es.toList.any (·.refKey) = false := by
      rw [List.any_eq_false]
      intro y hy
      obtain ⟨z, t, hkey⟩ := hk y (Array.mem_toList_iff.mp hy)
      simp [DictEntry.refKey, hkey]
    have a' : ¬ es.toList.any (·.refKey) = true := by rw [a]; exact Bool.false_ne_true
    rw [if_neg a']
    exact congrArg some e

theorem ObjM.look {h : Heap} {x dx C : Addr} {mA : Str → Option Value} (I : ObjM h x dx C mA) : ∃ od, PySem.W.InstAt h x (PySem.W.instObj C dx) C (some od) ∧ ∀ name, PySem.W.lookIn name od = some (mA name) :=
  let ⟨od, ho, hl⟩ := lookIn_ns I.ns
  ⟨od, ⟨I.obj, rfl, rfl, ho⟩, hl⟩

section
variable {prog : Program} {w : World} {A : Around} {E : Value → Shared → Prop} {s : Shared} {K : PySem.W.Frag} {x dx C f : Addr} {mA : Str → Option Value} {name : Str} {v : Value}

theorem get_map {expr : Bool} {Q : Value → Shared → Prop} (X : K.In s.heap) (I : ObjM s.heap x dx C mA) (hg : PySem.W.plainGet K C name = true) (hh : PySem.W.hasDictIn K C = true)
    (ha : PySem.W.findIn K (.ref C) name = some none) (hv : mA name = some v) (hv' : PySem.W.handedIn v = true) (h : Q v { s with toks := s.toks + 1 }) :
    wpAny (model prog w) A (getAttr (.ref x) name expr) Q E s := by
  obtain ⟨od, J, hl⟩ := I.look
  exact PySem.W.get_value X J (PySem.W.plainGet_of hg).1 (PySem.W.findObj_own hh ha rfl (by rw [hl, hv])) hv' h

theorem get_const {expr : Bool} {a : Value} {Q : Value → Shared → Prop} (X : K.In s.heap) (I : ObjM s.heap x dx C mA) (hg : PySem.W.plainGet K C name = true) (hh : PySem.W.hasDictIn K C = true)
    (ha : PySem.W.findIn K (.ref C) name = some (some a)) (hn : PySem.W.specialIn K a "__get__" = some none) (hc : PySem.W.copiedNames.contains name = false) (hv : mA name = none) (hv' : PySem.W.handedIn a = true)
    (h : Q a { s with toks := s.toks + 1 }) : wpAny (model prog w) A (getAttr (.ref x) name expr) Q E s := by
  obtain ⟨od, J, hl⟩ := I.look
  exact PySem.W.get_value X J (PySem.W.plainGet_of hg).1 (PySem.W.findObj_cls hh ha hn hv' hc (by rw [hl, hv])) hv' h

theorem get_meth {pl : Sem Bool} {Q : Value × List Value → Shared → Prop} (X : K.In s.heap) (I : ObjM s.heap x dx C mA) (hg : PySem.W.plainGet K C name = true)
    (hf : PySem.W.findIn K (.ref C) name = some (some (.ref f))) (ht : PySem.W.isFn K (.ref f) = true) (hv : mA name = none) (h : Q (.ref f, [.ref x]) s) :
    wpAny (model prog w) A (getMethod (.ref x) name pl) Q E s := by
  obtain ⟨od, J, hl⟩ := I.look
  exact PySem.W.method_fn X J (PySem.W.plainGet_of hg).1 (PySem.W.plainGet_of hg).2 hf (beq_iff_eq.mp ht) (by show (PySem.W.lookIn name od).map (·.isSome) = some false; rw [hl, hv]; rfl) h

theorem set_map {ns : List Str} {Q : Unit → Shared → Prop} (X : K.In s.heap) (I : ObjM s.heap x dx C mA)
    (hs : PySem.W.findIn K (.ref C) "__setattr__" = some (some (.builtin "object.__setattr__"))) (hp : PySem.W.plainOver K C = true) (ht : PySem.W.takerIn K C name = some none) (hh : PySem.W.hasDictIn K C = true)
    (hw : PySem.Within mA ns) (hsz : ns.length ≤ sizeLine)
    (h : ∀ h', ObjM h' x dx C (fun y => if y = name then some v else mA y) → Heap.SameBut dx s.heap h' → Q () { s with heap := h', toks := s.toks + 2 }) :
    wpAny (model prog w) A (setAttr (.ref x) name v) Q E s := by
  obtain ⟨od, J, hl⟩ := I.look
  refine PySem.W.set_plain X J hs (PySem.W.osa_open (s := { s with toks := s.toks + 1 }) (r := none) X J hp ht fun b => ?_)
  obtain ⟨cd, hc, hd'⟩ := PySem.W.any_some hh
  have hx : s.heap.get? x = some ⟨.ref C, some dx, .plain, #[]⟩ := I.obj
  refine wpAny_bind (wpAny_pure (wpAny_bind (wpAny_bind (wpAny_loadPart hx (wpAny_bind (PySem.W.Looks.here (s := { s with toks := s.toks + 1 }) (PySem.W.looks_clsIn X hc) ?_))))))
  rw [hd']
  refine wpAny_pure (a := some dx) (wpAny_bind (wpAny_pure (wpAny_bind ?_)))
  refine wpAny_nsSet1 (s := { s with toks := s.toks + 1 }) I.ns fun h' hn2 hs2 => ?_
  obtain ⟨oD, esD, epD, hoD, hdD, hcD⟩ := hn2.count (PySem.Within.cons name v hw)
  refine wpAny_bind (wpAny_lookBehind hoD (by rw [hdD]; exact pastItsLine_dict (Nat.le_trans hcD (by rw [List.length_cons]; omega))) ?_)
  exact wpAny_pure (h _ ⟨(hs2.2 _ (Ne.symm I.ne)).trans I.obj, hn2, I.ne⟩ hs2)

/-- C(..): the dict at the heap's end, the instance behind it; then its __init__ -/
theorem make_map {R : Result → Shared → Prop} {vs : List Value} {kw : List (Str × Value)} (X : K.In s.heap) (hm : PySem.W.makesIn K C = true)
    (hi : PySem.W.findIn K (.ref C) "__init__" = some (some (.ref f))) (hf : PySem.W.typeIn K (.ref f) = some (.type "function"))
    (h : codeAny (model prog w) (A.under (.builtin "type.__call__" ⟨.ref C :: vs, kw⟩)) (.call (.ref f) ⟨.ref (s.heap.objs.size + 1) :: vs, kw⟩) (PySem.W.InitBack (s.heap.objs.size + 1) R)
      { s with heap := (s.heap.push PySem.W.emptyDict).push (PySem.W.instObj C s.heap.objs.size) }) :
    codeAny (model prog w) A (.call (.ref C) ⟨vs, kw⟩) R s := by
  obtain ⟨hh, g, d, t, os⟩ := s
  exact PySem.W.make_core (PySem.W.makes_of X hm) (PySem.W.looks_findIn X hi) (fun self => PySem.W.bind_fn X self hf) (.inl rfl) h
/-- C() where there is no __init__ but object's -/
theorem make_map0 {R : Result → Shared → Prop} (X : K.In s.heap) (hm : PySem.W.makesIn K C = true)
    (hi : PySem.W.findIn K (.ref C) "__init__" = some (some (.builtin "object.__init__")))
    (hb : ∀ self, PySem.W.Looks (model prog w) s.heap (bindSpecial (.builtin "object.__init__") self) (.builtin "object.__init__", [self]))
    (h : codeAny (model prog w) (A.under (.builtin "type.__call__" ⟨[.ref C], []⟩)) (.call (.builtin "object.__init__") ⟨[.ref (s.heap.objs.size + 1)], []⟩) (PySem.W.InitBack (s.heap.objs.size + 1) R)
      { s with heap := (s.heap.push PySem.W.emptyDict).push (PySem.W.instObj C s.heap.objs.size) }) :
    codeAny (model prog w) A (.call (.ref C) ⟨[], []⟩) R s := by
  obtain ⟨hh, g, d, t, os⟩ := s
  exact PySem.W.make_core (PySem.W.makes_of X hm) (PySem.W.looks_findIn X hi) hb (.inr ⟨rfl, rfl⟩) h
end

/-! ### the attributes as a list of pairs -/
def putF (f : Str) (v : V) : List (Str × V) → List (Str × V)
  | [] => [(f, v)]
  | (g, x) :: r => if g = f then (g, v) :: r else (g, x) :: putF f v r
theorem lookup_putF (f g : Str) (v : V) : ∀ fs : List (Str × V), (putF f v fs).lookup g = if g = f then some v else fs.lookup g
  | [] => by
    show List.lookup g [(f, v)] = _
    by_cases h : g = f
    · have hb : (g == f) = true := beq_iff_eq.mpr h
      simp only [List.lookup, hb, if_pos h]
    · have hb : (g == f) = false := beq_eq_false_iff_ne.mpr h
      simp only [List.lookup, hb, if_neg h]
  | (k, x) :: r => by
    have ih := lookup_putF f g v r
    rw [show putF f v ((k, x) :: r) = (if k = f then (k, v) :: r else (k, x) :: putF f v r) from rfl]
    by_cases hk : k = f
    · rw [if_pos hk]
      by_cases h : g = k
      · have hb : (g == k) = true := beq_iff_eq.mpr h
        simp only [List.lookup, hb, if_pos (h.trans hk)]
      · have hb : (g == k) = false := beq_eq_false_iff_ne.mpr h
        simp only [List.lookup, hb, if_neg (fun e : g = f => h (e.trans hk.symm))]
    · rw [if_neg hk]
      by_cases h : g = k
      · have hb : (g == k) = true := beq_iff_eq.mpr h
        simp only [List.lookup, hb, if_neg (fun e : g = f => hk (h.symm.trans e))]
      · have hb : (g == k) = false := beq_eq_false_iff_ne.mpr h
        simp only [List.lookup, hb]
        exact ih
theorem keys_putF (f : Str) (v : V) : ∀ fs : List (Str × V), f ∈ (putF f v fs).map (·.1) ∧ ∀ g, g ∈ fs.map (·.1) → g ∈ (putF f v fs).map (·.1)
  | [] => ⟨by simp [putF], fun g h => by simp at h⟩
  | (k, x) :: r => by
    obtain ⟨i1, i2⟩ := keys_putF f v r
    rw [show putF f v ((k, x) :: r) = (if k = f then (k, v) :: r else (k, x) :: putF f v r) from rfl]
    by_cases hk : k = f
    · rw [if_pos hk]
      subst hk
      exact ⟨by simp, fun g h => by simpa using h⟩
    · rw [if_neg hk]
      refine ⟨?_, fun g h => ?_⟩
      · rw [List.map_cons]
        exact List.mem_cons_of_mem _ i1
      · rw [List.map_cons] at h ⊢
        rcases List.mem_cons.mp h with e | e
        · exact List.mem_cons.mpr (.inl e)
        · exact List.mem_cons_of_mem _ (i2 g e)
theorem length_putF (f : Str) (v : V) : ∀ fs : List (Str × V), (putF f v fs).length ≤ fs.length + 1
  | [] => by simp [putF]
  | (k, x) :: r => by
    have ih := length_putF f v r
    rw [show putF f v ((k, x) :: r) = (if k = f then (k, v) :: r else (k, x) :: putF f v r) from rfl]
    by_cases hk : k = f
    · rw [if_pos hk, List.length_cons, List.length_cons]; omega
    · rw [if_neg hk, List.length_cons, List.length_cons]; omega

theorem RelO.some_of {v : V} {o : Option Value} (r : RelO (some v) o) : ∃ u, o = some u ∧ RelV v u := by
  cases o with
  | none => exact (show False from r).elim
  | some u => exact ⟨u, rfl, r⟩
theorem RelO.none_of {o : Option Value} (r : RelO none o) : o = none := by
  cases o with
  | none => rfl
  | some u => exact (show False from r).elim
theorem handed_of {v : V} {u : Value} (r : RelV v u) : PySem.W.handedIn u = true := by
  cases v with
  | non => cases (show u = Value.none from r); rfl
  | bl b => cases (show u = Value.bool b from r); rfl
  | int i => obtain ⟨t, e⟩ := (show ∃ t, u = Value.int i t from r); cases e; rfl
  | str x => obtain ⟨t, e⟩ := (show ∃ t, u = Value.str x t from r); cases e; rfl
  | byt b => obtain ⟨t, e⟩ := (show ∃ t, u = Value.bytes b t from r); cases e; rfl
  | flt b => obtain ⟨t, e⟩ := (show ∃ t, u = Value.float b t from r); cases e; rfl
  | ref a => cases (show u = Value.ref a from r); rfl
  | ty n => cases (show u = Value.type n from r); rfl

section
variable {P : Program} {w : World} {H H' : Hp} {h h' : Heap} {a C dx : Addr} {fs fs' : List (Str × V)}
theorem ins_get (hok : HOk P w H h) (e : H a = some (.ins C dx fs)) : ∃ mA, ObjM h a dx C mA ∧ (∀ f, RelO (fs.lookup f) (mA f)) ∧ PySem.Within mA (fs.map (·.1)) ∧ fs.length ≤ 1000 ∧ H dx = some (.own a) := by
  obtain ⟨d, z, ne, ob, mA, n, r, q⟩ := (show ObjOk P w H h a (.ins C dx fs) from hok a _ e)
  exact ⟨mA, ⟨ob, n, ne⟩, r, q, z, d⟩
end

/-! ### what of the text a class must have -/
structure Cls (K : PySem.W.Frag) (C : Addr) : Prop where
  pg : PySem.W.plainGet K C Str.empty = true
  hd : PySem.W.hasDictIn K C = true
  po : PySem.W.plainOver K C = true
  sa : PySem.W.findIn K (.ref C) "__setattr__" = some (some (.builtin "object.__setattr__"))
theorem Cls.get {K : PySem.W.Frag} {C : Addr} (c : Cls K C) (f : Str) : PySem.W.plainGet K C f = true := c.pg
/-- no class of it has the name -/
def NoAttr (K : PySem.W.Frag) (C : Addr) (f : Str) : Prop := PySem.W.findIn K (.ref C) f = some none
theorem NoAttr.taker {K : PySem.W.Frag} {C : Addr} {f : Str} (n : NoAttr K C f) : PySem.W.takerIn K C f = some none := by
  unfold PySem.W.takerIn
  rw [show PySem.W.findIn K (.ref C) f = some none from n]
  rfl
/-- a constant of the class -/
structure Con (K : PySem.W.Frag) (C : Addr) (f : Str) (v : V) (u : Value) : Prop where
  at_ : PySem.W.findIn K (.ref C) f = some (some u)
  rel : RelV v u
  get : PySem.W.specialIn K u "__get__" = some none
  cp : PySem.W.copiedNames.contains f = false
/-- a method: a plain def of the class or of one above it -/
structure Meth (K : PySem.W.Frag) (C : Addr) (m : Str) (f : Addr) : Prop where
  at_ : PySem.W.findIn K (.ref C) m = some (some (.ref f))
  fn : PySem.W.isFn K (.ref f) = true
  kp : PySem.W.keepIn K (.ref f) = true

section
variable {X : Cx} {pins : List (Addr × Obj)} {σ : St} {H : Hp} {s : Shared} {a C dx : Addr} {fs : List (Str × V)} {f : Str} {v : V} {A : Around} {E : Value → Shared → Prop}

theorem getattr_ok {b : Bool} {Q : Value → Shared → Prop} (I : Inv X pins σ H s) (e : H a = some (.ins C dx fs)) (c : Cls X.K C) (n : NoAttr X.K C f) (l : fs.lookup f = some v)
    (h : ∀ u s', Inv X pins σ H s' → RelV v u → Q u s') : wpAny (model X.prog X.w) A (getAttr (.ref a) f b) Q E s := by
  obtain ⟨mA, O, r, _, _, _⟩ := ins_get I.hok e
  obtain ⟨u, hu, ru⟩ := RelO.some_of (v := v) (o := mA f) (by rw [← l]; exact r f)
  exact get_map I.kIn O (c.get f) c.hd n hu (handed_of ru) (h u _ (I.tok _) ru)

theorem getcon_ok {b : Bool} {u : Value} {Q : Value → Shared → Prop} (I : Inv X pins σ H s) (e : H a = some (.ins C dx fs)) (c : Cls X.K C) (k : Con X.K C f v u) (l : fs.lookup f = none)
    (h : ∀ s', Inv X pins σ H s' → Q u s') : wpAny (model X.prog X.w) A (getAttr (.ref a) f b) Q E s := by
  obtain ⟨mA, O, r, _, _, _⟩ := ins_get I.hok e
  have hn : mA f = none := RelO.none_of (by rw [← l]; exact r f)
  exact get_const I.kIn O (c.get f) c.hd k.at_ k.get k.cp hn (handed_of k.rel) (h _ (I.tok _))

theorem getmeth_ok {m : Str} {g : Addr} {pl : Sem Bool} {Q : Value × List Value → Shared → Prop} (I : Inv X pins σ H s) (e : H a = some (.ins C dx fs)) (c : Cls X.K C) (k : Meth X.K C m g) (l : fs.lookup m = none)
    (h : Q (.ref g, [.ref a]) s) : wpAny (model X.prog X.w) A (getMethod (.ref a) m pl) Q E s := by
  obtain ⟨mA, O, r, _, _, _⟩ := ins_get I.hok e
  have hn : mA m = none := RelO.none_of (by rw [← l]; exact r m)
  exact get_meth I.kIn O (c.get m) k.at_ k.fn hn h

theorem setattr_ok {y : V} {u : Value} {Q : Unit → Shared → Prop} (I : Inv X pins σ H s) (e : H a = some (.ins C dx fs)) (c : Cls X.K C) (n : NoAttr X.K C f) (hl : fs.length < 1000) (ry : RelV y u)
    (h : ∀ s', Inv X pins σ (upd H a (.ins C dx (putF f y fs))) s' → Q () s') : wpAny (model X.prog X.w) A (setAttr (.ref a) f u) Q E s := by
  obtain ⟨mA, O, r, wi, _, ho⟩ := ins_get I.hok e
  have hz : (fs.map (·.1)).length ≤ sizeLine := by rw [List.length_map, sizeLine_eq]; omega
  refine set_map I.kIn O c.sa c.po n.taker c.hd wi hz fun h' O' sb => h _ ?_
  have hd : ∃ o, h'.get? dx = some o := let ⟨o, _, _, e', _⟩ := O'.ns; ⟨o, e'⟩
  refine I.write (x := a) (e := dx) (by rw [e]; exact True.intro) (.inr ho) (fun b q hb z => (sb.2 b hb).trans z) hd ?_
  refine ⟨by rw [upd_ne O.ne]; exact ho, ?_, O.ne, O'.obj, _, O'.ns, fun g => ?_, fun g hg => ?_⟩
  · have := length_putF f y fs; omega
  · show RelO ((putF f y fs).lookup g) (if g = f then some u else mA g)
    rw [lookup_putF]
    by_cases q : g = f
    · rw [if_pos q, if_pos q]; exact ry
    · rw [if_neg q, if_neg q]; exact r g
  · by_cases q : g = f
    · rw [q]; exact (keys_putF f y fs).1
    · refine (keys_putF f y fs).2 g (wi g fun z => hg ?_)
      show (if g = f then some u else mA g) = none
      rw [if_neg q]; exact z

/-- a new instance, tracked, without attributes -/
theorem Inv.made (I : Inv X pins σ H s) : Inv X pins σ (upd (upd H s.heap.objs.size (.own (s.heap.objs.size + 1))) (s.heap.objs.size + 1) (.ins C s.heap.objs.size []))
    { s with heap := (s.heap.push PySem.W.emptyDict).push (PySem.W.instObj C s.heap.objs.size) } := by
  have e1 : (s.heap.push PySem.W.emptyDict).get? s.heap.objs.size = some PySem.W.emptyDict := Heap.get?_push_size s.heap rfl
  have e2 : ((s.heap.push PySem.W.emptyDict).push (PySem.W.instObj C s.heap.objs.size)).get? (s.heap.objs.size + 1) = some (PySem.W.instObj C s.heap.objs.size) := by
    have := Heap.get?_push_size (s.heap.push PySem.W.emptyDict) (o := PySem.W.instObj C s.heap.objs.size) rfl
    rwa [Heap.size_push] at this
  have e3 : (s.heap.push PySem.W.emptyDict).Ns s.heap.objs.size (fun _ => none) := ⟨PySem.W.emptyDict, #[], _, e1, rfl, (fun e he => absurd he (by simp)), fun _ => rfl⟩
  have I1 := I.laid (a := s.heap.objs.size) (o := .own (s.heap.objs.size + 1)) (h' := s.heap.push PySem.W.emptyDict) (t' := s.toks) (fun b u q => Heap.get?_push_of_some _ q) (Nat.le_refl _) ⟨_, e1⟩
  refine I1.laid (a := s.heap.objs.size + 1) (o := .ins C s.heap.objs.size []) (t' := s.toks) (fun b u q => Heap.get?_push_of_some _ q) (Nat.le_of_eq (Heap.size_push _ _)) ?_
  have ne : s.heap.objs.size ≠ s.heap.objs.size + 1 := Nat.ne_of_lt (Nat.lt_succ_self _)
  refine ⟨by rw [upd_ne ne, upd_same], Nat.zero_le _, ne, e2, fun _ => none, (Heap.Ns1.of_empty e3).at fun o q => Heap.get?_push_of_some _ q, fun _ => True.intro, fun y hy => absurd rfl hy⟩

/-- e.f where nothing but the object is asked: through attributeBase (super) and the last hold -/
theorem attr_of {prog : Program} {w : World} {env : Env} {e : Expr} {f : Str} {pos : Pos} {s : Shared} {Q : Value → Shared → Prop} (hb : attributeBase e f env (eval e env) = eval e env)
    (h : wpAny (model prog w) A (eval e env) (fun o s₁ => wpAny (model prog w) A (getAttr o f true) Q E s₁) E s) : wpAny (model prog w) A (eval (.Attribute e f pos) env) Q E s :=
  Attribute_any_ h (by rw [arm_eval_Attribute, hb])
end

/-! ### readings and rules -/
/-- e.f, an attribute of the instance -/
def tFld (K : PySem.W.Frag) (ta : TE) (f : Str) : TE := fun σ H Q => ta σ H fun x H1 => ∃ a C dx fs v, x = .ref a ∧ H1 a = some (.ins C dx fs) ∧ Cls K C ∧ NoAttr K C f ∧ fs.lookup f = some v ∧ Q v H1
/-- e.f, a constant of the class -/
def tCon (K : PySem.W.Frag) (ta : TE) (f : Str) : TE := fun σ H Q => ta σ H fun x H1 => ∃ a C dx fs v u, x = .ref a ∧ H1 a = some (.ins C dx fs) ∧ Cls K C ∧ Con K C f v u ∧ fs.lookup f = none ∧ Q v H1
/-- e.f = value -/
def sFld (K : PySem.W.Frag) (ta tv : TE) (f : Str) : TS := fun D σ H => tv σ H fun y H1 => ta σ H1 fun x H2 => ∃ a C dx fs, x = .ref a ∧ H2 a = some (.ins C dx fs) ∧ Cls K C ∧ NoAttr K C f ∧ fs.length < 1000 ∧
  D.nx σ (upd H2 a (.ins C dx (putF f y fs)))
/-- an augmented operator on two values -/
def InOp (X : Cx) (op : Operator) (rd : V → V → Hp → VK → Prop) : Prop :=
  ∀ (pins : List (Addr × Obj)) (s : Shared) (σ : St) (H : Hp) (x y : V) (u v : Value) (Q : VK), Inv X pins σ H s → RelV x u → RelV y v → rd x y H Q → wpAny (model X.prog X.w) X.A (inplaceOp op u v) (EP X pins σ Q) X.xe s
/-- e.f op= value -/
def sFldAug (K : PySem.W.Frag) (ta tv : TE) (rd : V → V → Hp → VK → Prop) (f : Str) : TS := fun D σ H => ta σ H fun x H1 => ∃ a C dx fs v, x = .ref a ∧ H1 a = some (.ins C dx fs) ∧ Cls K C ∧ NoAttr K C f ∧ fs.lookup f = some v ∧
  tv σ H1 fun y H2 => rd v y H2 fun z H3 => ∃ dx' fs', H3 a = some (.ins C dx' fs') ∧ fs'.length < 1000 ∧ D.nx σ (upd H3 a (.ins C dx' (putF f z fs')))

section
variable {X : Cx} {o e value : Expr} {f : Str} {pos pos' tpos : Pos} {ta tv : TE}
theorem pe_fld (he : PE X e ta) (hb : attributeBase e f X.env (eval e X.env) = eval e X.env) : PE X (.Attribute e f pos) (tFld X.K ta f) := by
  intro pins s σ H Q I h
  refine attr_of hb (thn (he pins s σ H _ I h) fun u s1 ⟨x, H1, I1, rx, a, C, dx, fs, v, ex, ea, c, n, l, q⟩ => ?_)
  subst ex
  obtain rfl : u = Value.ref a := rx
  exact getattr_ok I1 ea c n l fun u' s2 I2 ru => ⟨v, H1, I2, ru, q⟩
theorem pe_con (he : PE X e ta) (hb : attributeBase e f X.env (eval e X.env) = eval e X.env) : PE X (.Attribute e f pos) (tCon X.K ta f) := by
  intro pins s σ H Q I h
  refine attr_of hb (thn (he pins s σ H _ I h) fun u s1 ⟨x, H1, I1, rx, a, C, dx, fs, v, u0, ex, ea, c, k, l, q⟩ => ?_)
  subst ex
  obtain rfl : u = Value.ref a := rx
  exact getcon_ok I1 ea c k l fun s2 I2 => ⟨v, H1, I2, k.rel, q⟩
theorem ps_fld (ha : PE X o ta) (hv : PE X value tv) (hs : swapsWith value (some (.Attribute o f pos')) pos.line X.env = pure false) : PS X (.Assign [.Attribute o f pos'] value pos) (sFld X.K ta tv f) := by
  intro pins s σ H D I h
  refine plainObj_wpAny_Assign_Attribute (thn (hv pins s σ H _ I h) fun u s1 ⟨y, H1, I1, ry, q⟩ => thn (ha pins s1 σ H1 _ I1 q) fun ov s2 ⟨x, H2, I2, rx, a, C, dx, fs, ex, ea, c, n, l, q2⟩ => ?_) hs
  subst ex
  obtain rfl : ov = Value.ref a := rx
  exact setattr_ok I2 ea c n l ry fun s3 I3 => ⟨σ, _, I3, q2⟩
theorem ps_fldaug {op : Operator} {rd : V → V → Hp → VK → Prop} (ha : PE X o ta) (hv : PE X value tv) (hop : InOp X op rd) : PS X (.AugAssign (.Attribute o f tpos) op value pos) (sFldAug X.K ta tv rd f) := by
  intro pins s σ H D I h
  refine wpAny_AugAssign_AttributeAny (thn (ha pins s σ H _ I h) fun ov s1 ⟨x, H1, I1, rx, a, C, dx, fs, v, ex, ea, c, n, l, q⟩ => ?_)
  subst ex
  obtain rfl : ov = Value.ref a := rx
  refine getattr_ok I1 ea c n l fun u s2 I2 ru => thn (hv pins s2 σ H1 _ I2 q) fun w3 s3 ⟨y, H2, I3, ry, q3⟩ => thn (hop pins s3 σ H2 v y u w3 _ I3 ru ry q3) fun w4 s4 ⟨z, H3, I4, rz, dx', fs', ea', l', q4⟩ => ?_
  exact setattr_ok I4 ea' c n l' rz fun s5 I5 => ⟨σ, _, I5, q4⟩
def rAdd : V → V → Hp → VK → Prop := fun x y H Q => ∃ i j, x = .int i ∧ y = .int j ∧ Q (.int (i + j)) H
def rSub : V → V → Hp → VK → Prop := fun x y H Q => ∃ i j, x = .int i ∧ y = .int j ∧ Q (.int (i - j)) H
theorem in_add : InOp X .Add rAdd := by
  rintro pins s σ H x y u v Q I rx ry ⟨i, j, rfl, rfl, q⟩
  obtain ⟨t, rfl⟩ := (show ∃ t, u = Value.int i t from rx)
  obtain ⟨t', rfl⟩ := (show ∃ t', v = Value.int j t' from ry)
  exact PyProof.Rows.iadd_int ⟨.int (i + j), H, I.tok _, ⟨_, rfl⟩, q⟩
theorem in_sub : InOp X .Sub rSub := by
  rintro pins s σ H x y u v Q I rx ry ⟨i, j, rfl, rfl, q⟩
  obtain ⟨t, rfl⟩ := (show ∃ t, u = Value.int i t from rx)
  obtain ⟨t', rfl⟩ := (show ∃ t', v = Value.int j t' from ry)
  exact PyProof.Rows.isub_int ⟨.int (i - j), H, I.tok _, ⟨_, rfl⟩, q⟩

/-- what is between an instance and its method: the tree of a method call -/
theorem methcall_of {pl : Sem Bool} {m : Str} {apos : Pos} {args : List Expr} {pins : List (Addr × Obj)} {s : Shared} {σ : St} {H : Hp} {Q : Value → Shared → Prop} {te : TE} (he : PE X e te) (I : Inv X pins σ H s)
    (h : te σ H fun x H1 => ∃ a C dx fs g, x = .ref a ∧ H1 a = some (.ins C dx fs) ∧ Cls X.K C ∧ Meth X.K C m g ∧ fs.lookup m = none ∧
      ∀ s1, Inv X pins σ H1 s1 → wpAny (model X.prog X.w) X.A (callWith pos (.ref g) [.ref a] (backTo pos (starEach args X.env)) (backToKw pos (keywordEach [] X.env))) Q X.xe s1)
    (ht : eval (.Call (.Attribute e m apos) args [] pos) X.env = (do
      let ov ← eval e X.env
      standAt apos.atName
      let (f, first) ← holding [ov] (getMethod ov m pl)
      callWith pos f first (backTo pos (starEach args X.env)) (backToKw pos (keywordEach [] X.env)))) :
    wpAny (model X.prog X.w) X.A (eval (.Call (.Attribute e m apos) args [] pos) X.env) Q X.xe s := by
  refine PySem.W.methodCall_KW (pl := pl) (thn (he pins s σ H _ I h) fun u s1 ⟨x, H1, I1, rx, a, C, dx, fs, g, ex, ea, c, k, l, q⟩ => ?_) ht
  subst ex
  obtain rfl : u = Value.ref a := rx
  exact getmeth_ok I1 ea c k l (q s1 I1)
end

/-! ### isinstance -/
section
variable {X : Cx} {pins : List (Addr × Obj)} {σ : St} {H : Hp} {s : Shared} {A : Around} {E : Value → Shared → Prop} {Q : Value → Shared → Prop} {c : Value} {b : Bool}
/-- the type of a value, as the fragment's deciders take it; for an instance its class -/
inductive TyOf (K : PySem.W.Frag) (H : Hp) : V → Value → Prop where
  | non : TyOf K H .non (.type "NoneType")
  | bl (x : Bool) : TyOf K H (.bl x) (.type "bool")
  | int (i : Int) : TyOf K H (.int i) (.type "int")
  | str (x : Str) : TyOf K H (.str x) (.type "str")
  | flt (x : UInt64) : TyOf K H (.flt x) (.type "float")
  | lst {a : Addr} {xs : List V} (e : H a = some (.lst xs)) : TyOf K H (.ref a) (.type "list")
  | frz {a : Addr} {o : Obj} {xs : List V} (e : H a = some (.frz o (.lst xs))) : TyOf K H (.ref a) (.type "list")
  | tup {a : Addr} {xs : List V} (e : H a = some (.tup xs)) : TyOf K H (.ref a) (.type "tuple")
  | dK {a : Addr} {kvs : List (Key × V)} (e : H a = some (.dK kvs)) : TyOf K H (.ref a) (.type "dict")
  | dT {a : Addr} {kvs : List (List Key × V)} (e : H a = some (.dT kvs)) : TyOf K H (.ref a) (.type "dict")
  | ins {a C dx : Addr} {fs : List (Str × V)} (e : H a = some (.ins C dx fs)) (cl : Cls K C) (ha : PySem.W.findIn K (.ref C) "__class__" = some (some (.builtin "object.__class__")))
      (hn : PySem.W.specialIn K (.builtin "object.__class__") "__get__" = some (some (.builtin "getset_descriptor.__get__"))) (htk : PySem.W.takesIn K (.builtin "object.__class__") = some true)
      (hm : PySem.W.mroIn K C (.type "object") = some true) : TyOf K H (.ref a) (.ref C)
/-- isinstance(x, c) for one class c, a built-in or an own one: kitOne's answer -/
theorem isinst_ok {x : V} {u t : Value} (I : Inv X pins σ H s) (rx : RelV x u) (ty : TyOf X.K H x t) (e : PySem.W.kitOne X.K t c = some b) (h : ∀ tk, Q (.bool b) { s with toks := tk }) :
    wpAny (model X.prog X.w) A (call (.builtin "isinstance") [u, c]) Q E s := by
  cases ty with
  | non => cases (show u = Value.none from rx); exact PySem.W.kia_one PySem.W.kitx_none I.kIn True.intro e (fun z => nomatch z) h
  | bl y => cases (show u = Value.bool y from rx); exact PySem.W.kia_one PySem.W.kitx_bool I.kIn True.intro e (fun z => nomatch z) h
  | int i => obtain ⟨t, q⟩ := (show ∃ t, u = Value.int i t from rx); cases q; exact PySem.W.kia_one PySem.W.kitx_int I.kIn True.intro e (fun z => nomatch z) h
  | str y => obtain ⟨t, q⟩ := (show ∃ t, u = Value.str y t from rx); cases q; exact PySem.W.kia_one PySem.W.kitx_str I.kIn True.intro e (fun z => nomatch z) h
  | flt y => obtain ⟨t, q⟩ := (show ∃ t, u = Value.float y t from rx); cases q; exact PySem.W.kia_one PySem.W.kitx_float I.kIn True.intro e (fun z => nomatch z) h
  | @lst a xs ea =>
    cases (show u = Value.ref a from rx)
    obtain ⟨_, _, n, _, h1⟩ := (show ObjOk X.prog X.w H s.heap a (.lst xs) from I.hok a _ ea)
    exact PySem.W.kia_one PySem.W.kitx_list I.kIn ⟨_, h1, rfl⟩ e (fun z => nomatch z) h
  | @frz a ob xs ea =>
    cases (show u = Value.ref a from rx)
    obtain ⟨_, _, _, n, _, h1⟩ := (show ObjOk X.prog X.w H s.heap a (.frz ob (.lst xs)) from I.hok a _ ea)
    exact PySem.W.kia_one PySem.W.kitx_list I.kIn ⟨_, h1, rfl⟩ e (fun z => nomatch z) h
  | @tup a xs ea =>
    cases (show u = Value.ref a from rx)
    obtain ⟨_, _, _, p⟩ := (show ObjOk X.prog X.w H s.heap a (.tup xs) from I.hok a _ ea)
    obtain ⟨o, h1, h2, _⟩ := p
    exact PySem.W.kia_one PySem.W.kitx_tuple I.kIn ⟨o, h1, h2⟩ e (fun z => nomatch z) h
  | @dK a kvs ea =>
    cases (show u = Value.ref a from rx)
    obtain ⟨_, _, vs, _, p⟩ := (show ObjOk X.prog X.w H s.heap a (.dK kvs) from I.hok a _ ea)
    obtain ⟨o, es, ep, h1, h2, _⟩ := p
    exact PySem.W.kia_one PySem.W.kitx_dict I.kIn ⟨o, h1, h2.1⟩ e (fun z => nomatch z) h
  | @dT a kvs ea =>
    cases (show u = Value.ref a from rx)
    obtain ⟨_, _, xs, _, o, es, ep, h1, h2, _⟩ := (show ObjOk X.prog X.w H s.heap a (.dT kvs) from I.hok a _ ea)
    exact PySem.W.kia_one PySem.W.kitx_dict I.kIn ⟨o, h1, h2.1⟩ e (fun z => nomatch z) h
  | @ins a C dx fs ea cl ha hn htk hm =>
    cases (show u = Value.ref a from rx)
    obtain ⟨mA, O, _⟩ := ins_get I.hok ea
    obtain ⟨od, J, _⟩ := O.look
    exact PySem.W.kia_one (PySem.W.kitx_own (cl.get _) cl.hd ha hn htk hm) I.kIn J e (fun z => nomatch z) h
end
end L2

namespace L2
open PySem PySem.Spec PyProof.Rows

/-! ### room -/
structure Room (k : Nat) (A : Around) : Prop where
  hd : A.handled = none
  dp : A.depth + 3 * k + 5 < recursionLimit
  un : A.units + 16 * k + 200 < cLine
theorem Room.mono {j k : Nat} {A : Around} (r : Room k A) (h : j ≤ k) : Room j A := ⟨r.hd, by have := r.dp; omega, by have := r.un; omega⟩
theorem Room.deeper {k : Nat} {A : Around} (r : Room (k + 1) A) (env : Env) : Room k (A.deeper env) :=
  ⟨r.hd, by have := r.dp; show A.depth + 1 + 3 * k + 5 < _; omega, by have := r.un; show A.units + 3 + 16 * k + 200 < _; omega⟩
theorem Room.in1 {k : Nat} {A : Around} (r : Room (k + 1) A) : Room k A.in1 :=
  ⟨r.hd, by have := r.dp; show A.depth + 3 * k + 5 < _; omega, by have := r.un; show A.units + 1 + 16 * k + 200 < _; omega⟩
theorem make_depth {A : Around} {C : Addr} {us : List Value} {kw : List (Str × Value)} : (A.under (.builtin "type.__call__" ⟨.ref C :: us, kw⟩)).depth = A.depth + 1 := by
  first | rfl | simp [Around.under, Code.weight, Code.isCreation, Code.isGuard, Code.isCaller, Code.frames, Code.isFrame, guardIds]
theorem make_units {A : Around} {C : Addr} {us : List Value} {kw : List (Str × Value)} : (A.under (.builtin "type.__call__" ⟨.ref C :: us, kw⟩)).units = A.units + 1 := by
  first | rfl | simp [Around.under, Code.cUnits, Code.frames, Code.isFrame]
theorem Room.make {k : Nat} {A : Around} (r : Room (k + 1) A) (C : Addr) (us : List Value) (kw : List (Str × Value)) : Room k (A.under (.builtin "type.__call__" ⟨.ref C :: us, kw⟩)) :=
  ⟨r.hd, by have := r.dp; rw [make_depth]; omega, by have := r.un; rw [make_units]; omega⟩
theorem Room.depth {k : Nat} {A : Around} (r : Room k A) : A.depth < recursionLimit := by have := r.dp; omega
theorem Room.units {k : Nat} {A : Around} (r : Room k A) : A.units + 64 < cLine := by have := r.un; omega
theorem Room.units0 {k : Nat} {A : Around} (r : Room k A) : A.units < cLine := by have := r.un; omega

/-! ### argument lists and displays -/
def tNil : TA := fun _ H Q => Q [] H
def tCons (ta : TE) (tr : TA) : TA := fun σ H Q => ta σ H fun x H1 => tr σ H1 fun xs H2 => Q (x :: xs) H2
section
variable {X : Cx} {e : Expr} {es : List Expr} {te : TE} {t : TA} {pos : Pos}
theorem pa_nil : PA X [] tNil := fun _ _ _ _ H Q I h => Calls.spliced_nil ⟨[], H, I, .nil, h⟩
theorem pa_cons (ha : PE X e te) (hr : PA X es t) (hs : starEach (e :: es) X.env = (false, eval e X.env) :: starEach es X.env := by rfl) : PA X (e :: es) (tCons te t) := by
  intro pos pins s σ H Q I h
  rw [hs]
  show wpAny _ _ (spliced ((false, eval e X.env) :: backTo pos (starEach es X.env))) _ _ s
  refine Calls.spliced_cons (thn (ha pins s σ H _ I h) fun u s1 ⟨x, H1, I1, r1, q1⟩ => ?_)
  exact thn (hr pos pins s1 σ H1 _ I1 q1) fun us s2 ⟨xs, H2, I2, r2, q2⟩ => ⟨x :: xs, H2, I2, .cons r1 r2, q2⟩

/-- a tuple, a list of written items -/
def tTup (t : TA) : TE := fun σ H Q => t σ H fun xs H1 => xs.length ≤ sizeLine ∧ ∀ p, H1 p = none → Q (.ref p) (upd H1 p (.tup xs))
def tLst (t : TA) : TE := fun σ H Q => t σ H fun xs H1 => xs.length ≤ sizeLine ∧ ∀ p, H1 p = none → Q (.ref p) (upd H1 p (.lst xs))
theorem pe_tup {x1} (h : PA X es t) : PE X (.Tuple es x1 pos) (tTup t) := by
  intro pins s σ H Q I hq
  refine wpAny_Tuple_spliced (thn (h pos pins s σ H _ I hq) fun us s1 ⟨xs, H1, I1, r, z, q⟩ => ⟨by rw [← r.length]; exact z, ?_⟩)
  have hf : H1 s1.heap.objs.size = none := I1.hok.fresh (Nat.le_refl _)
  refine ⟨.ref s1.heap.objs.size, upd H1 s1.heap.objs.size (.tup xs), I1.laid (t' := s1.toks) (fun b u e => Heap.get?_push_of_some _ e) (Nat.le_refl _) ?_, rfl, q _ hf⟩
  exact ⟨z, us, r, ⟨_, Heap.get?_push_size _ rfl, rfl, _, rfl⟩⟩
theorem pe_lst (h : PA X es t) : PE X (.List es pos) (tLst t) := by
  intro pins s σ H Q I hq
  refine wpAny_List_spliced (thn (h pos pins s σ H _ I hq) fun us s1 ⟨xs, H1, I1, r, z, q⟩ => ⟨by rw [← r.length]; exact z, ?_⟩)
  have hf : H1 s1.heap.objs.size = none := I1.hok.fresh (Nat.le_refl _)
  refine ⟨.ref s1.heap.objs.size, upd H1 s1.heap.objs.size (.lst xs), I1.laid (t' := s1.toks) (fun b u e => Heap.get?_push_of_some _ e) (Nat.le_refl _) ?_, rfl, q _ hf⟩
  exact ⟨z, us, 0, r, Heap.get?_push_size _ rfl⟩
end

/-! ### what a def promises -/
/-- a def's promise: the bound arguments in the parameters' order, the heap, the wanted end, the wanted exception -/
abbrev Sp := List V → Hp → VK → XK → Prop
/-- how an exception lies behind a call (file 08 gives it): the callers' frames, abstract heap and state ahead of the call, the wish, the exception, the state -/
abbrev CXT := List Env → Hp → Shared → XK → Value → Shared → Prop

/-- the state at a call -/
structure Env0 (P : Program) (w : World) (K : PySem.W.Frag) (mg : Str → Option Value) (base : Heap) (A : Around) (outer : List Env) (s : Shared) (H : Hp) : Prop where
  frames : A.frames = some outer
  mod : Mod K mg base
  bs : ∀ b o, base.get? b = some o → s.heap.get? b = some o ∧ H b = none
  bsz : base.objs.size ≤ s.heap.objs.size
  funs : s.heap.FunFrames base outer
  frf : ∀ b ∈ frs outer, H b = none
  hok : HOk P w H s.heap
  bare : AllBare s.gens
/-- a call's end -/
def CE (outer : List Env) (P : Program) (w : World) (H : Hp) (s : Shared) (Q : VK) (u : Value) (s' : Shared) : Prop :=
  ∃ v H', s'.os = s.os ∧ AllBare s'.gens ∧ Un (frs outer) [] H H' s.heap s'.heap ∧ HOk P w H' s'.heap ∧ RelV v u ∧ Q v H'
def CR (CX : CXT) (outer : List Env) (P : Program) (w : World) (H : Hp) (s : Shared) (Q : VK) (E : XK) (r : Result) (s' : Shared) : Prop :=
  match r with
  | .ok (.ret u) => CE outer P w H s Q u s'
  | .ok _ => False
  | .error e => CX outer H s E e s'
structure FnOk (P : Program) (w : World) (K : PySem.W.Frag) (mg : Str → Option Value) (base : Heap) (CX : CXT) (k : Nat) (f : Addr) (fd : FuncData) (ps : List Str) (sp : Sp) : Prop where
  len : ∀ vs H Q E, sp vs H Q E → vs.length = ps.length
  run : ∀ (A : Around) (outer : List Env) (s : Shared) (H : Hp) (args : Args) (us : List Value) (vs : List V) (Q : VK) (E : XK), Room k A → Env0 P w K mg base A outer s H → BindsTo s fd args (ps.zip us) → Vals vs us → sp vs H Q E →
    codeAny (model P w) A (.call (.ref f) args) (CR CX outer P w H s Q E) s
theorem FnOk.mono {P : Program} {w : World} {K : PySem.W.Frag} {mg : Str → Option Value} {base : Heap} {CX : CXT} {j k : Nat} {f : Addr} {fd : FuncData} {ps : List Str} {sp : Sp} (F : FnOk P w K mg base CX j f fd ps sp) (h : j ≤ k) :
    FnOk P w K mg base CX k f fd ps sp := ⟨F.len, fun A outer s H args us vs Q E hr => F.run A outer s H args us vs Q E (hr.mono h)⟩
/-- a weaker promise -/
theorem FnOk.imp {P : Program} {w : World} {K : PySem.W.Frag} {mg : Str → Option Value} {base : Heap} {CX : CXT} {k : Nat} {f : Addr} {fd : FuncData} {ps : List Str} {sp sp' : Sp} (F : FnOk P w K mg base CX k f fd ps sp)
    (h : ∀ vs H Q E, sp' vs H Q E → sp vs H Q E) : FnOk P w K mg base CX k f fd ps sp' :=
  ⟨fun vs H Q E q => F.len vs H Q E (h _ _ _ _ q), fun A outer s H args us vs Q E hr he hb hv hs => F.run A outer s H args us vs Q E hr he hb hv (h _ _ _ _ hs)⟩

theorem Env0.make {P : Program} {w : World} {K : PySem.W.Frag} {mg : Str → Option Value} {base : Heap} {A : Around} {outer : List Env} {s : Shared} {H : Hp} (e : Env0 P w K mg base A outer s H) (C : Addr) (us : List Value) (kw : List (Str × Value)) :
    Env0 P w K mg base (A.under (.builtin "type.__call__" ⟨.ref C :: us, kw⟩)) outer s H := ⟨by first | exact e.frames | (simpa [Around.under, Code.envs, Code.isFrame, pushEnvs] using e.frames), e.mod, e.bs, e.bsz, e.funs, e.frf, e.hok, e.bare⟩
theorem Env0.in1 {P : Program} {w : World} {K : PySem.W.Frag} {mg : Str → Option Value} {base : Heap} {A : Around} {outer : List Env} {s : Shared} {H : Hp} (e : Env0 P w K mg base A outer s H) :
    Env0 P w K mg base A.in1 outer s H := ⟨e.frames, e.mod, e.bs, e.bsz, e.funs, e.frf, e.hok, e.bare⟩

section
variable {X : Cx} {pins : List (Addr × Obj)} {σ : St} {H : Hp} {s s' : Shared}
/-- from a body: what a callee wants -/
theorem Inv.env0 (I : Inv X pins σ H s) : Env0 X.prog X.w X.K X.mg X.base X.A X.stack s H :=
  ⟨I.ok.frames, I.ok.mod, I.bs, Nat.le_trans I.ok.bsz I.sz, I.stack, I.stkFree, I.hok, I.bare⟩
/-- behind a call -/
theorem Inv.after {Q : VK} {u : Value} (I : Inv X pins σ H s) (h : CE X.stack X.prog X.w H s Q u s') : EP X pins σ Q u s' := by
  obtain ⟨v, H', os, bare, un, hok, r, q⟩ := h
  obtain ⟨hh, g, d, t, os'⟩ := s'
  obtain rfl : os' = s.os := os
  exact ⟨v, H', I.call (h' := hh) (g' := g) (d' := d) (t' := t) (ch := []) un hok bare (fun b z => absurd z (by simp)), r, q⟩
end

/-! ### calls -/
/-- f(..): the written arguments, then the defaults dvs; E: what is wanted of an exception -/
def tCall (sp : Sp) (dvs : List V) (E : XK) (t : TA) : TE := fun σ H Q => t σ H fun vs H1 => sp (vs ++ dvs) H1 Q E
/-- o.m(..) of an instance of the class at C -/
def tMeth (C : Addr) (m : Str) (sp : Sp) (dvs : List V) (E : XK) (ta : TE) (t : TA) : TE := fun σ H Q => ta σ H fun x H1 => ∃ a dx fs, x = .ref a ∧ H1 a = some (.ins C dx fs) ∧ fs.lookup m = none ∧
  t σ H1 fun vs H2 => sp (x :: (vs ++ dvs)) H2 Q E
/-- C(..): a new instance and its dict, then __init__ -/
def tMake (C : Addr) (sp : Sp) (dvs : List V) (E : XK) (t : TA) : TE := fun σ H Q => t σ H fun vs H1 => ∀ x dx, H1 x = none → H1 dx = none → dx ≠ x →
  sp (.ref x :: (vs ++ dvs)) (upd (upd H1 dx (.own x)) x (.ins C dx [])) (fun v H2 => v = .non ∧ Q (.ref x) H2) E

/-- how the parameters are bound: us the positional arguments, kw the keywords' values by name, ds the defaults that fill up -/
def Binds (K : PySem.W.Frag) (fd : FuncData) (ps : List Str) (ds : List Value) : Prop :=
  ∀ (s : Shared) (us : List Value), K.In s.heap → (us ++ ds).length = ps.length → BindsTo s fd ⟨us, []⟩ (ps.zip (us ++ ds))
/-- every parameter is given -/
theorem Binds.all {K : PySem.W.Frag} {fd : FuncData} {ps : List Str} (h : ∀ us : List Value, us.length = ps.length → bindArgs fd ⟨us, []⟩ = pure (ps.zip us)) : Binds K fd ps [] := fun s us _ hl => by
  rw [List.append_nil] at hl ⊢
  exact .of_eq (h us hl)

/-- an exception of a callee reaches what this body wants of exceptions -/
def Passes (CX : CXT) (X : Cx) (E : XK) : Prop := ∀ (pins : List (Addr × Obj)) (σ : St) (H : Hp) (s : Shared) (e : Value) (s' : Shared), Inv X pins σ H s → CX X.stack H s E e s' → X.xe e s'

section
variable {X : Cx} {CX : CXT} {k : Nat} {f C : Addr} {fd : FuncData} {ps : List Str} {sp : Sp} {dvs : List V} {ds : List Value} {E : XK} {x m : Str} {p pos apos : Pos} {e o : Expr} {es : List Expr} {ta : TE} {t : TA}

/-- the callee runs -/
theorem run_fn {pins : List (Addr × Obj)} {σ : St} {H : Hp} {s : Shared} {Q : VK} {us : List Value} {vs : List V} (F : FnOk X.prog X.w X.K X.mg X.base CX k f fd ps sp) (hr : Room k X.A) (hb : Binds X.K fd ps ds) (hd : Vals dvs ds) (hx : Passes CX X E)
    (I : Inv X pins σ H s) (r : Vals vs us) (h : sp (vs ++ dvs) H Q E) : wpAny (model X.prog X.w) X.A (call (.ref f) us) (EP X pins σ Q) X.xe s := by
  have r2 : Vals (vs ++ dvs) (us ++ ds) := r.append hd
  have hl : (us ++ ds).length = ps.length := by rw [← r2.length]; exact F.len _ _ _ _ h
  refine wpAny_call (codeAny_mono (F.run X.A X.stack s H ⟨us, []⟩ (us ++ ds) (vs ++ dvs) Q E hr I.env0 (hb s us I.kIn hl) r2 h) fun r s' hq => ?_)
  cases r with
  | error e => exact hx pins σ H s e s' I hq
  | ok fl =>
    cases fl with
    | ret u => exact I.after hq
    | next => exact False.elim hq
    | brk => exact False.elim hq
    | cont => exact False.elim hq

theorem pe_call (F : FnOk X.prog X.w X.K X.mg X.base CX k f fd ps sp) (hr : Room k X.A) (hg : Gl X x) (hm : X.mg x = some (.ref f)) (hk : PySem.W.keepIn X.K (.ref f) = true) (hb : Binds X.K fd ps ds) (hd : Vals dvs ds) (hx : Passes CX X E)
    (ha : PA X (e :: es) t) (hdb : (x == ("__debug__" : Str)) = false := by decide) (he : starEach (e :: es) X.env = (false, eval e X.env) :: starEach es X.env := by rfl) (hpl : (backTo pos (starEach es X.env)).any (·.1) = false := by rfl) :
    PE X (.Call (.Name x p) (e :: es) [] pos) (tCall sp dvs E t) := by
  intro pins s σ H Q I h
  refine wpAny_Call_Name_kw (ld_glob I hg hm ?_ hdb)
  refine PySem.W.callWith_K (h₀ := X.base) I.ok.mod.kin hk (thn (ha pos pins s σ H _ I h) fun us s1 ⟨vs, H1, I1, r, q⟩ => ⟨I1.kIn, ?_⟩) he hpl
  exact run_fn F hr hb hd hx I1 r q
theorem pe_call0 (F : FnOk X.prog X.w X.K X.mg X.base CX k f fd ps sp) (hr : Room k X.A) (hg : Gl X x) (hm : X.mg x = some (.ref f)) (hk : PySem.W.keepIn X.K (.ref f) = true) (hb : Binds X.K fd ps ds) (hd : Vals dvs ds) (hx : Passes CX X E)
    (hdb : (x == ("__debug__" : Str)) = false := by decide) : PE X (.Call (.Name x p) [] [] pos) (tCall sp dvs E tNil) := by
  intro pins s σ H Q I h
  refine wpAny_Call_Name_kw (ld_glob I hg hm ?_ hdb)
  exact PySem.W.callWith_K0 I.kIn hk (run_fn (us := []) F hr hb hd hx I .nil h)

/-- o.m(e, ..) -/
theorem pe_meth {pl : Sem Bool} (he : PE X o ta) (c : Cls X.K C) (hm : Meth X.K C m f) (F : FnOk X.prog X.w X.K X.mg X.base CX k f fd ps sp) (hr : Room k X.A) (hb : Binds X.K fd ps ds) (hd : Vals dvs ds) (hx : Passes CX X E) (ha : PA X (e :: es) t)
    (hst : starEach (e :: es) X.env = (false, eval e X.env) :: starEach es X.env := by rfl) (hpl : (backTo pos (starEach es X.env)).any (·.1) = false := by rfl)
    (ht : eval (.Call (.Attribute o m apos) (e :: es) [] pos) X.env = (do
      let ov ← eval o X.env
      standAt apos.atName
      let (f, first) ← holding [ov] (getMethod ov m pl)
      callWith pos f first (backTo pos (starEach (e :: es) X.env)) (backToKw pos (keywordEach [] X.env))) := by rfl) :
    PE X (.Call (.Attribute o m apos) (e :: es) [] pos) (tMeth C m sp dvs E ta t) := by
  intro pins s σ H Q I h
  refine PySem.W.methodCall_KW (pl := pl) (thn (he pins s σ H _ I h) fun u s1 ⟨x, H1, I1, rx, a, dx, fs, ex, ea, l, q⟩ => ?_) ht
  subst ex
  obtain rfl : u = Value.ref a := rx
  refine getmeth_ok I1 ea c hm l ?_
  refine PySem.W.callWith_K (first := [.ref a]) (h₀ := X.base) I.ok.mod.kin hm.kp (thn (ha pos pins s1 σ H1 _ I1 q) fun us s2 ⟨vs, H2, I2, r, q2⟩ => ⟨I2.kIn, ?_⟩) hst hpl
  exact run_fn (us := .ref a :: us) (vs := .ref a :: vs) F hr hb hd hx I2 (.cons rfl r) q2
/-- o.m() -/
theorem pe_meth0 {pl : Sem Bool} (he : PE X o ta) (c : Cls X.K C) (hm : Meth X.K C m f) (F : FnOk X.prog X.w X.K X.mg X.base CX k f fd ps sp) (hr : Room k X.A) (hb : Binds X.K fd ps ds) (hd : Vals dvs ds) (hx : Passes CX X E)
    (ht : eval (.Call (.Attribute o m apos) [] [] pos) X.env = (do
      let ov ← eval o X.env
      standAt apos.atName
      let (f, first) ← holding [ov] (getMethod ov m pl)
      callWith pos f first (backTo pos (starEach [] X.env)) (backToKw pos (keywordEach [] X.env))) := by rfl) :
    PE X (.Call (.Attribute o m apos) [] [] pos) (tMeth C m sp dvs E ta tNil) := by
  intro pins s σ H Q I h
  refine PySem.W.methodCall_KW (pl := pl) (thn (he pins s σ H _ I h) fun u s1 ⟨x, H1, I1, rx, a, dx, fs, ex, ea, l, q⟩ => ?_) ht
  subst ex
  obtain rfl : u = Value.ref a := rx
  refine getmeth_ok I1 ea c hm l ?_
  exact PySem.W.callWith_K0 (first := [.ref a]) I1.kIn hm.kp (run_fn (us := [.ref a]) (vs := [.ref a]) F hr hb hd hx I1 (.cons rfl .nil) q)

/-- what a class must have to be made -/
structure Mk (K : PySem.W.Frag) (C f : Addr) : Prop where
  makes : PySem.W.makesIn K C = true
  init : PySem.W.findIn K (.ref C) "__init__" = some (some (.ref f))
  fn : PySem.W.isFn K (.ref f) = true
  kp : PySem.W.keepIn K (.ref C) = true

theorem run_make {pins : List (Addr × Obj)} {σ : St} {H : Hp} {s : Shared} {Q : VK} {us : List Value} {vs : List V} (M : Mk X.K C f) (F : FnOk X.prog X.w X.K X.mg X.base CX k f fd ps sp) (hr : Room (k + 1) X.A) (hb : Binds X.K fd ps ds) (hd : Vals dvs ds)
    (hx : Passes CX X E) (I : Inv X pins σ H s) (r : Vals vs us)
    (h : ∀ x dx, H x = none → H dx = none → dx ≠ x → sp (.ref x :: (vs ++ dvs)) (upd (upd H dx (.own x)) x (.ins C dx [])) (fun v H2 => v = .non ∧ Q (.ref x) H2) E) :
    wpAny (model X.prog X.w) X.A (call (.ref C) us) (EP X pins σ Q) X.xe s := by
  have hq := h (s.heap.objs.size + 1) s.heap.objs.size (I.hok.fresh (Nat.le_succ _)) (I.hok.fresh (Nat.le_refl _)) (Nat.ne_of_lt (Nat.lt_succ_self _))
  have I2 := Inv.made (C := C) I
  have r2 : Vals (V.ref (s.heap.objs.size + 1) :: (vs ++ dvs)) (Value.ref (s.heap.objs.size + 1) :: (us ++ ds)) := .cons rfl (r.append hd)
  have hl : (Value.ref (s.heap.objs.size + 1) :: us ++ ds).length = ps.length := by
    have e := r2.length
    rw [F.len _ _ _ _ hq] at e
    exact e.symm
  refine wpAny_call (make_map (f := f) I.kIn M.makes M.init (beq_iff_eq.mp M.fn) (codeAny_mono (F.run _ X.stack _ _ ⟨Value.ref (s.heap.objs.size + 1) :: us, []⟩ (Value.ref (s.heap.objs.size + 1) :: (us ++ ds)) _ _ E (hr.make C us [])
    (I2.env0.make C us []) (hb _ (Value.ref (s.heap.objs.size + 1) :: us) I2.kIn hl) r2 hq) fun r s' hq' => ?_))
  cases r with
  | error e => exact hx pins σ _ _ e s' I2 hq'
  | ok fl =>
    cases fl with
    | ret u =>
      obtain ⟨v, H', I3, rv, ev, q3⟩ := I2.after hq'
      subst ev
      exact ⟨rv, ⟨V.ref (s.heap.objs.size + 1), H', I3, rfl, q3⟩⟩
    | next => exact False.elim hq'
    | brk => exact False.elim hq'
    | cont => exact False.elim hq'
theorem pe_make (M : Mk X.K C f) (F : FnOk X.prog X.w X.K X.mg X.base CX k f fd ps sp) (hr : Room (k + 1) X.A) (hg : Gl X x) (hm : X.mg x = some (.ref C)) (hb : Binds X.K fd ps ds) (hd : Vals dvs ds) (hx : Passes CX X E)
    (ha : PA X (e :: es) t) (hdb : (x == ("__debug__" : Str)) = false := by decide) (he : starEach (e :: es) X.env = (false, eval e X.env) :: starEach es X.env := by rfl) (hpl : (backTo pos (starEach es X.env)).any (·.1) = false := by rfl) :
    PE X (.Call (.Name x p) (e :: es) [] pos) (tMake C sp dvs E t) := by
  intro pins s σ H Q I h
  refine wpAny_Call_Name_kw (ld_glob I hg hm ?_ hdb)
  refine PySem.W.callWith_K (h₀ := X.base) I.ok.mod.kin M.kp (thn (ha pos pins s σ H _ I h) fun us s1 ⟨vs, H1, I1, r, q⟩ => ⟨I1.kIn, ?_⟩) he hpl
  exact run_make M F hr hb hd hx I1 r q
theorem pe_make0 (M : Mk X.K C f) (F : FnOk X.prog X.w X.K X.mg X.base CX k f fd ps sp) (hr : Room (k + 1) X.A) (hg : Gl X x) (hm : X.mg x = some (.ref C)) (hb : Binds X.K fd ps ds) (hd : Vals dvs ds) (hx : Passes CX X E)
    (hdb : (x == ("__debug__" : Str)) = false := by decide) : PE X (.Call (.Name x p) [] [] pos) (tMake C sp dvs E tNil) := by
  intro pins s σ H Q I h
  refine wpAny_Call_Name_kw (ld_glob I hg hm ?_ hdb)
  exact PySem.W.callWith_K0 I.kIn M.kp (run_make (us := []) M F hr hb hd hx I .nil h)
end

/-! ### keywords -/
/-- the values of the keywords, from the left -/
def PK (X : Cx) (kws : List Keyword) (t : TA) : Prop :=
  ∀ (pos : Pos) (pins : List (Addr × Obj)) (s : Shared) (σ : St) (H : Hp) (Q : List V → Hp → Prop), Inv X pins σ H s → t σ H Q → wpAny (model X.prog X.w) X.A (evalAll ((backToKw pos (keywordEach kws X.env)).map (·.2))) (AP X pins σ Q) X.xe s
section
variable {X : Cx} {CX : CXT} {k : Nat} {f C : Addr} {fd : FuncData} {ps ks : List Str} {sp : Sp} {E : XK} {x m : Str} {p pos apos kpos : Pos} {e o : Expr} {es : List Expr} {kws : List Keyword} {te ta : TE} {t tk : TA} {nm : Option Str}
theorem pk_nil : PK X [] tNil := fun _ _ _ _ H Q I h => wpAny_evalAll_nil ⟨[], H, I, .nil, h⟩
theorem pk_cons (ha : PE X e te) (hr : PK X kws t) : PK X (⟨nm, e, kpos⟩ :: kws) (tCons te t) := by
  intro pos pins s σ H Q I h
  show wpAny _ _ (evalAll ((do let v ← eval e X.env; standAt pos; pure v) :: (backToKw pos (keywordEach kws X.env)).map (·.2))) _ _ s
  refine wpAny_evalAll_cons (wpAny_bind (thn (ha pins s σ H _ I h) fun u s1 ⟨x, H1, I1, r1, q1⟩ => wpAny_bind (wpAny_standAt (wpAny_pure ?_))))
  exact thn (hr pos pins s1 σ H1 _ I1 q1) fun us s2 ⟨xs, H2, I2, r2, q2⟩ => ⟨x :: xs, H2, I2, .cons r1 r2, q2⟩

/-- how a call with keywords binds: g puts the positional values us and the keywords' values ws (names ks) in the parameters' order, defaults among them -/
structure KBinds (K : PySem.W.Frag) (fd : FuncData) (ps ks : List Str) (g : List Value → List Value → List Value) (gV : List V → List V → List V) : Prop where
  to : ∀ (s : Shared) (us ws : List Value), K.In s.heap → (g us ws).length = ps.length → BindsTo s fd ⟨us, ks.zip ws⟩ (ps.zip (g us ws))
  rel : ∀ {vs : List V} {us : List Value} {zs : List V} {ws : List Value}, Vals vs us → Vals zs ws → Vals (gV vs zs) (g us ws)
def tCallK (sp : Sp) (gV : List V → List V → List V) (E : XK) (t tk : TA) : TE := fun σ H Q => t σ H fun vs H1 => tk σ H1 fun zs H2 => sp (gV vs zs) H2 Q E
variable {g : List Value → List Value → List Value} {gV : List V → List V → List V}
theorem run_fnk {pins : List (Addr × Obj)} {σ : St} {H : Hp} {s : Shared} {Q : VK} {us ws : List Value} {vs zs : List V} (F : FnOk X.prog X.w X.K X.mg X.base CX k f fd ps sp) (hr : Room k X.A) (hb : KBinds X.K fd ps ks g gV) (hx : Passes CX X E)
    (I : Inv X pins σ H s) (r : Vals vs us) (rz : Vals zs ws) (h : sp (gV vs zs) H Q E) : wpAny (model X.prog X.w) X.A (call (.ref f) us (ks.zip ws)) (EP X pins σ Q) X.xe s := by
  have r2 := hb.rel r rz
  have hl : (g us ws).length = ps.length := by rw [← r2.length]; exact F.len _ _ _ _ h
  refine wpAny_call (codeAny_mono (F.run X.A X.stack s H ⟨us, ks.zip ws⟩ (g us ws) (gV vs zs) Q E hr I.env0 (hb.to s us ws I.kIn hl) r2 h) fun r s' hq => ?_)
  cases r with
  | error e => exact hx pins σ H s e s' I hq
  | ok fl =>
    cases fl with
    | ret u => exact I.after hq
    | next => exact False.elim hq
    | brk => exact False.elim hq
    | cont => exact False.elim hq
/-- f(e, .., k = v, ..) -/
theorem pe_callK (F : FnOk X.prog X.w X.K X.mg X.base CX k f fd ps sp) (hr : Room k X.A) (hg : Gl X x) (hm : X.mg x = some (.ref f)) (hk : PySem.W.keepIn X.K (.ref f) = true) (hb : KBinds X.K fd ps ks g gV) (hx : Passes CX X E)
    (ha : PA X (e :: es) t) (hkw : PK X kws tk) (hall : (backToKw pos (keywordEach kws X.env)).all (·.1.isSome) = true := by rfl) (hks : (backToKw pos (keywordEach kws X.env)).filterMap (·.1) = ks := by rfl)
    (hdb : (x == ("__debug__" : Str)) = false := by decide) (he : starEach (e :: es) X.env = (false, eval e X.env) :: starEach es X.env := by rfl)
    (hpl : ((backTo pos (starEach (e :: es) X.env)).any (·.1) || (backToKw pos (keywordEach kws X.env)).any (·.1.isNone)) = false := by rfl) :
    PE X (.Call (.Name x p) (e :: es) kws pos) (tCallK sp gV E t tk) := by
  intro pins s σ H Q I h
  refine wpAny_Call_Name_kw (ld_glob I hg hm ?_ hdb)
  refine PySem.W.callWith_KW (h₀ := X.base) I.ok.mod.kin hk hall (thn (ha pos pins s σ H _ I h) fun us s1 ⟨vs, H1, I1, r, q⟩ => ?_) hpl he
  refine thn (hkw pos pins s1 σ H1 _ I1 q) fun ws s2 ⟨zs, H2, I2, rz, q2⟩ => ⟨I2.kIn, ?_⟩
  rw [hks]
  exact run_fnk F hr hb hx I2 r rz q2
end

/-! ### a def's body keeps its promise -/
/-- names: the parameters first -/
structure FnScope (N P : List Str) (sc : Scope) : Prop where
  kind : sc.kind = .function
  co : sc.isCoroutine = false
  gen : sc.isGenerator = false
  nd : N.Nodup
  pre : N.take P.length = P
  par : ∀ x ∈ P, sc.names.lookup x = some .local ∨ sc.names.lookup x = some .cell
  nofree : ∀ y ∈ sc.names, y.2 ≠ .free

theorem bindL_out {kindOf : Str → Option NameKind} {x : Str} : ∀ {binds : List (Str × Value)} {m : Str → Option Value}, (∀ v, (x, v) ∉ binds) → bindL kindOf binds m x = m x
  | [], _, _ => rfl
  | (n, v) :: r, m, h => by
    unfold bindL
    rw [bindL_out fun w hw => h w (List.mem_cons_of_mem _ hw)]
    split
    · have : x ≠ n := by rintro rfl; exact h v List.mem_cons_self
      simp [this]
    · rfl
theorem bindC_out {kindOf : Str → Option NameKind} {x : Str} : ∀ {binds : List (Str × Value)} {m : Str → Option Value}, (∀ v, (x, v) ∉ binds) → bindC kindOf binds m x = m x
  | [], _, _ => rfl
  | (n, v) :: r, m, h => by
    unfold bindC
    rw [bindC_out fun w hw => h w (List.mem_cons_of_mem _ hw)]
    split
    · rfl
    · have : x ≠ n := by rintro rfl; exact h v List.mem_cons_self
      simp [this]
theorem bindL_get {kindOf : Str → Option NameKind} {x : Str} {v : Value} : ∀ {P : List Str} {vs : List Value} {i : Nat} {m : Str → Option Value}, P.Nodup → P[i]? = some x → vs[i]? = some v → kindOf x = some .local →
    bindL kindOf (P.zip vs) m x = some v
  | [], _, _, _, _, h, _, _ => by simp at h
  | _ :: _, [], _, _, _, _, h, _ => by simp at h
  | p :: P, w :: vs, 0, m, nd, h1, h2, hk => by
    simp at h1 h2; subst h1; subst h2
    show bindL kindOf ((p, w) :: P.zip vs) m p = _
    unfold bindL
    rw [bindL_out fun v hv => (List.nodup_cons.mp nd).1 (List.of_mem_zip hv).1, if_pos hk]
    simp
  | p :: P, w :: vs, i + 1, m, nd, h1, h2, hk => by
    show bindL kindOf ((p, w) :: P.zip vs) m x = _
    unfold bindL
    exact bindL_get (i := i) (List.nodup_cons.mp nd).2 (by simpa using h1) (by simpa using h2) hk
theorem bindC_get {kindOf : Str → Option NameKind} {x : Str} {v : Value} : ∀ {P : List Str} {vs : List Value} {i : Nat} {m : Str → Option Value}, P.Nodup → P[i]? = some x → vs[i]? = some v → kindOf x ≠ some .local →
    bindC kindOf (P.zip vs) m x = some v
  | [], _, _, _, _, h, _, _ => by simp at h
  | _ :: _, [], _, _, _, _, h, _ => by simp at h
  | p :: P, w :: vs, 0, m, nd, h1, h2, hk => by
    simp at h1 h2; subst h1; subst h2
    show bindC kindOf ((p, w) :: P.zip vs) m p = _
    unfold bindC
    rw [bindC_out fun v hv => (List.nodup_cons.mp nd).1 (List.of_mem_zip hv).1, if_neg hk]
    simp
  | p :: P, w :: vs, i + 1, m, nd, h1, h2, hk => by
    show bindC kindOf ((p, w) :: P.zip vs) m x = _
    unfold bindC
    exact bindC_get (i := i) (List.nodup_cons.mp nd).2 (by simpa using h1) (by simpa using h2) hk

/-- the names' values at the entry -/
def start (N : List Str) (vs : List V) : St := vs.map some ++ List.replicate (N.length - vs.length) none

/-- the context of a def's body, at its entry; an exception leaves the frame, then lies as CX says -/
def cxOf (CX : CXT) (P : Program) (w : World) (K : PySem.W.Frag) (mg : Str → Option Value) (base : Heap) (N : List Str) (qual : Str) (scope : Scope) (f : Addr) (cd : Value) (A : Around) (outer : List Env) (s : Shared) (H : Hp) (E : XK) : Cx where
  prog := P
  w := w
  K := K
  mg := mg
  base := base
  A := A.deeper (envOfC qual scope s.heap.objs.size f cd)
  N := N
  s₀ := s
  H₀ := H
  env := envOfC qual scope s.heap.objs.size f cd
  outer := outer
  stack := envOfC qual scope s.heap.objs.size f cd :: outer
  ex := []
  calm := true
  fn := fun _ => true
  pn := []
  xe := fun e s' => wpAny (model P w) (A.deeper (envOfC qual scope s.heap.objs.size f cd)) (leaving (envOfC qual scope s.heap.objs.size f cd) e) (fun _ s'' => CX outer H s E e s'') (fun e' s'' => CX outer H s E e' s'') s'

theorem cell_has {sc : Scope} {n : Nat} {x : Str} (h : sc.names.lookup x = some .cell) : ∃ c, (cellsFrom n sc.names []).lookup x = some c := by
  have q := PySem.W.cellsFrom_some sc.names n [] (.inl h)
  exact Option.isSome_iff_exists.mp q

theorem inv_start {CX : CXT} {P : Program} {w : World} {K : PySem.W.Frag} {mg : Str → Option Value} {base : Heap} {N ps : List Str} {qual : Str} {scope : Scope} {f : Addr} {cd : Value} {A : Around} {outer : List Env} {s s1 : Shared} {H : Hp} {E : XK} {us : List Value} {vs : List V}
    (S : FnScope N ps scope) (hd : A.handled = none) (e0 : Env0 P w K mg base A outer s H) (hl : vs.length = ps.length) (r : Vals vs us)
    (x : InCallC s s.heap.objs.size (bindL (envOfC qual scope s.heap.objs.size f cd).kindOf (ps.zip us) fun _ => none) (cellsFrom (s.heap.objs.size + 1) scope.names []) (bindC (envOfC qual scope s.heap.objs.size f cd).kindOf (ps.zip us) fun _ => none) s1) :
    Inv (cxOf CX P w K mg base N qual scope f cd A outer s H E) [] (start N vs) H s1 := by
  have hpl : ps.length ≤ N.length := by have := congrArg List.length S.pre; rw [List.length_take] at this; omega
  obtain ⟨h1, tk, rfl, hk⟩ := x.done
  have noA : ∀ b : Addr, b ∉ (cxOf CX P w K mg base N qual scope f cd A outer s H E).ex := fun b z => absurd (show b ∈ ([] : List Addr) from z) (by simp)
  refine ⟨⟨e0.mod, S.kind, rfl, rfl, Nat.le_refl _, fun y z c h1 h2 => ?_, fun y hy => ?_, fun y c _ h => ?_, fun _ => hd, Around.frames_deeper e0.frames, .inr ⟨rfl, rfl⟩, fun b z => absurd z (noA b), e0.bs, e0.bsz, fun b _ _ => noA b, fun b z => absurd z (noA b), e0.funs, e0.frf⟩,
    rfl, e0.bare, Un.kept hk, ⟨_, x.toInCall.ns, fun i y v h1 h2 h3 => ?_⟩, fun y c h => ⟨_, x.cell y c h⟩, e0.hok.fresh (Nat.le_refl _), fun y c h => ?_, fun p hp => absurd (show p ∈ ([] : List (Addr × Obj)) from hp) (by simp), e0.hok.kept hk, ?_⟩
  · exact name_of_addr x.apart (PySem.mem_of_lookup h1) (PySem.mem_of_lookup h2)
  · have hy : scope.names.lookup y = some .cell ∨ scope.names.lookup y = some .free := hy
    rcases hy with hy | hy
    · exact cell_has hy
    · exact absurd rfl (S.nofree _ (PySem.mem_of_lookup hy))
  · exact Nat.le_of_lt (x.above y c (PySem.mem_of_lookup h))
  · have hi : i < vs.length := by
      unfold start at h2
      by_cases hi : i < vs.length
      · exact hi
      · rw [List.getElem?_append_right (by simpa using hi)] at h2
        rw [List.getElem?_replicate] at h2
        split at h2 <;> cases h2
    have ha : vs[i]? = some v := by
      unfold start at h2
      rw [List.getElem?_append_left (by simpa using hi), List.getElem?_map] at h2
      cases e : vs[i]? with
      | none => rw [e] at h2; cases h2
      | some a => rw [e] at h2; cases h2; rfl
    obtain ⟨u, hu, rv⟩ := r.get ha
    have hp : ps[i]? = some y := by
      rw [← S.pre, List.getElem?_take_of_lt (by omega)]; exact h1
    have ndP : ps.Nodup := by rw [← S.pre]; exact S.nd.sublist (List.take_sublist _ _)
    refine ⟨u, rv, ?_⟩
    rcases S.par y (List.mem_of_getElem? hp) with k | k
    · exact .inl ⟨k, bindL_get ndP hp hu k⟩
    · obtain ⟨c, e⟩ := cell_has (n := s.heap.objs.size + 1) k
      refine .inr ⟨.inl k, c, e, ?_⟩
      have q := x.cell y c e
      rw [bindC_get ndP hp hu (by show scope.names.lookup y ≠ _; rw [k]; decide)] at q
      exact q
  · exact e0.hok.fresh (Nat.le_of_lt (x.above y c (PySem.mem_of_lookup h)))
  · unfold start
    show _ = N.length
    rw [List.length_append, List.length_map, List.length_replicate]
    omega

/-- THE RULE: a def (or a method) of the text, by its body. The body's reading t is chosen for each entry; it is run at the parameters' values -/
theorem fn_of {CX : CXT} {P : Program} {w : World} {K : PySem.W.Frag} {mg : Str → Option Value} {base : Heap} {k : Nat} {f : Addr} {name qual : Str} {params : Arguments} {body : List Stmt} {scope : Scope} {dV kV doc pm cdv ct oc : Value} {an od : Option Addr}
    {osl : Array (Option Value)} {N ps : List Str} {sp : Sp} (lk : K.lookup f = some ⟨oc, od, .func (PySem.W.fnOf name qual params body scope dV kV doc pm an cdv ct), osl⟩) (hcd : PySem.W.codeIn K cdv qual = true) (S : FnScope N ps scope)
    (len : ∀ vs H Q E, sp vs H Q E → vs.length = ps.length)
    (hbody : ∀ (A : Around) (outer : List Env) (s : Shared) (H : Hp) (vs : List V) (Q : VK) (E : XK), Room k (A.deeper (envOfC qual scope s.heap.objs.size f cdv)) → sp vs H Q E →
      ∃ t, PSs (cxOf CX P w K mg base N qual scope f cdv A outer s H E) body t ∧ t { nx := fun _ H' => Q .non H', rt := Q } (start N vs) H) :
    FnOk P w K mg base CX (k + 1) f (PySem.W.fnOf name qual params body scope dV kV doc pm an cdv ct) ps sp := by
  refine ⟨len, fun A outer s H args us vs Q E hr e0 hb r hsp => ?_⟩
  have hl := len _ _ _ _ hsp
  have KX : K.In s.heap := e0.mod.kin.keeps fun b o e => (e0.bs b o e).1
  have lim : s.heap.NoLimit := e0.mod.nolimit.keeps fun b o e => (e0.bs b o e).1
  have hkind : ∀ y ∈ ps.zip us, scope.names.lookup y.1 = some .local ∨ (scope.names.lookup y.1 = some .cell ∧ ((cellsFrom (s.heap.objs.size + 1) scope.names []).lookup y.1).isSome = true) := fun ⟨n, v⟩ hy => by
    rcases S.par n (List.of_mem_zip hy).1 with q | q
    · exact .inl q
    · exact .inr ⟨q, PySem.W.cellsFrom_some _ _ _ (.inl q)⟩
  refine codeAny_call_function hr.depth (KX _ _ lk) rfl S.co S.gen rfl (PySem.W.codeRec_of KX hcd) (hb _ _ _ _ ?_)
  refine wpAny_newFunctionEnv_cells S.kind hkind fun env he s1 x => ?_
  subst he
  refine ⟨lim.keeps x.toInCall.keep, codeAny_func ?_⟩
  obtain ⟨t, ht, hq⟩ := hbody A outer s H vs Q E (hr.deeper _) hsp
  have I : Inv (cxOf CX P w K mg base N qual scope f cdv A outer s H E) [] (start N vs) H s1 := inv_start S hr.hd e0 hl r x
  refine wpAny_mono (ht [] s1 (start N vs) H _ I hq) (fun fl s' hs => ?_) fun e s' hs => hs
  have fin : ∀ {σ' : St} {H' : Hp} {v : V} {u : Value}, Inv (cxOf CX P w K mg base N qual scope f cdv A outer s H E) [] σ' H' s' → RelV v u → Q v H' → CE outer P w H s Q u s' :=
    fun {σ' H' v u} J rv q => ⟨v, H', J.os, J.bare, J.base, J.hok, rv, q⟩
  cases fl with
  | ret u =>
    obtain ⟨v, σ', H', J, rv, q⟩ := hs
    exact fin J rv q
  | next =>
    obtain ⟨σ', H', J, q⟩ := hs
    exact fin (v := V.non) (u := Value.none) J rfl q
  | brk =>
    obtain ⟨_, _, _, q⟩ := hs
    exact False.elim q
  | cont =>
    obtain ⟨_, _, _, q⟩ := hs
    exact False.elim q
end L2

namespace L2
open PySem PySem.Spec PyProof.Rows
section
variable {X : Cx} {x : Str} {p pos : Pos} {e : Expr} {es : List Expr} {t : TA} {id T : String} {r : List V → Hp → VK → Prop}

def tCB (r : List V → Hp → VK → Prop) (t : TA) : TE := fun σ H Q => t σ H fun vs H1 => r vs H1 Q
/-- f(e, ..), f a built-in function -/
theorem pe_callB (hc : CallR X (.builtin id) r) (hg : Gl X x) (hm : X.mg x = none) (hv : bootBuiltins x = some (.builtin id)) (ha : PA X (e :: es) t) (hn : x ≠ "__name__" := by decide) (hdb : (x == ("__debug__" : Str)) = false := by decide)
    (he : starEach (e :: es) X.env = (false, eval e X.env) :: starEach es X.env := by rfl) (hpl : (backTo pos (starEach es X.env)).any (·.1) = false := by rfl) : PE X (.Call (.Name x p) (e :: es) [] pos) (tCB r t) := by
  intro pins s σ H Q I h
  refine wpAny_Call_Name_kw (ld_blt I hg hm hv ?_ hn hdb)
  exact PyProof.Rows.callWith_builtin1 (thn (ha pos pins s σ H _ I h) fun us s1 ⟨vs, H1, I1, r1, q1⟩ => hc pins s1 σ H1 vs us Q I1 r1 q1) he hpl
/-- T(e, ..), T a built-in type -/
theorem pe_callTy (hc : CallR X (.type T) r) (hg : Gl X x) (hm : X.mg x = none) (hv : bootBuiltins x = some (.type T)) (ha : PA X (e :: es) t) (hn : x ≠ "__name__" := by decide) (hdb : (x == ("__debug__" : Str)) = false := by decide)
    (he : starEach (e :: es) X.env = (false, eval e X.env) :: starEach es X.env := by rfl) (hpl : (backTo pos (starEach es X.env)).any (·.1) = false := by rfl) : PE X (.Call (.Name x p) (e :: es) [] pos) (tCB r t) := by
  intro pins s σ H Q I h
  refine wpAny_Call_Name_kw (ld_blt I hg hm hv ?_ hn hdb)
  exact PyProof.Rows.callWith_type1 (thn (ha pos pins s σ H _ I h) fun us s1 ⟨vs, H1, I1, r1, q1⟩ => hc pins s1 σ H1 vs us Q I1 r1 q1) he hpl
/-- T() -/
theorem pe_callTy0 (hc : CallR X (.type T) r) (hg : Gl X x) (hm : X.mg x = none) (hv : bootBuiltins x = some (.type T)) (hn : x ≠ "__name__" := by decide) (hdb : (x == ("__debug__" : Str)) = false := by decide) :
    PE X (.Call (.Name x p) [] [] pos) (tCB r tNil) := by
  intro pins s σ H Q I h
  refine wpAny_Call_Name_kw (ld_blt I hg hm hv ?_ hn hdb)
  exact PyProof.Rows.callWith_type0 (hc pins s σ H [] [] Q I .nil h)
end
end L2

namespace HT
open PySem PyProof.Rows

/-- t < u of tuples of ints -/
def lexLt : List Int → List Int → Bool
  | [], [] => false
  | [], _ :: _ => true
  | _ :: _, [] => false
  | x :: xs, y :: ys => if x = y then lexLt xs ys else decide (x < y)
theorem lexLt_cons (x y : Int) (xs ys : List Int) : lexLt (x :: xs) (y :: ys) = if x = y then lexLt xs ys else decide (x < y) := rfl
theorem lexLt_nil_nil : lexLt [] [] = false := rfl
theorem lexLt_nil_cons (y : Int) (ys : List Int) : lexLt [] (y :: ys) = true := rfl
theorem lexLt_cons_nil (x : Int) (xs : List Int) : lexLt (x :: xs) [] = false := rfl

theorem eqAt_int (A : Around) (s : Shared) (a : Int) (t : Tok) (c : Int) (u : Tok) : ∃ e, SeqAt.EqAt A s (.int a t) (.int c u) e ∧ (e = true ↔ a = c) :=
  ⟨(a == c), SeqAt.EqAt.int_int a t c u, by simp⟩
theorem rcLt_int (A : Around) (s : Shared) (a : Int) (t : Tok) (c : Int) (u : Tok) (prog : Program) (w : World) (E : Value → Shared → Prop) (Q : Value → Shared → Prop) (h : Q (.bool (decide (a < c))) s) :
    wpAny (model prog w) A (richCompare .Lt (.int a t) (.int c u)) Q E s :=
  (PyProof.Rows.lt_int h : wpAny (model prog w) A (compareOp .Lt (.int a t) (.int c u)) Q E s)

section
open PySem.SeqAt
open PySem.AutoSeq1 (wpAny_loadPart')
open PySem.MeetsSeq PySem.MeetsSeq2 PySem.MeetsSeq3

theorem tuple_lt_ints (l b : Addr) (items items2 : Array Value) (n n2 : Nat) (dd dd2 : Option Addr) (sl sl2 : Array (Option Value)) (ns ms : List Int) (hi : IntsAre items.toList ns) (hj : IntsAre items2.toList ms) :
    Meets (Builtin.«tuple.__lt__» ⟨[.ref l, .ref b], []⟩)
      (fun _ R s => s.heap.get? l = some { cls := .type "tuple", dict := dd, data := .seq items n, slots := sl } ∧ s.heap.get? b = some { cls := .type "tuple", dict := dd2, data := .seq items2 n2, slots := sl2 } ∧
        R (.ok (.ret (.bool (lexLt ns ms)))) s) :=
  .of_wp fun prog w A R s h => by
    obtain ⟨hp, g, d, tk, os⟩ := s; obtain ⟨hl, hb, h⟩ := h
    have f2 := AutoSeq1.sub_tuple_tuple
    have z1 : items.size = ns.length := by rw [← hi.length]; simp
    have z2 : items2.size = ms.length := by rw [← hj.length]; simp
    wp_walk using wpAny_loadPart' hl, wpAny_loadPart' hb, wpAny_forIn_list _ (fun rest b s' => b.1 = none ∧ s' = ⟨hp, g, d, tk, os⟩ ∧ ∃ (vs ws : List Value) (ns' ms' : List Int), rest = vs.zip ws ∧
      IntsAre vs ns' ∧ IntsAre ws ms' ∧ ns'.length + items2.size = ms'.length + items.size ∧ R (.ok (.ret (.bool (lexLt ns' ms')))) ⟨hp, g, d, tk, os⟩) _
    case turn =>
      rintro ⟨y, x⟩ rest b s' ⟨hb', rfl, vs, ws, ns', ms', hz, hvi, hwi, hlen, hR⟩
      cases hvi with
      | nil => rw [List.zip_nil_left] at hz; cases hz
      | cons a t hvi' =>
        cases hwi with
        | nil => rw [List.zip_nil_right] at hz; cases hz
        | cons c u hwi' =>
          rw [List.zip_cons_cons] at hz
          injection hz with hyx hrest
          injection hyx with hy hx
          subst hy hx
          rw [lexLt_cons] at hR
          simp only [List.length_cons] at hlen
          obtain ⟨e, he, hiff⟩ := eqAt_int A.in1 ⟨hp, g, d, tk, os⟩ a t c u
          refine wpAny_bind (he prog w _ _ ?_)
          cases e with
          | true =>
            rw [if_pos (hiff.mp rfl)] at hR
            wp_walk
            exact ⟨rfl, rfl, _, _, _, _, hrest, hvi', hwi', by omega, hR⟩
          | false =>
            rw [if_neg (fun q => absurd (hiff.mpr q) Bool.false_ne_true)] at hR
            have hri := rcLt_int A.in1 ⟨hp, g, d, tk, os⟩ a t c u prog w
            wp_walk using hri
            exact ⟨_, rfl, by simpa using hR⟩
    case fin =>
      rintro ⟨b1, b2⟩ s' ⟨hb', rfl, vs, ws, ns', ms', hz, hvi, hwi, hlen, hR⟩
      simp only at hb'
      subst hb'
      have hv : lexLt ns' ms' = decide (items.size < items2.size) := by
        cases hvi with
        | nil =>
          cases hwi with
          | nil =>
            simp only [List.length_nil] at hlen
            rw [lexLt_nil_nil]
            exact (decide_eq_false (by omega)).symm
          | cons c u hw =>
            simp only [List.length_nil, List.length_cons] at hlen
            rw [lexLt_nil_cons]
            exact (decide_eq_true (by omega)).symm
        | cons a t hv =>
          cases hwi with
          | nil =>
            simp only [List.length_nil, List.length_cons] at hlen
            rw [lexLt_cons_nil]
            exact (decide_eq_false (by omega)).symm
          | cons c u hw =>
            rw [List.zip_cons_cons] at hz
            cases hz
      rw [hv] at hR
      wp_walk
      exact ⟨_, rfl, by simpa [Builtin.Tuple.tupleCompareSizes] using hR⟩
    case h =>
      exact ⟨rfl, rfl, items.toList, items2.toList, ns, ms, rfl, hi, hj, by omega, h⟩
end

section
variable {prog : Program} {w : World} {A : Around} {E : Value → Shared → Prop} {s : Shared}

theorem lt_tupInts {l b : Addr} {items items2 : Array Value} {ns ms : List Int} {Q : Value → Shared → Prop} (hl : IsTup s.heap l items) (hb : IsTup s.heap b items2) (hi : IntsAre items.toList ns) (hj : IntsAre items2.toList ms)
    (hu : A.units < cLine) (h : Q (.bool (lexLt ns ms)) s) : wpAny (model prog w) A (compareOp .Lt (.ref l) (.ref b)) Q E s := by
  obtain ⟨⟨cls, dd, data, sl⟩, ho, hc, n, hd⟩ := id hl
  obtain ⟨⟨cls2, dd2, data2, sl2⟩, ho2, hc2, n2, hd2⟩ := id hb
  simp only at hc hd hc2 hd2
  subst hc hd hc2 hd2
  exact richCompare_meets_room (op := .Lt) ⟨_, ho, rfl⟩ ⟨_, ho2, rfl⟩ PySem.F.slot_tuple_lt PySem.F.entry_tuple_lt (PySem.F.args_tuple_lt_2 _ _) (tuple_lt_ints l b items items2 n n2 dd dd2 sl sl2 ns ms hi hj)
    ⟨ho, ho2, show Value.bool (lexLt ns ms) ≠ Value.notImplemented ∧ Q (.bool (lexLt ns ms)) s from ⟨(fun x => nomatch x), h⟩⟩ hu

/-- t + u, t not empty -/
theorem cat_tup {t b : Addr} {vs ws : List Value} {Q : Value → Shared → Prop} (ht : IsTup s.heap t vs.toArray) (hb : IsTup s.heap b ws.toArray) (hv : vs ≠ [])
    (h1 : ws = [] → Q (.ref t) s) (h2 : ws ≠ [] → Q (.ref s.heap.objs.size) { s with heap := s.heap.push { cls := .type "tuple", data := .seq (vs ++ ws).toArray } })
    (hsz : vs.length + ws.length ≤ sizeLine) : wpAny (model prog w) A (binaryOp .Add (.ref t) (.ref b)) Q E s := by
  obtain ⟨⟨cls, dd, data, sl⟩, ho, hc, n, hd⟩ := id ht
  obtain ⟨⟨cls2, dd2, data2, sl2⟩, ho2, hc2, n2, hd2⟩ := id hb
  simp only at hc hd hc2 hd2
  subst hc hd hc2 hd2
  have e : vs.toArray ++ ws.toArray = (vs ++ ws).toArray := by simp
  by_cases hw : ws = []
  · exact concat_meets ⟨_, ho, rfl⟩ ⟨_, ho2, rfl⟩ noFill_tuple_add seq_tuple_add PySem.F.slot_tuple_add PySem.F.entry_tuple_add (PySem.F.args_tuple_add_2 _ _)
      (tuple_addW1 t b vs.toArray ws.toArray n n2 dd dd2 sl sl2 (by simpa using hv) (by simp [hw])) ⟨ho, ho2, h1 hw⟩
  · refine concat_meets ⟨_, ho, rfl⟩ ⟨_, ho2, rfl⟩ noFill_tuple_add seq_tuple_add PySem.F.slot_tuple_add PySem.F.entry_tuple_add (PySem.F.args_tuple_add_2 _ _)
      (tuple_addW2 t b vs.toArray ws.toArray n n2 dd dd2 sl sl2 (by simpa using hv) (by simpa using hw) (by rw [List.size_toArray, List.size_toArray]; exact hsz)) ⟨ho, ho2, ?_⟩
    rw [e]
    exact h2 hw

/-! ### t[a:b], not the whole -/
/-- a slice's bound as a place among n (d where it is left out) -/
def sIx (n d : Nat) : Option Int → Nat
  | none => d
  | some v => if v < 0 then (v + (n : Int)).toNat else min v.toNat n
theorem sIx_none (n d : Nat) : sIx n d none = d := rfl
theorem sIx_nat (n d k : Nat) : sIx n d (some (k : Int)) = min k n := by
  show (if (k : Int) < 0 then ((k : Int) + (n : Int)).toNat else min (k : Int).toNat n) = min k n
  rw [if_neg (by omega), Int.toNat_natCast]
theorem sIx_le (n d : Nat) (hd : d ≤ n) (o : Option Int) : sIx n d o ≤ n := by
  cases o with
  | none => exact hd
  | some v =>
    show (if v < 0 then (v + (n : Int)).toNat else min v.toNat n) ≤ n
    by_cases hv : v < 0
    · rw [if_pos hv]; omega
    · rw [if_neg hv]; exact Nat.min_le_right _ _
theorem clip_eq (v : Int) (n d : Nat) : (if v < 0 then max (v + (n : Int)) 0 else min v (n : Int)) = ((sIx n d (some v) : Nat) : Int) := by
  show (if v < 0 then max (v + (n : Int)) 0 else min v (n : Int)) = (((if v < 0 then (v + (n : Int)).toNat else min v.toNat n) : Nat) : Int)
  by_cases hv : v < 0
  · simp only [if_pos hv]; omega
  · simp only [if_neg hv]; omega
theorem adjust_gen (lo hi : Option Int) (n : Nat) : Builtin.Slice.sliceAdjust lo hi 1 (n : Int) = (((sIx n 0 lo : Nat) : Int), ((sIx n n hi : Nat) : Int)) := by
  have h1 : ¬ ((1 : Int) < 0) := by omega
  unfold Builtin.Slice.sliceAdjust
  simp only [h1, if_false]
  refine Prod.ext ?_ ?_
  · cases lo with
    | none => rfl
    | some v => exact clip_eq v n 0
  · cases hi with
    | none => rfl
    | some v => exact clip_eq v n n
theorem places_gen (i j : Nat) : Builtin.Slice.slicePlaces (i : Int) (j : Int) 1 = j - i := by
  unfold Builtin.Slice.slicePlaces
  have h1 : (1 : Int) > 0 := by omega
  simp only [h1, if_true, Int.ediv_one]
  split <;> omega
theorem slicePart_ {v : Value} {o : Option Int} {Q : Option Int → Shared → Prop} (p : IsPart v o) (h : Q o s) : wpAny (model prog w) A (Builtin.Slice.slicePartIndex v) Q E s := by
  cases p with
  | none => exact slicePart_none h
  | int i t => exact slicePart_int h
theorem sliceApplied_gen {sl : Addr} {vl vu : Value} {lo hi : Option Int} {n : Nat} {Q : Int × Int × Nat → Shared → Prop} (hs : s.heap.IsSliceOf sl vl vu .none) (pl : IsPart vl lo) (pu : IsPart vu hi)
    (h : Q (((sIx n 0 lo : Nat) : Int), 1, sIx n n hi - sIx n 0 lo) s) : wpAny (model prog w) A (Builtin.Slice.sliceApplied (.ref sl) (pure (n : Int))) Q E s := by
  obtain ⟨os, hos, hcs, hds⟩ := id hs
  unfold Builtin.Slice.sliceApplied Builtin.Slice.sliceFields
  refine wpAny_bind (wpAny_bind (wpAny_field hos hds (x := vl) rfl (wpAny_bind (wpAny_field hos hds (x := vu) rfl (wpAny_bind (wpAny_field hos hds (x := .none) rfl (wpAny_pure ?_)))))))
  refine wpAny_bind (slicePart_none ?_)
  show wpAny _ _ (if ((1 : Int) == 0) = true then _ else _) _ _ s
  rw [if_neg (by decide)]
  refine wpAny_bind (slicePart_ pl (wpAny_bind (slicePart_ pu (wpAny_bind (wpAny_pure ?_)))))
  show wpAny _ _ (match Builtin.Slice.sliceAdjust lo hi 1 (n : Int) with | (lo, hi) => pure (lo, (1 : Int), Builtin.Slice.slicePlaces lo hi 1)) _ _ s
  rw [adjust_gen lo hi n]
  show wpAny _ _ (pure (((sIx n 0 lo : Nat) : Int), (1 : Int), Builtin.Slice.slicePlaces ((sIx n 0 lo : Nat) : Int) ((sIx n n hi : Nat) : Int) 1)) _ _ s
  rw [places_gen]
  exact wpAny_pure h
theorem pick_gen (xs : Array Value) (i k : Nat) : ((List.range k).filterMap fun (m : Nat) => xs[((i : Int) + (m : Int) * 1).toNat]?).toArray = ((xs.toList.drop i).take k).toArray := by
  have e : (fun (m : Nat) => xs[((i : Int) + (m : Int) * 1).toNat]?) = fun m => xs[i + m]? := by
    funext m
    have : ((i : Int) + (m : Int) * 1).toNat = i + m := by omega
    rw [this]
  rw [e]
  have := pick_run xs i k
  rw [List.filterMap_map] at this
  have e2 : ((fun x => xs[x]?) ∘ fun x => i + x) = fun m => xs[i + m]? := rfl
  rw [e2] at this
  rw [this]

theorem getItem_tuple_cut {t sl : Addr} {items : Array Value} {vl vu : Value} {lo hi : Option Int} {Q : Value → Shared → Prop} (ht : IsTup s.heap t items) (hs : s.heap.IsSliceOf sl vl vu .none) (pl : IsPart vl lo) (pu : IsPart vu hi)
    (hw : ¬ (sIx items.size 0 lo = 0 ∧ sIx items.size items.size hi = items.size))
    (h : Q (.ref s.heap.objs.size) { s with heap := s.heap.push { cls := .type "tuple", data := .seq ((items.toList.drop (sIx items.size 0 lo)).take (sIx items.size items.size hi - sIx items.size 0 lo)).toArray } })
    (hsz : items.size ≤ sizeLine) : wpAny (model prog w) A (getItem (.ref t) (.ref sl)) Q E s := by
  have htake : sizeOk (.seq ((items.toList.drop (sIx items.size 0 lo)).take (sIx items.size items.size hi - sIx items.size 0 lo)).toArray) := by
    show ((items.toList.drop (sIx items.size 0 lo)).take (sIx items.size items.size hi - sIx items.size 0 lo)).toArray.size ≤ sizeLine
    rw [List.size_toArray, List.length_take, List.length_drop, Array.length_toList]
    omega
  have hj : sIx items.size items.size hi ≤ items.size := sIx_le _ _ (Nat.le_refl _) hi
  obtain ⟨os, hos, hcs, hds⟩ := id hs
  have hTs : s.TypeIs (.ref sl) "slice" := ⟨os, hos, hcs⟩
  unfold getItem
  try with_reducible refine wpAny_holding ?_
  first | refine wpAny_bind (wpAny_pure ?_) | skip
  refine wpAny_bind (wpAny_sequenceKey ht.typeIs (by decide) ?_)
  refine wpAny_bind (wpAny_callSpecial?_slot (name := Str.ofString "__getitem__") ht.typeIs PyProof.Rows.slot_tuple_getitem
    (wpAny_call_entry PyProof.Rows.slot_tuple_getitem ht.typeIs entry_tuple_getitem ?_ (args_tuple_getitem _ _)))
  show wpAny _ _ (Builtin.Tuple.tupleItemsOf (.ref t) >>= _) _ _ s
  refine wpAny_bind (tupleItemsOf_ ht ?_)
  refine wpAny_bind (wpAny_typeOf hTs ?_)
  rw [if_pos (by decide)]
  refine wpAny_bind (sliceApplied_gen hs pl pu ?_)
  have hno : ¬ ((((sIx items.size 0 lo : Nat) : Int) == 0 && (1 : Int) == 1 && (sIx items.size items.size hi - sIx items.size 0 lo) == items.size) = true) := by
    intro q
    rw [Bool.and_eq_true, Bool.and_eq_true] at q
    have q1 : ((sIx items.size 0 lo : Nat) : Int) = 0 := eq_of_beq q.1.1
    have q2 : sIx items.size items.size hi - sIx items.size 0 lo = items.size := eq_of_beq q.2
    exact hw ⟨by omega, by omega⟩
  show wpAny _ _ (if (((sIx items.size 0 lo : Nat) : Int) == 0 && (1 : Int) == 1 && (sIx items.size items.size hi - sIx items.size 0 lo) == items.size) = true then _ else _) _ _ s
  rw [if_neg hno, pick_gen]
  first
    | exact wpAny_bind (m := Builtin.Tuple.tupleExact _) (wpAny_newObj_type (wpAny_pure ⟨_, rfl, wpAny_pure h⟩) htake)
    | exact wpAny_bind (m := Builtin.Tuple.tupleExact _) (wpAny_newObj_type (wpAny_bind (wpAny_pure (wpAny_pure ⟨_, rfl, wpAny_pure h⟩))) htake)
    | exact wpAny_bind (wpAny_bind (m := Builtin.Tuple.tupleExact _) (wpAny_newObj_type (wpAny_pure (wpAny_pure ⟨_, rfl, wpAny_pure h⟩)) htake))
    | exact wpAny_bind (wpAny_bind (m := Builtin.Tuple.tupleExact _) (wpAny_newObj_type (wpAny_pure ⟨_, rfl, wpAny_pure h⟩) htake))
end
end HT

namespace L2
open PySem PySem.Spec PyProof.Rows

/-! ### the parts of a slice -/
abbrev TO := St → Hp → (Option Int → Hp → Prop) → Prop
/-- a slice's part (left out, or an int) -/
def PO (X : Cx) (e : Option Expr) (t : TO) : Prop :=
  ∀ (pins : List (Addr × Obj)) (s : Shared) (σ : St) (H : Hp) (Q : Option Int → Hp → Prop), Inv X pins σ H s → t σ H Q →
    wpAny (model X.prog X.w) X.A (evalPart e X.env) (fun u s' => ∃ o H', Inv X pins σ H' s' ∧ IsPart u o ∧ Q o H') X.xe s
def tNoPart : TO := fun _ H Q => Q none H
def tPart (t : TE) : TO := fun σ H Q => t σ H fun x H1 => ∃ i, x = .int i ∧ Q (some i) H1

theorem intsAre_of {ns : List Int} : ∀ {us : List Value}, Vals (ns.map V.int) us → IntsAre us ns := by
  induction ns with
  | nil => intro us r; rw [List.map_nil] at r; cases r; exact .nil
  | cons n ns ih =>
    intro us r
    rw [List.map_cons] at r
    cases r with
    | cons r1 r2 =>
      obtain ⟨t, e⟩ := r1
      subst e
      exact .cons n t (ih r2)

section
variable {X : Cx} {e : Expr} {te : TE} {lo hi : Option Expr} {tl th : TO} {pos p2 : Pos}

theorem po_none : PO X none tNoPart := by
  intro pins s σ H Q I h
  rw [evalPart_none]
  exact wpAny_pure ⟨none, H, I, .none, h⟩
theorem po_some (h : PE X e te) : PO X (some e) (tPart te) := by
  intro pins s σ H Q I hw
  rw [evalPart_some]
  refine thn (h pins s σ H _ I hw) fun u s1 ⟨x, H1, I1, r1, q1⟩ => ?_
  obtain ⟨i, rfl, q⟩ := q1
  obtain ⟨t, rfl⟩ := r1
  exact ⟨some i, H1, I1, .int i t, q⟩

/-- what a slice of a value is, by values: the slice object stands at sl -/
def SlR (X : Cx) (r : V → Option Int → Option Int → Hp → VK → Prop) : Prop :=
  ∀ (pins : List (Addr × Obj)) (s : Shared) (σ : St) (H : Hp) (x : V) (v vl vu : Value) (lo hi : Option Int) (sl : Addr) (Q : VK), Inv X pins σ H s → RelV x v → s.heap.IsSliceOf sl vl vu .none → IsPart vl lo → IsPart vu hi → r x lo hi H Q →
    ∃ T id, typeLookup (.type T) "__getitem__" = pure (some (.builtin id)) ∧ s.TypeIs v T ∧ wpAny (model X.prog X.w) X.A (getItem v (.ref sl)) (EP X pins σ Q) X.xe s
theorem SlR.or {r r' : V → Option Int → Option Int → Hp → VK → Prop} (h : SlR X r) (h' : SlR X r') : SlR X (fun x lo hi H Q => r x lo hi H Q ∨ r' x lo hi H Q) := by
  intro pins s σ H x v vl vu lo hi sl Q I rx hs pl pu q
  rcases q with q | q
  · exact h pins s σ H x v vl vu lo hi sl Q I rx hs pl pu q
  · exact h' pins s σ H x v vl vu lo hi sl Q I rx hs pl pu q
def tSl (r : V → Option Int → Option Int → Hp → VK → Prop) (te : TE) (tl th : TO) : TE := fun σ H Q => te σ H fun x H1 => tl σ H1 fun l H2 => th σ H2 fun u H3 => r x l u H3 Q
/-- a[lo:hi], any a -/
theorem pe_slice {r : V → Option Int → Option Int → Hp → VK → Prop} (hr : SlR X r) (he : PE X e te) (hl : PO X lo tl) (hu : PO X hi th) : PE X (.Subscript e (.Slice lo hi none p2) pos) (tSl r te tl th) := by
  intro pins s σ H Q I h
  refine Subscript_ (thn (he pins s σ H _ I h) fun v s1 ⟨x, H1, I1, r1, q1⟩ => ?_)
  refine wpAny_Slice (thn (hl pins s1 σ H1 _ I1 q1) fun vl s2 ⟨l, H2, I2, pl, q2⟩ => thn (hu pins s2 σ H2 _ I2 q2) fun vu s3 ⟨u, H3, I3, pu, q3⟩ => ?_)
  rw [evalPart_none]
  refine wpAny_pure ?_
  have I4 : Inv X pins σ H3 { s3 with heap := s3.heap.push { cls := .type "slice", data := .fields #[vl, vu, .none] } } := I3.kept (t' := s3.toks) fun b ob q => Heap.get?_push_of_some _ q
  obtain ⟨T, id, hT, ht, hg⟩ := hr pins { s3 with heap := s3.heap.push { cls := .type "slice", data := .fields #[vl, vu, .none] } } σ H3 x v vl vu l u s3.heap.objs.size Q I4 r1 (Heap.IsSliceOf.new ..) pl pu q3
  show wpAny (model X.prog X.w) X.A (subscriptTail e (.Slice lo hi none p2) v (.ref s3.heap.objs.size)) (EP X pins σ Q) X.xe { s3 with heap := s3.heap.push { cls := .type "slice", data := .fields #[vl, vu, .none] } }
  exact tail_any (ops := [.ref s3.heap.objs.size, v]) ht hT hg (by with_unfolding_all rfl)

/-- the items of xs[lo:hi] -/
def cutV (xs : List V) (lo hi : Option Int) : List V := (xs.drop (HT.sIx xs.length 0 lo)).take (HT.sIx xs.length xs.length hi - HT.sIx xs.length 0 lo)
theorem cutV_length (xs : List V) (lo hi : Option Int) : (cutV xs lo hi).length ≤ xs.length := by
  unfold cutV
  rw [List.length_take, List.length_drop]
  omega
/-- t[lo:hi], not the whole of it (the whole would be t itself) -/
def rSlT (K : PySem.W.Frag) : V → Option Int → Option Int → Hp → VK → Prop := fun x lo hi H Q => ∃ a xs, x = .ref a ∧ SqT K H a xs ∧
  ¬ (HT.sIx xs.length 0 lo = 0 ∧ HT.sIx xs.length xs.length hi = xs.length) ∧ ∀ p, H p = none → Q (.ref p) (upd H p (.tup (cutV xs lo hi)))
theorem sl_tup : SlR X (rSlT X.K) := by
  intro pins s σ H x v vl vu lo hi sl Q I rx hs pl pu h
  obtain ⟨a, xs, rfl, hx, hw, q⟩ := h
  cases rx
  obtain ⟨its, r, ht, hz⟩ := I.tuple hx
  have hlen : its.toArray.size = xs.length := by rw [List.size_toArray]; exact r.length.symm
  refine ⟨"tuple", _, PyProof.Rows.slot_tuple_getitem.lookup, ht.typeIs, ?_⟩
  refine HT.getItem_tuple_cut ht hs pl pu (by rw [hlen]; exact hw) ?_ (by rw [hlen]; exact hz)
  rw [hlen]
  refine ⟨.ref s.heap.objs.size, _, I.laid (t' := s.toks) (o := .tup (cutV xs lo hi)) (fun b ob q => Heap.get?_push_of_some _ q) (Nat.le_refl _) ?_, rfl, q _ (I.hok.fresh (Nat.le_refl _))⟩
  exact ⟨Nat.le_trans (cutV_length xs lo hi) hz, _, (r.drop (HT.sIx xs.length 0 lo)).take (HT.sIx xs.length xs.length hi - HT.sIx xs.length 0 lo), IsTup.new _ _⟩

/-! ### t < u, t + u -/
def rLtT (K : PySem.W.Frag) : R2 := fun x y H Q => ∃ a b ns ms, x = .ref a ∧ y = .ref b ∧ SqT K H a (ns.map V.int) ∧ SqT K H b (ms.map V.int) ∧ Q (.bl (HT.lexLt ns ms)) H
theorem op_ltT (hu : X.A.units < cLine) : OpR X (compareOp .Lt) (rLtT X.K) := by
  intro pins s σ H x y v u Q I rx ry h
  obtain ⟨a, b, ns, ms, rfl, rfl, ha, hb, q⟩ := h
  cases rx
  cases ry
  obtain ⟨its, r1, p1, _⟩ := I.tuple ha
  obtain ⟨its2, r2, p2, _⟩ := I.tuple hb
  have i1 : IntsAre its.toArray.toList ns := intsAre_of r1
  have i2 : IntsAre its2.toArray.toList ms := intsAre_of r2
  exact HT.lt_tupInts p1 p2 i1 i2 hu ⟨.bl (HT.lexLt ns ms), H, I, rfl, q⟩
/-- t + u, t not empty: u empty gives t itself -/
def rCatT (K : PySem.W.Frag) : R2 := fun x y H Q => ∃ a b xs ys, x = .ref a ∧ y = .ref b ∧ SqT K H a xs ∧ SqT K H b ys ∧ xs ≠ [] ∧ xs.length + ys.length ≤ sizeLine ∧
  (ys = [] → Q (.ref a) H) ∧ (ys ≠ [] → ∀ p, H p = none → Q (.ref p) (upd H p (.tup (xs ++ ys))))
theorem Vals.nil_iff {xs : List V} {us : List Value} (r : Vals xs us) : us = [] ↔ xs = [] := by
  cases r with
  | nil => simp
  | cons _ _ => simp
theorem op_catT : OpR X (binaryOp .Add) (rCatT X.K) := by
  intro pins s σ H x y v u Q I rx ry h
  obtain ⟨a, b, xs, ys, rfl, rfl, ha, hb, hx, hz, q1, q2⟩ := h
  cases rx
  cases ry
  obtain ⟨its, r1, p1, _⟩ := I.tuple ha
  obtain ⟨its2, r2, p2, _⟩ := I.tuple hb
  refine HT.cat_tup p1 p2 (fun z => hx (r1.nil_iff.mp z)) (fun z => ⟨.ref a, H, I, rfl, q1 (r2.nil_iff.mp z)⟩) (fun z => ?_) (by rw [← r1.length, ← r2.length]; exact hz)
  refine ⟨.ref s.heap.objs.size, _, I.laid (t' := s.toks) (o := .tup (xs ++ ys)) (fun b ob q => Heap.get?_push_of_some _ q) (Nat.le_refl _) ?_, rfl, q2 (fun w => z (r2.nil_iff.mpr w)) _ (I.hok.fresh (Nat.le_refl _))⟩
  exact ⟨by rw [List.length_append]; exact hz, _, r1.append r2, IsTup.new _ _⟩
/-- tuple(t) -/
theorem call_tupleT : CallR X (.type "tuple") (fun xs H Q => ∃ a ys, xs = [.ref a] ∧ SqT X.K H a ys ∧ Q (.ref a) H) := by
  intro pins s σ H xs us Q I r h
  obtain ⟨a, ys, rfl, ha, q⟩ := h
  obtain ⟨u, rfl, ru⟩ := vals1 r
  cases ru
  obtain ⟨its, _, p1, _⟩ := I.tuple ha
  exact call_tuple_same (items := its.toArray) p1 ⟨.ref a, H, I, rfl, q⟩
end
end L2

namespace L2
open PySem PySem.Spec PyProof.Rows

/-! ### places -/
/-- the place that an index of any sign means -/
def ixN (n : Nat) (i : Int) : Option Nat := if 0 ≤ i then (if i < n then some i.toNat else none) else if -(n : Int) ≤ i then some (i + n).toNat else none
def atI {α : Type} (xs : List α) (i : Int) : Option α := (ixN xs.length i).bind fun j => xs[j]?
theorem ixN_seq {n : Nat} {i : Int} {j : Nat} (h : ixN n i = some j) : seqIndex? i n = some j ∧ j < n ∧ -(n : Int) ≤ i ∧ i < n := by
  unfold ixN at h
  by_cases h0 : 0 ≤ i
  · rw [if_pos h0] at h
    by_cases h1 : i < n
    · rw [if_pos h1] at h
      have e : i.toNat = j := Option.some.inj h
      exact ⟨by rw [seqIndex_of h0 h1, e], by omega, by omega, h1⟩
    · rw [if_neg h1] at h; cases h
  · rw [if_neg h0] at h
    by_cases h1 : -(n : Int) ≤ i
    · rw [if_pos h1] at h
      have e : (i + n).toNat = j := Option.some.inj h
      exact ⟨by rw [seqIndex_neg (by omega) h1, e], by omega, h1, by omega⟩
    · rw [if_neg h1] at h; cases h
theorem atI_get {α : Type} {xs : List α} {i : Int} {v : α} (h : atI xs i = some v) : ∃ j, seqIndex? i xs.length = some j ∧ xs[j]? = some v ∧ j < xs.length ∧ -(xs.length : Int) ≤ i ∧ i < xs.length := by
  unfold atI at h
  cases e : ixN xs.length i with
  | none => rw [e] at h; cases h
  | some j =>
    rw [e] at h
    obtain ⟨h1, h2, h3, h4⟩ := ixN_seq e
    exact ⟨j, h1, h, h2, h3, h4⟩
theorem atI_nat {α : Type} {xs : List α} {j : Nat} {v : α} (h : xs[j]? = some v) : atI xs (j : Int) = some v := by
  have hj : j < xs.length := (List.getElem?_eq_some_iff.mp h).1
  have e : ixN xs.length (j : Int) = some j := by
    unfold ixN
    rw [if_pos (by omega), if_pos (by omega)]; simp
  unfold atI; rw [e]; exact h
theorem atI_last {α : Type} (xs : List α) (v : α) : atI (xs ++ [v]) (-1) = some v := by
  have hl : (xs ++ [v]).length = xs.length + 1 := by simp
  have e : ixN (xs ++ [v]).length (-1) = some xs.length := by
    unfold ixN
    rw [hl, if_neg (by decide), if_pos (by omega)]
    congr 1
    omega
  unfold atI
  rw [e]
  show (xs ++ [v])[xs.length]? = some v
  simp

/-! ### what may be subscripted -/
/-- what stands as an index of a plain subscript -/
def PlainIx (b : Expr) : Prop := ∀ o i, subscripted b false o i = operate [o, i] (getItem o i)
/-- a subscript by values -/
def IxR (X : Cx) (r : R2) : Prop :=
  ∀ (value slice : Expr) (pins : List (Addr × Obj)) (s : Shared) (σ : St) (H : Hp) (x y : V) (v u : Value) (Q : VK), Inv X pins σ H s → RelV x v → RelV y u → r x y H Q →
    subscripted slice false v u = operate [v, u] (getItem v u) → wpAny (model X.prog X.w) X.A (subscriptTail value slice v u) (EP X pins σ Q) X.xe s
/-- a call of a builtin's method by values: the receiver, the arguments -/
def MtR (X : Cx) (id : String) (r : V → List V → Hp → VK → Prop) : Prop :=
  ∀ (pins : List (Addr × Obj)) (s : Shared) (σ : St) (H : Hp) (x : V) (xs : List V) (v : Value) (us : List Value) (Q : VK), Inv X pins σ H s → RelV x v → Vals xs us → r x xs H Q →
    wpAny (model X.prog X.w) X.A (call (.builtin id) (v :: us)) (EP X pins σ Q) X.xe s
section
variable {X : Cx} {a b : Expr} {ta tb : TE} {pos : Pos}
theorem IxR.or {r r' : R2} (h : IxR X r) (h' : IxR X r') : IxR X (fun x y H Q => r x y H Q ∨ r' x y H Q) := by
  intro value slice pins s σ H x y v u Q I rx ry q hs
  rcases q with q | q
  · exact h value slice pins s σ H x y v u Q I rx ry q hs
  · exact h' value slice pins s σ H x y v u Q I rx ry q hs
theorem MtR.or {id : String} {r r' : V → List V → Hp → VK → Prop} (h : MtR X id r) (h' : MtR X id r') : MtR X id (fun x xs H Q => r x xs H Q ∨ r' x xs H Q) := by
  intro pins s σ H x xs v us Q I rx rs q
  rcases q with q | q
  · exact h pins s σ H x xs v us Q I rx rs q
  · exact h' pins s σ H x xs v us Q I rx rs q
/-- a[b] -/
theorem pe_ix {r : R2} (hr : IxR X r) (ha : PE X a ta) (hb : PE X b tb) (hs : PlainIx b) : PE X (.Subscript a b pos) (tOp r ta tb) := by
  intro pins s σ H Q I h
  exact Subscript_ (binT ha hb I h fun v u s2 x y H2 I2 rx ry q => hr a b pins s2 σ H2 x y v u Q I2 rx ry q (hs _ _))

def rIxL (K : PySem.W.Frag) : R2 := fun x y H Q => ∃ p xs i v, x = .ref p ∧ y = .int i ∧ SqL K H p xs ∧ atI xs i = some v ∧ Q v H
def rIxT (K : PySem.W.Frag) : R2 := fun x y H Q => ∃ p xs i v, x = .ref p ∧ y = .int i ∧ SqT K H p xs ∧ atI xs i = some v ∧ Q v H
def rIxS : R2 := fun x y H Q => ∃ z i c, x = .str z ∧ y = .int i ∧ z.length ≤ sizeLine ∧ atI z.cps.toList i = some c ∧ Q (.str ⟨#[c]⟩) H
theorem ix_list : IxR X (rIxL X.K) := by
  intro value slice pins s σ H x y v u Q I rx ry h hs
  obtain ⟨p, xs, i, z, rfl, rfl, hq, he, q⟩ := h
  cases rx
  obtain ⟨t, rfl⟩ := ry
  obtain ⟨its, r, pl, hz⟩ := I.list hq
  obtain ⟨j, h1, h2, h3, h4, h5⟩ := atI_get he
  obtain ⟨w, ew, rw'⟩ := r.get h2
  have hl := r.length
  have hn := line63
  have fin : EP X pins σ Q w s := ⟨z, H, I, rw', q⟩
  by_cases h0 : 0 ≤ i
  · have hj : i.toNat = j := by
      rw [seqIndex_of h0 h5] at h1
      exact Option.some.inj h1
    exact item_listR pl.isList h0 (by omega) (by rw [hj]; simpa using ew) fin hs
  · have hj : (i + (its.toArray.size : Int)).toNat = j := by
      rw [seqIndex_neg (by omega) h4] at h1
      rw [List.size_toArray, ← hl]
      exact Option.some.inj h1
    exact subscriptTail_builtinR (x := w) pl.isList.typeIs slot_list_getitem.lookup
      (wpAny_getItem_list_neg (Q := fun r s' => r = w ∧ EP X pins σ Q r s') pl.isList (by omega) (by rw [List.size_toArray] <;> omega) (by omega) (by rw [hj]; simpa using ew) ⟨rfl, fin⟩) hs
theorem ix_tup : IxR X (rIxT X.K) := by
  intro value slice pins s σ H x y v u Q I rx ry h hs
  obtain ⟨p, xs, i, z, rfl, rfl, hq, he, q⟩ := h
  cases rx
  obtain ⟨t, rfl⟩ := ry
  obtain ⟨its, r, pl, hz⟩ := I.tuple hq
  obtain ⟨j, h1, h2, h3, h4, h5⟩ := atI_get he
  obtain ⟨w, ew, rw'⟩ := r.get h2
  have hl := r.length
  have hn := line63
  have fin : EP X pins σ Q w s := ⟨z, H, I, rw', q⟩
  exact subscriptTail_builtinR (x := w) pl.typeIs slot_tuple_getitem.lookup
    (getItem_tuple (j := j) (Q := fun r s' => r = w ∧ EP X pins σ Q r s') pl (by omega) (by omega) (by rw [List.size_toArray, ← hl]; exact h1) (by simpa using ew) ⟨rfl, fin⟩) hs
theorem ix_str : IxR X rIxS := by
  intro value slice pins s σ H x y v u Q I rx ry h hs
  obtain ⟨z, i, c, rfl, rfl, hz, he, q⟩ := h
  obtain ⟨t, rfl⟩ := rx
  obtain ⟨t', rfl⟩ := ry
  obtain ⟨j, h1, h2, h3, h4, h5⟩ := atI_get he
  have hl : z.cps.toList.length = z.length := by simp [Str.length]
  rw [hl] at h1 h4 h5
  have hn := line63
  exact tail_any (typeIs_str s z t) slot_str_getitem.lookup (getItem_str (c := c) (by
    have e1 : decide (i < -(2 ^ 63 : Int)) = false := decide_eq_false (by omega)
    have e2 : decide (i ≥ 2 ^ 63) = false := decide_eq_false (by omega)
    rw [e1, e2, Bool.or_false]) (by rw [h1]; simpa using h2) ⟨.str ⟨#[c]⟩, H, I.tok _, ⟨_, rfl⟩, q⟩) hs
/-- list, tuple or str -/
def rIx (K : PySem.W.Frag) : R2 := fun x y H Q => rIxL K x y H Q ∨ rIxT K x y H Q ∨ rIxS x y H Q
theorem ix_seq : IxR X (rIx X.K) := ix_list.or (ix_tup.or ix_str)

/-! ### xs[i] = v, any sign -/
/-- the list's object behind a store -/
theorem mapSeq_set (its : List Value) (n j : Nat) (u : Value) : Obj.mapSeq (·.setIfInBounds j u) { cls := .type "list", data := .seq its.toArray n } = { cls := .type "list", data := .seq (its.set j u).toArray n } := by
  simp [Obj.mapSeq]
theorem Inv.lst {pins : List (Addr × Obj)} {σ : St} {H : Hp} {s : Shared} {p : Addr} {xs : List V} (I : Inv X pins σ H s) (h : H p = some (.lst xs)) :
    ∃ (its : List Value) (n : Nat), Vals xs its ∧ s.heap.get? p = some { cls := .type "list", data := .seq its.toArray n } ∧ xs.length ≤ sizeLine := by
  obtain ⟨z, its, n, r, e⟩ := I.hok p _ h
  exact ⟨its, n, r, e, z⟩
/-- the list at p is written by an update of its object -/
theorem Inv.lstUpd {pins : List (Addr × Obj)} {σ : St} {H : Hp} {s : Shared} {p : Addr} {xs ys : List V} {its its' : List Value} {n n' : Nat} {f : Obj → Obj} (I : Inv X pins σ H s) (h : H p = some (.lst xs))
    (ho : s.heap.get? p = some { cls := .type "list", data := .seq its.toArray n }) (hf : f { cls := .type "list", data := .seq its.toArray n } = { cls := .type "list", data := .seq its'.toArray n' }) (r : Vals ys its') (hz : ys.length ≤ sizeLine) (t : Nat) :
    Inv X pins σ (upd H p (.lst ys)) { s with heap := s.heap.update p f, toks := t } := by
  have e : (s.heap.update p f).get? p = some { cls := .type "list", data := .seq its'.toArray n' } := by
    rw [Heap.get?_update_self f ho (by rw [hf] <;> rfl), hf]
  refine I.write (x := p) (e := p) (by rw [h]; trivial) (.inl rfl) (fun b u hb q => (Heap.get?_update_other _ _ (Ne.symm hb)).trans q) ⟨_, e⟩ ?_
  exact ⟨hz, its', n', r, e⟩
def rSetL : V → V → V → Hp → (Hp → Prop) → Prop := fun o i v H Q => ∃ p xs k j, o = .ref p ∧ i = .int k ∧ H p = some (.lst xs) ∧ ixN xs.length k = some j ∧ Q (upd H p (.lst (xs.set j v)))
theorem set_list : PSet X rSetL := by
  intro pins s σ H o i v ov iv u Q I ro ri rv h
  obtain ⟨p, xs, k, j, rfl, rfl, hp, hj, q⟩ := h
  cases ro
  obtain ⟨t, rfl⟩ := ri
  obtain ⟨its, n, r, ho, hz⟩ := I.lst hp
  obtain ⟨h1, h2, h3, h4⟩ := ixN_seq hj
  have hl := r.length
  have hn := line63
  have I' : Inv X pins σ (upd H p (.lst (xs.set j v))) { s with heap := s.heap.update p (Obj.mapSeq (·.setIfInBounds j u)) } :=
    I.lstUpd hp ho (mapSeq_set its n j u) (r.set rv j) (by rw [List.length_set]; exact hz) s.toks
  by_cases h0 : 0 ≤ k
  · have hk : k.toNat = j := by
      rw [seqIndex_of h0 h4] at h1
      exact Option.some.inj h1
    exact PySem.W.ki_setAt ho h0 (by omega) (by rw [List.size_toArray, ← hl]; exact h4) (by rw [hk]; exact ⟨_, I', q⟩)
  · have hk : (k + (its.toArray.size : Int)).toNat = j := by
      rw [seqIndex_neg (by omega) h3] at h1
      rw [List.size_toArray, ← hl]
      exact Option.some.inj h1
    exact PySem.W.ki_setBack ho (by omega) (by rw [List.size_toArray, ← hl]; exact h3) (by omega) (by rw [hk]; exact ⟨_, I', q⟩)

/-! ### slices -/
theorem slice_bounds (lo hi : Option Int) (n : Nat) : (sliceBounds lo hi none n).1 = ((HT.sIx n 0 lo : Nat) : Int) ∧ (sliceBounds lo hi none n).2.1 = ((HT.sIx n n hi : Nat) : Int) ∧ (sliceBounds lo hi none n).2.2 = 1 := by
  refine ⟨?_, ?_, rfl⟩
  · cases lo with
    | none => simp [sliceBounds, HT.sIx]
    | some i =>
      simp only [sliceBounds, HT.sIx, Option.getD_none, show (1 : Int) > 0 by decide, if_true]
      by_cases h : i < 0
      · simp only [h, if_true] <;> omega
      · simp only [h, if_false] <;> omega
  · cases hi with
    | none => simp [sliceBounds, HT.sIx]
    | some i =>
      simp only [sliceBounds, HT.sIx, Option.getD_none, show (1 : Int) > 0 by decide, if_true]
      by_cases h : i < 0
      · simp only [h, if_true] <;> omega
      · simp only [h, if_false] <;> omega
theorem slicePick_cut (its : List Value) (lo hi : Option Int) : slicePick its.toArray lo hi none = ((its.drop (HT.sIx its.length 0 lo)).take (HT.sIx its.length its.length hi - HT.sIx its.length 0 lo)).toArray := by
  obtain ⟨h1, h2, h3⟩ := slice_bounds lo hi its.toArray.size
  unfold slicePick
  rw [h1, h2, h3]
  simp only [sliceRange_one, pick_run, List.size_toArray] <;> rfl
/-- xs[lo:hi] of a list: a new list -/
def rSlL (K : PySem.W.Frag) : V → Option Int → Option Int → Hp → VK → Prop := fun x lo hi H Q => ∃ a xs, x = .ref a ∧ SqL K H a xs ∧ ∀ p, H p = none → Q (.ref p) (upd H p (.lst (cutV xs lo hi)))
theorem sl_list : SlR X (rSlL X.K) := by
  intro pins s σ H x v vl vu lo hi sl Q I rx hs pl pu h
  obtain ⟨a, xs, rfl, hx, q⟩ := h
  cases rx
  obtain ⟨its, r, ht, hz⟩ := I.list hx
  have hlen := r.length
  refine ⟨"list", _, slot_list_getitem.lookup, ht.isList.typeIs, ?_⟩
  refine wpAny_getItem_list_slice ht.isList hs pl pu .none (by simp) ?_ (by rw [List.size_toArray] <;> omega)
  rw [slicePick_cut, ← hlen]
  refine ⟨.ref s.heap.objs.size, _, I.laid (t' := s.toks) (o := .lst (cutV xs lo hi)) (fun b ob q => Heap.get?_push_of_some _ q) (Nat.le_refl _) ?_, rfl, q _ (I.hok.fresh (Nat.le_refl _))⟩
  exact ⟨Nat.le_trans (cutV_length xs lo hi) hz, _, 0, (r.drop (HT.sIx xs.length 0 lo)).take (HT.sIx xs.length xs.length hi - HT.sIx xs.length 0 lo), Heap.get?_push_size _ rfl⟩

/-! ### in, not in: flat items -/
def flatV : V → Bool
  | .non => true
  | .bl _ => true
  | .int _ => true
  | .str _ => true
  | _ => false
/-- == of flat values -/
def eqV : V → V → Bool
  | .non, .non => true
  | .bl a, .bl b => a == b
  | .bl a, .int b => (if a then 1 else 0) == b
  | .int a, .bl b => a == (if b then 1 else 0)
  | .int a, .int b => a == b
  | .str a, .str b => a == b
  | _, _ => false
theorem eqAt_V {A : Around} {s : Shared} {y x : V} {u v : Value} (ry : RelV y u) (rx : RelV x v) (fy : flatV y = true) (fx : flatV x = true) : SeqAt.EqAt A s u v (eqV y x) := by
  cases y with
  | non =>
    cases ry
    cases x with
    | non => cases rx; exact SeqAt.EqAt.same _
    | bl b => cases rx; exact SeqAt.EqAt.none_bool b
    | int b => obtain ⟨t, rfl⟩ := rx; exact SeqAt.EqAt.none_int b t
    | str b => obtain ⟨t, rfl⟩ := rx; exact SeqAt.EqAt.none_str b t
    | _ => exact absurd (show false = true from fx) Bool.false_ne_true
  | bl a =>
    cases ry
    cases x with
    | non => cases rx; exact SeqAt.EqAt.bool_none a
    | bl b => cases rx; exact SeqAt.EqAt.bool_bool a b
    | int b => obtain ⟨t, rfl⟩ := rx; exact SeqAt.EqAt.bool_int a b t
    | str b => obtain ⟨t, rfl⟩ := rx; exact SeqAt.EqAt.bool_str a b t
    | _ => exact absurd (show false = true from fx) Bool.false_ne_true
  | int a =>
    obtain ⟨t', rfl⟩ := ry
    cases x with
    | non => cases rx; exact SeqAt.EqAt.int_none a t'
    | bl b => cases rx; exact SeqAt.EqAt.int_bool a t' b
    | int b => obtain ⟨t, rfl⟩ := rx; exact SeqAt.EqAt.int_int a t' b t
    | str b => obtain ⟨t, rfl⟩ := rx; exact SeqAt.EqAt.int_str a t' b t
    | _ => exact absurd (show false = true from fx) Bool.false_ne_true
  | str a =>
    obtain ⟨t', rfl⟩ := ry
    cases x with
    | non => cases rx; exact SeqAt.EqAt.str_none a t'
    | bl b => cases rx; exact SeqAt.EqAt.str_bool a t' b
    | int b => obtain ⟨t, rfl⟩ := rx; exact SeqAt.EqAt.str_int a t' b t
    | str b => obtain ⟨t, rfl⟩ := rx; exact SeqAt.EqAt.str_str a t' b t
    | _ => exact absurd (show false = true from fx) Bool.false_ne_true
  | _ => exact absurd (show false = true from fy) Bool.false_ne_true
/-- the items' answers, read off the values (a value's own answer does not lean on its token) -/
def eqU (x : V) (u : Value) : Bool := match u with
  | .none => eqV .non x
  | .bool b => eqV (.bl b) x
  | .int i _ => eqV (.int i) x
  | .str z _ => eqV (.str z) x
  | _ => false
theorem eqU_of {x y : V} {u : Value} (r : RelV y u) (f : flatV y = true) : eqU x u = eqV y x := by
  cases y with
  | non => cases r; rfl
  | bl b => cases r; rfl
  | int i => obtain ⟨t, rfl⟩ := r; rfl
  | str z => obtain ⟨t, rfl⟩ := r; rfl
  | _ => exact absurd (show false = true from f) Bool.false_ne_true
theorem any_eqU {x : V} : ∀ {xs : List V} {us : List Value}, Vals xs us → xs.all flatV = true → us.any (eqU x) = xs.any fun y => eqV y x
  | _, _, .nil, _ => rfl
  | y :: xs, u :: us, .cons r t, f => by
    rw [List.all_cons, Bool.and_eq_true] at f
    rw [List.any_cons, List.any_cons, eqU_of r f.1, any_eqU t f.2]
theorem mem_eqAt {A : Around} {s : Shared} {x : V} {v : Value} (rx : RelV x v) (fx : flatV x = true) : ∀ {xs : List V} {us : List Value}, Vals xs us → xs.all flatV = true → ∀ u ∈ us, SeqAt.EqAt A s u v (eqU x u)
  | _, _, .nil, _ => fun u hu => by cases hu
  | y :: xs, u :: us, .cons r t, f => fun u' hu => by
    rw [List.all_cons, Bool.and_eq_true] at f
    rcases List.mem_cons.mp hu with rfl | hu
    · rw [eqU_of r f.1]; exact eqAt_V r rx f.1 fx
    · exact mem_eqAt rx fx t f.2 u' hu
def inV (x : V) (xs : List V) : Bool := xs.any fun y => eqV y x
/-- x in a list or tuple of flat items -/
def rIn (K : PySem.W.Frag) (neg : Bool) : R2 := fun x y H Q => ∃ p xs, y = .ref p ∧ (SqL K H p xs ∨ SqT K H p xs) ∧ flatV x = true ∧ xs.all flatV = true ∧ Q (.bl (if neg then !inV x xs else inV x xs)) H
theorem op_in_seq : OpR X (compareOp .In) (rIn X.K false) := by
  intro pins s σ H x y v u Q I rx ry h
  obtain ⟨p, xs, rfl, hq, fx, fs, q⟩ := h
  cases ry
  rcases hq with hq | hq
  · obtain ⟨its, r, pl, hz⟩ := I.list hq
    refine SeqAt.in_listAt (eqU x) pl.isList (fun w hw => mem_eqAt rx fx r fs w (by simpa using hw)) ⟨.bl _, H, I, rfl, ?_⟩
    rw [show its.toArray.any (eqU x) = its.any (eqU x) by simp, any_eqU r fs]
    exact q
  · obtain ⟨its, r, pl, hz⟩ := I.tuple hq
    refine SeqAt.in_tupleAt (eqU x) pl (fun w hw => mem_eqAt rx fx r fs w (by simpa using hw)) ⟨.bl _, H, I, rfl, ?_⟩
    rw [show its.toArray.any (eqU x) = its.any (eqU x) by simp, any_eqU r fs]
    exact q
theorem op_notIn_seq : OpR X (compareOp .NotIn) (rIn X.K true) := by
  intro pins s σ H x y v u Q I rx ry h
  obtain ⟨p, xs, rfl, hq, fx, fs, q⟩ := h
  cases ry
  rcases hq with hq | hq
  · obtain ⟨its, r, pl, hz⟩ := I.list hq
    refine SeqAt.notIn_listAt (eqU x) pl.isList (fun w hw => mem_eqAt rx fx r fs w (by simpa using hw)) ⟨.bl _, H, I, rfl, ?_⟩
    rw [show its.toArray.any (eqU x) = its.any (eqU x) by simp, any_eqU r fs]
    exact q
  · obtain ⟨its, r, pl, hz⟩ := I.tuple hq
    refine SeqAt.notIn_tupleAt (eqU x) pl (fun w hw => mem_eqAt rx fx r fs w (by simpa using hw)) ⟨.bl _, H, I, rfl, ?_⟩
    rw [show its.toArray.any (eqU x) = its.any (eqU x) by simp, any_eqU r fs]
    exact q
theorem op_notIn_str : OpR X (compareOp .NotIn) (fun x y H Q => ∃ i j, x = .str i ∧ y = .str j ∧ Q (.bl (!(!(Builtin.Str.occurrences j i 0 j.length 1).isEmpty))) H) := by
  intro pins s σ H x y v u Q I rx ry h
  obtain ⟨i, j, rfl, rfl, q⟩ := h
  obtain ⟨t, rfl⟩ := rx
  obtain ⟨t', rfl⟩ := ry
  exact notIn_str ⟨.bl _, H, I, rfl, q⟩

/-! ### len, list(x), tuple(x) of any list or tuple that is read -/
theorem call_len_seq : CallR X (.builtin "len") (fun xs H Q => ∃ p ys, xs = [.ref p] ∧ (SqL X.K H p ys ∨ SqT X.K H p ys) ∧ Q (.int ys.length) H) := by
  intro pins s σ H xs us Q I r h
  obtain ⟨p, ys, rfl, hq, q⟩ := h
  obtain ⟨u, rfl, rx⟩ := vals1 r
  cases rx
  have hn := line63
  rcases hq with hq | hq
  · obtain ⟨its, r', pl, hz⟩ := I.list hq
    have hlen := r'.length
    exact Calls.call_len_list pl.isList (by simp only [List.size_toArray] <;> omega) ⟨.int ys.length, H, I.tok _, ⟨s.toks + 1, by rw [List.size_toArray, hlen]⟩, q⟩
  · obtain ⟨its, r', pl, hz⟩ := I.tuple hq
    have hlen := r'.length
    exact len_tuple pl (by simp only [List.size_toArray] <;> omega) ⟨.int ys.length, H, I.tok _, ⟨s.toks + 1, by rw [List.size_toArray, hlen]⟩, q⟩
theorem call_len_str : CallR X (.builtin "len") (fun xs H Q => ∃ z, xs = [.str z] ∧ z.length ≤ sizeLine ∧ Q (.int z.length) H) := by
  intro pins s σ H xs us Q I r h
  obtain ⟨z, rfl, hz, q⟩ := h
  obtain ⟨u, rfl, t, rfl⟩ := vals1 r
  have hn := line63
  exact len_str (by omega) ⟨.int z.length, H, I.tok _, ⟨_, rfl⟩, q⟩
theorem CallR.or {f : Value} {r r' : List V → Hp → VK → Prop} (h : CallR X f r) (h' : CallR X f r') : CallR X f (fun xs H Q => r xs H Q ∨ r' xs H Q) := by
  intro pins s σ H xs us Q I rs q
  rcases q with q | q
  · exact h pins s σ H xs us Q I rs q
  · exact h' pins s σ H xs us Q I rs q
theorem call_list_of : CallR X (.type "list") (fun xs H Q => ∃ p ys, xs = [.ref p] ∧ (SqL X.K H p ys ∨ SqT X.K H p ys) ∧ ∀ l, H l = none → Q (.ref l) (upd H l (.lst ys))) := by
  intro pins s σ H xs us Q I r h
  obtain ⟨p, ys, rfl, hq, q⟩ := h
  obtain ⟨u, rfl, rx⟩ := vals1 r
  cases rx
  have fin : ∀ (its : List Value), Vals ys its → ys.length ≤ sizeLine → ∀ (h' : Heap) (c' : Nat), (∀ b o', s.heap.get? b = some o' → h'.get? b = some o') →
      h'.get? s.heap.objs.size = some { cls := .type "list", dict := none, data := .seq its.toArray c', slots := #[] } → EP X pins σ Q (.ref s.heap.objs.size) { s with heap := h' } := fun its r' hz h' c' kp e =>
    ⟨.ref s.heap.objs.size, _, I.laid (t' := s.toks) kp (Nat.le_refl _) (show ObjOk X.prog X.w _ h' _ (.lst ys) from ⟨hz, its, c', r', e⟩), rfl, q _ (I.hok.fresh (Nat.le_refl _))⟩
  rcases hq with hq | hq
  · obtain ⟨its, r', pl, hz⟩ := I.list hq
    have hlen := r'.length
    obtain ⟨o, ho, hc, n, hd⟩ := pl.isList
    exact call_list_seq p (.inl rfl) ho hc hd (fun h' c' kp e => fin its r' hz h' c' kp e) (by simp only [List.size_toArray] <;> omega)
  · obtain ⟨its, r', pl, hz⟩ := I.tuple hq
    have hlen := r'.length
    obtain ⟨o, ho, hc, n, hd⟩ := pl
    exact call_list_seq p (.inr rfl) ho hc hd (fun h' c' kp e => fin its r' hz h' c' kp e) (by simp only [List.size_toArray] <;> omega)
theorem call_tuple_of : CallR X (.type "tuple") (fun xs H Q => ∃ p ys, xs = [.ref p] ∧ ((SqL X.K H p ys ∧ ∀ l, H l = none → Q (.ref l) (upd H l (.tup ys))) ∨ (SqT X.K H p ys ∧ Q (.ref p) H))) := by
  intro pins s σ H xs us Q I r h
  obtain ⟨p, ys, rfl, h⟩ := h
  obtain ⟨u, rfl, rx⟩ := vals1 r
  cases rx
  rcases h with ⟨hq, q⟩ | ⟨hq, q⟩
  · obtain ⟨its, r', pl, hz⟩ := I.list hq
    have hlen := r'.length
    refine call_tuple_list pl.isList (fun h' kp => ?_) (by simp only [List.size_toArray] <;> omega)
    have I1 : Inv X pins σ H { s with heap := h' } := I.kept (t' := s.toks) kp
    have I2 : Inv X pins σ (upd H h'.objs.size (.tup ys)) { s with heap := h'.push { cls := .type "tuple", data := .seq its.toArray } } :=
      I1.laid (t' := s.toks) (fun b o e => Heap.get?_push_of_some _ e) (Nat.le_refl _) (show ObjOk X.prog X.w _ _ _ (.tup ys) from ⟨hz, its, r', IsTup.new _ _⟩)
    exact ⟨.ref h'.objs.size, _, I2, rfl, q _ (I1.hok.fresh (Nat.le_refl _))⟩
  · obtain ⟨its, r', pl, hz⟩ := I.tuple hq
    exact call_tuple_same pl ⟨.ref p, H, I, rfl, q⟩

/-! ### the call of a builtin's method: o.m(..) -/
/-- the value is of that builtin type -/
def tyV (K : PySem.W.Frag) (T : String) (x : V) (H : Hp) : Prop := match x with
  | .str _ => T = "str"
  | .int _ => T = "int"
  | .ref p => (T = "list" ∧ ∃ xs, SqL K H p xs) ∨ (T = "tuple" ∧ ∃ o, K.lookup p = some o ∧ o.cls = .type "tuple" ∧ o.dict = none) ∨
      (T = "dict" ∧ ((∃ kvs, H p = some (.dK kvs)) ∨ ∃ kvs, H p = some (.dT kvs))) ∨ (T = "set" ∧ ∃ S n, H p = some (.set S n))
  | _ => False
theorem tyV_is {pins : List (Addr × Obj)} {σ : St} {H : Hp} {s : Shared} {T : String} {x : V} {v : Value} (I : Inv X pins σ H s) (r : RelV x v) (ty : tyV X.K T x H) :
    s.TypeIs v T ∧ ∀ a, v = .ref a → ∃ ob, s.heap.get? a = some ob ∧ ob.dict = none := by
  cases x with
  | str z =>
    obtain ⟨t, rfl⟩ := r
    cases (show T = "str" from ty)
    exact ⟨typeIs_str s z t, fun _ e => nomatch e⟩
  | int i =>
    obtain ⟨t, rfl⟩ := r
    cases (show T = "int" from ty)
    exact ⟨typeIs_int s i t, fun _ e => nomatch e⟩
  | ref p =>
    cases r
    rcases ty with ⟨rfl, xs, hq⟩ | ⟨rfl, o, hk, hc, hd⟩ | ⟨rfl, hk⟩ | ⟨rfl, S, n, hk⟩
    · obtain ⟨its, _, pl, _⟩ := I.list hq
      refine ⟨pl.isList.typeIs, fun a e => ?_⟩
      cases e
      obtain ⟨o, n, e, c, hd, _⟩ := pl
      exact ⟨o, e, hd⟩
    · refine ⟨⟨o, I.kIn p o hk, hc⟩, fun a e => ?_⟩
      cases e
      exact ⟨o, I.kIn _ o hk, hd⟩
    · have z : ∃ o, s.heap.get? p = some o ∧ o.ExactDict := by
        rcases hk with ⟨kvs, hk⟩ | ⟨kvs, hk⟩
        · obtain ⟨_, _, _, _, o, _, _, e, ex, _⟩ := I.hok p _ hk
          exact ⟨o, e, ex⟩
        · obtain ⟨_, _, _, _, o, _, _, e, ex, _⟩ := I.hok p _ hk
          exact ⟨o, e, ex⟩
      obtain ⟨o, e, ex⟩ := z
      refine ⟨⟨o, e, ex.1⟩, fun a e2 => ?_⟩
      cases e2
      exact ⟨o, e, ex.2.1⟩
    · obtain ⟨o, _, _, _, e, ex, _⟩ := I.hok p _ hk
      refine ⟨⟨o, e, ex.1⟩, fun a e2 => ?_⟩
      cases e2
      exact ⟨o, e, ex.2.1⟩
  | _ => exact False.elim ty
def tBM0 (K : PySem.W.Frag) (T : String) (r : V → List V → Hp → VK → Prop) (to : TE) : TE := fun σ H Q => to σ H fun x H1 => tyV K T x H1 ∧ r x [] H1 Q
def tBM (K : PySem.W.Frag) (T : String) (r : V → List V → Hp → VK → Prop) (to : TE) (t : TA) : TE := fun σ H Q => to σ H fun x H1 => tyV K T x H1 ∧ t σ H1 fun xs H2 => r x xs H2 Q
variable {o e : Expr} {es : List Expr} {to : TE} {t : TA} {name : Str} {apos cpos : Pos} {T id : String} {r : V → List V → Hp → VK → Prop}
theorem pe_bm0 (pa : PlainAttrs T) (slot : Slot T name id) (hty : typeOf (.builtin id) = pure (.type "method_descriptor")) (hm : MtR X id r) (ho : PE X o to)
    (hbase : attributeBase o name X.env (eval o X.env) = eval o X.env := by rfl) (hline : (apos.endLine == cpos.line) = true := by rfl) : PE X (.Call (.Attribute o name apos) [] [] cpos) (tBM0 X.K T r to) := by
  intro pins s σ H Q I h
  refine wpAny_Call_method0_late hbase hline (thn (ho pins s σ H _ I h) fun v s1 ⟨x, H1, I1, r1, ty, q1⟩ => ?_)
  obtain ⟨h1, h2⟩ := tyV_is I1 r1 ty
  exact ⟨T, id, pa, slot, hty, h1, h2, Calls.callWith_builtin rfl (PySem.evalArgs_none (hm pins s1 σ H1 x [] v [] Q I1 r1 .nil q1))⟩
theorem pe_bm (pa : PlainAttrs T) (slot : Slot T name id) (hty : typeOf (.builtin id) = pure (.type "method_descriptor")) (hm : MtR X id r) (ho : PE X o to) (ha : PA X (e :: es) t)
    (hbase : attributeBase o name X.env (eval o X.env) = eval o X.env := by rfl)
    (hfew : ((backTo cpos (starEach (e :: es) X.env)).all (fun x => !x.1) && (backToKw cpos (keywordEach [] X.env)).all (fun x => x.1.isSome)
      && decide ((e :: es).length + ([] : List Keyword).length + (if ([] : List Keyword).isEmpty then 0 else 1) < 30)) = true := by rfl)
    (hline : (apos.endLine == cpos.line) = true := by rfl) (hs : starEach (e :: es) X.env = (false, eval e X.env) :: starEach es X.env := by rfl) (hplain : (backTo cpos (starEach es X.env)).any (·.1) = false := by rfl) :
    PE X (.Call (.Attribute o name apos) (e :: es) [] cpos) (tBM X.K T r to t) := by
  intro pins s σ H Q I h
  refine wpAny_Call_method_late hbase hfew hline rfl (thn (ho pins s σ H _ I h) fun v s1 ⟨x, H1, I1, r1, ty, q1⟩ => ?_)
  obtain ⟨h1, h2⟩ := tyV_is I1 r1 ty
  refine ⟨T, id, pa, slot, hty, h1, h2, ?_⟩
  have hA := ha cpos pins s1 σ H1 _ I1 q1
  rw [hs] at hA ⊢
  refine Calls.callWith_builtin (by show (false || (backTo cpos (starEach es X.env)).any (·.1)) = false; rw [hplain] <;> rfl) (Calls.evalArgs_plain ?_)
  exact thn hA fun us s2 ⟨vs, H2, I2, r2, q2⟩ => hm pins s2 σ H2 x vs v us Q I2 r1 r2 q2
/- xs.append(e), list.index on a module's tuple .. are MtR facts of 06m -/
end
end L2

namespace L2
open PySem PySem.Spec PyProof.Rows

def MtM (X : Cx) (id : String) (r : V → List V → Hp → VK → Prop) : Prop :=
  ∀ (pins : List (Addr × Obj)) (s : Shared) (σ : St) (H : Hp) (x : V) (xs : List V) (v : Value) (us : List Value) (Q : VK), Inv X pins σ H s → RelV x v → Vals xs us → r x xs H Q →
    wpAny (model X.prog X.w) X.A (call (.builtin id) (v :: us)) (EP X pins σ Q) X.xe s

/-! ### lists of values -/
theorem Vals.one : ∀ {x : V} {us : List Value}, Vals [x] us → ∃ u, us = [u] ∧ RelV x u
  | _, _, .cons r .nil => ⟨_, rfl, r⟩
theorem Vals.two : ∀ {x y : V} {us : List Value}, Vals [x, y] us → ∃ u v, us = [u, v] ∧ RelV x u ∧ RelV y v
  | _, _, _, .cons r (.cons q .nil) => ⟨_, _, rfl, r, q⟩
theorem Vals.zero : ∀ {us : List Value}, Vals [] us → us = []
  | _, .nil => rfl
theorem Vals.dropLast {xs : List V} {us : List Value} (h : Vals xs us) : Vals xs.dropLast us.dropLast := by
  induction h with
  | nil => exact .nil
  | cons r t ih =>
    cases t with
    | nil => exact .nil
    | cons q t' => exact .cons r ih
theorem Vals.eraseIdx : ∀ {xs : List V} {us : List Value} (i : Nat), Vals xs us → Vals (xs.eraseIdx i) (us.eraseIdx i)
  | _, _, _, .nil => .nil
  | _, _, 0, .cons _ t => t
  | _, _, i + 1, .cons r t => .cons r (Vals.eraseIdx i t)
theorem Vals.reverse {xs : List V} {us : List Value} (h : Vals xs us) : Vals xs.reverse us.reverse := by
  induction h with
  | nil => exact .nil
  | cons r t ih => rw [List.reverse_cons, List.reverse_cons]; exact Vals.append ih (.cons r .nil)
theorem Vals.rep {xs : List V} {us : List Value} (h : Vals xs us) : ∀ k : Nat, Vals (List.replicate k xs).flatten (List.replicate k us).flatten
  | 0 => .nil
  | k + 1 => by
    rw [List.replicate_succ, List.replicate_succ, List.flatten_cons, List.flatten_cons]
    exact Vals.append h (Vals.rep h k)
theorem erase_last {α : Type} (l : List α) : l.eraseIdx (l.length - 1) = l.dropLast := by
  induction l with
  | nil => rfl
  | cons a r ih =>
    cases r with
    | nil => rfl
    | cons b r =>
      have e : (a :: b :: r).length - 1 = ((b :: r).length - 1) + 1 := by
        have h1 : (a :: b :: r).length = r.length + 2 := rfl
        have h2 : (b :: r).length = r.length + 1 := rfl
        omega
      rw [e, List.eraseIdx_cons_succ, ih]
      all_goals rfl
theorem len_erase {α : Type} : ∀ (l : List α) (i : Nat), (l.eraseIdx i).length ≤ l.length
  | [], _ => Nat.le_refl _
  | _ :: _, 0 => Nat.le_succ _
  | _ :: r, i + 1 => Nat.succ_le_succ (len_erase r i)
theorem foldl_rep (its : List Value) : ∀ (k : Nat) (acc : List Value),
    List.foldl (fun x1 x2 => x1 ++ x2) acc.toArray (List.replicate k its.toArray) = (acc ++ (List.replicate k its).flatten).toArray
  | 0, acc => by simp
  | k + 1, acc => by
    have e : acc.toArray ++ its.toArray = (acc ++ its).toArray := by simp
    have e2 : (acc ++ its) ++ (List.replicate k its).flatten = acc ++ (List.replicate (k + 1) its).flatten := by
      rw [List.replicate_succ, List.flatten_cons, List.append_assoc]
    rw [← e2, ← foldl_rep its k (acc ++ its), ← e, List.replicate_succ, List.foldl_cons]

section
variable {X : Cx} {pins : List (Addr × Obj)} {σ : St} {H : Hp} {s : Shared} {l b : Addr} {xs ys zs : List V}

/-! ### the two steps: a tracked list is rewritten, a new list is laid -/
theorem Inv.lset {its its' : List Value} {n : Nat} {f : Array Value → Array Value} {t' : Nat} (I : Inv X pins σ H s) (hH : H l = some (.lst xs))
    (e : s.heap.get? l = some { cls := .type "list", data := .seq its.toArray n }) (hf : f its.toArray = its'.toArray) (hv : Vals ys its') (hz : ys.length ≤ sizeLine) :
    Inv X pins σ (upd H l (.lst ys)) { s with heap := s.heap.update l (Obj.mapSeq f), toks := t' } := by
  have q := PySem.IsL.update e f
  rw [hf] at q
  refine I.write (x := l) (e := l) (by rw [hH]; exact trivial) (.inl rfl) (fun b' u hb hu => (Heap.get?_update_other s.heap (Obj.mapSeq f) (Ne.symm hb)).trans hu) ⟨_, q⟩ ?_
  exact ⟨hz, its', _, hv, q⟩
theorem Inv.lnew {its : List Value} {t' : Nat} (I : Inv X pins σ H s) (hv : Vals ys its) (hz : ys.length ≤ sizeLine) :
    Inv X pins σ (upd H s.heap.objs.size (.lst ys)) { s with heap := s.heap.push { cls := .type "list", data := .seq its.toArray }, toks := t' } :=
  I.laid (fun _ _ q => Heap.get?_push_of_some _ q) (Nat.le_refl _) ⟨hz, its, 0, hv, Heap.get?_push_size _ rfl⟩
theorem Inv.fresh (I : Inv X pins σ H s) : H s.heap.objs.size = none := I.hok.fresh (Nat.le_refl _)
theorem Inv.lstM (I : Inv X pins σ H s) (hH : H l = some (.lst xs)) : xs.length ≤ sizeLine ∧ ∃ (its : List Value) (n : Nat), Vals xs its ∧ xs.length = its.length ∧ s.heap.get? l = some { cls := .type "list", data := .seq its.toArray n } := by
  obtain ⟨z, its, n, r, e⟩ := I.hok l _ hH
  exact ⟨z, its, n, r, r.length, e⟩

theorem notLongL {n : Nat} (h : n ≤ sizeLine) : Builtin.List.listTooLong n = false := by
  unfold Builtin.List.listTooLong
  exact decide_eq_false (by omega)
end

section
variable {X : Cx}

/-! ### methods -/
def rAppend : V → List V → Hp → VK → Prop := fun x vs H Q => ∃ l xs y, x = .ref l ∧ vs = [y] ∧ H l = some (.lst xs) ∧ xs.length < sizeLine ∧ Q .non (upd H l (.lst (xs ++ [y])))
theorem mt_append : MtM X "list.append" rAppend := by
  intro pins s σ H x vs v us Q I rx rv h
  obtain ⟨l, xs, y, rfl, rfl, hH, hz, q⟩ := h
  cases rx
  obtain ⟨u, rfl, ru⟩ := rv.one
  obtain ⟨z, its, n, r, hl, e⟩ := I.lstM hH
  refine call_meets F.slot_list_append ⟨_, e, rfl⟩ F.entry_list_append (F.args_list_append_2 _ _) (PySem.list_append l its.toArray n u (by rw [List.size_toArray]; omega)) ⟨e, ?_⟩
  refine ⟨.non, _, I.lset (its' := its ++ [u]) hH e (by simp) (r.append (.cons ru .nil)) ?_, rfl, q⟩
  rw [List.length_append, List.length_singleton]
  omega

def rExtend : V → List V → Hp → VK → Prop := fun x vs H Q => ∃ l b xs zs, x = .ref l ∧ vs = [.ref b] ∧ H l = some (.lst xs) ∧ H b = some (.lst zs) ∧ xs.length + zs.length ≤ sizeLine ∧ Q .non (upd H l (.lst (xs ++ zs)))
theorem mt_extend : MtM X "list.extend" rExtend := by
  intro pins s σ H x vs v us Q I rx rv h
  obtain ⟨l, b, xs, zs, rfl, rfl, hH, hB, hz, q⟩ := h
  cases rx
  obtain ⟨u, rfl, ru⟩ := rv.one
  cases ru
  obtain ⟨z, its, n, r, hl, e⟩ := I.lstM hH
  obtain ⟨z2, its2, n2, r2, hl2, e2⟩ := I.lstM hB
  have hsz : its.toArray.size + its2.toArray.size ≤ sizeLine := by rw [List.size_toArray, List.size_toArray]; omega
  have hlong : ¬ (!its.toArray.isEmpty && Builtin.List.listTooLong (its.toArray.size + its2.toArray.size)) = true := by
    rw [notLongL hsz, Bool.and_false]
    exact Bool.false_ne_true
  refine call_meets F.slot_list_extend ⟨_, e, rfl⟩ F.entry_list_extend (F.args_list_extend_2 _ _)
    (AutoSeq1.list_extend_list_list_0 l its.toArray n b its2.toArray n2 hlong (by rw [List.size_toArray]; omega) (by omega)) ⟨e, e2, ?_⟩
  refine ⟨.non, _, I.lset (its' := its ++ its2) hH e (by simp) (r.append r2) ?_, rfl, q⟩
  rw [List.length_append]
  omega

def rPop : V → List V → Hp → VK → Prop := fun x vs H Q => ∃ l xs y, x = .ref l ∧ vs = [] ∧ H l = some (.lst xs) ∧ xs[xs.length - 1]? = some y ∧ Q y (upd H l (.lst xs.dropLast))
theorem mt_pop : MtM X "list.pop" rPop := by
  intro pins s σ H x vs v us Q I rx rv h
  obtain ⟨l, xs, y, rfl, rfl, hH, hy, q⟩ := h
  cases rx
  have hus := rv.zero
  subst hus
  obtain ⟨z, its, n, r, hl, e⟩ := I.lstM hH
  obtain ⟨u, hu, ru⟩ := r.get hy
  have hy' : its.toArray[its.toArray.size - 1]? = some u := by
    show its.toArray[its.length - 1]? = some u
    rw [← Array.getElem?_toList, ← hl]
    exact hu
  refine call_meets F.slot_list_pop ⟨_, e, rfl⟩ F.entry_list_pop (F.args_list_pop_1 _) (MeetsSeq.list_pop_last l its.toArray n u hy' (by rw [List.size_toArray]; omega)) ⟨e, ?_⟩
  refine ⟨y, _, I.lset (its' := its.dropLast) hH e ?_ r.dropLast ?_, ru, q⟩
  · show its.toArray.eraseIdxIfInBounds (its.toArray.size - 1) = its.dropLast.toArray
    rw [List.size_toArray, List.eraseIdxIfInBounds_toArray, erase_last]
  · rw [List.length_dropLast]
    omega

def rPopAt : V → List V → Hp → VK → Prop := fun x vs H Q => ∃ l xs i k y, x = .ref l ∧ vs = [.int i] ∧ H l = some (.lst xs) ∧ -(2 ^ 63) ≤ i ∧ i < 2 ^ 63 ∧ seqIndex? i xs.length = some k ∧ xs[k]? = some y ∧ Q y (upd H l (.lst (xs.eraseIdx k)))
theorem mt_popAt : MtM X "list.pop" rPopAt := by
  intro pins s σ H x vs v us Q I rx rv h
  obtain ⟨l, xs, i, k, y, rfl, rfl, hH, h1, h2, hk, hy, q⟩ := h
  cases rx
  obtain ⟨u, rfl, ru⟩ := rv.one
  obtain ⟨t, rfl⟩ := ru
  obtain ⟨z, its, n, r, hl, e⟩ := I.lstM hH
  obtain ⟨w, hw, rw'⟩ := r.get hy
  refine call_meets F.slot_list_pop ⟨_, e, rfl⟩ F.entry_list_pop (F.args_list_pop_2 _ _)
    (MeetsSeq.list_pop_at l its.toArray n i t k w (fitsIndex_both h1 h2) (by rw [List.size_toArray, ← hl]; exact hk) (by rw [← Array.getElem?_toList]; exact hw) (by rw [List.size_toArray]; omega)) ⟨e, ?_⟩
  refine ⟨y, _, I.lset (its' := its.eraseIdx k) hH e ?_ (r.eraseIdx k) ?_, rw', q⟩
  · show its.toArray.eraseIdxIfInBounds k = (its.eraseIdx k).toArray
    rw [List.eraseIdxIfInBounds_toArray]
  · have := len_erase xs k
    omega

def rReverse : V → List V → Hp → VK → Prop := fun x vs H Q => ∃ l xs, x = .ref l ∧ vs = [] ∧ H l = some (.lst xs) ∧ Q .non (upd H l (.lst xs.reverse))
theorem mt_reverse : MtM X "list.reverse" rReverse := by
  intro pins s σ H x vs v us Q I rx rv h
  obtain ⟨l, xs, rfl, rfl, hH, q⟩ := h
  cases rx
  have hus := rv.zero
  subst hus
  obtain ⟨z, its, n, r, hl, e⟩ := I.lstM hH
  refine call_meets F.slot_list_reverse ⟨_, e, rfl⟩ F.entry_list_reverse (F.args_list_reverse_1 _) (AutoSeq1.list_reverse_list_0 l its.toArray n (by rw [List.size_toArray]; omega)) ⟨e, ?_⟩
  refine ⟨.non, _, I.lset (its' := its.reverse) hH e (by simp) r.reverse ?_, rfl, q⟩
  rw [List.length_reverse]
  omega

def rClear : V → List V → Hp → VK → Prop := fun x vs H Q => ∃ l xs, x = .ref l ∧ vs = [] ∧ H l = some (.lst xs) ∧ Q .non (upd H l (.lst []))
theorem mt_clear : MtM X "list.clear" rClear := by
  intro pins s σ H x vs v us Q I rx rv h
  obtain ⟨l, xs, rfl, rfl, hH, q⟩ := h
  cases rx
  have hus := rv.zero
  subst hus
  obtain ⟨z, its, n, r, hl, e⟩ := I.lstM hH
  refine call_meets F.slot_list_clear ⟨_, e, rfl⟩ F.entry_list_clear (F.args_list_clear_1 _) (AutoSeq1.list_clear_list_0 l its.toArray n (by rw [List.size_toArray]; omega)) ⟨e, ?_⟩
  exact ⟨.non, _, I.lset (its' := []) (ys := []) hH e rfl .nil (Nat.zero_le _), rfl, q⟩

/-! ### list + list, list += list, list * int -/
def rCat : R2 := fun x y H Q => ∃ l b xs zs, x = .ref l ∧ y = .ref b ∧ H l = some (.lst xs) ∧ H b = some (.lst zs) ∧ xs.length + zs.length ≤ sizeLine ∧ ∀ p, H p = none → Q (.ref p) (upd H p (.lst (xs ++ zs)))
theorem op_cat : OpR X (binaryOp .Add) rCat := by
  intro pins s σ H x y v u Q I rx ry h
  obtain ⟨l, b, xs, zs, rfl, rfl, hH, hB, hz, q⟩ := h
  cases rx
  cases ry
  obtain ⟨z, its, n, r, hl, e⟩ := I.lstM hH
  obtain ⟨z2, its2, n2, r2, hl2, e2⟩ := I.lstM hB
  refine PySem.P.add_list e e2 ?_ (by rw [List.size_toArray, List.size_toArray]; omega)
  have ea : its.toArray ++ its2.toArray = (its ++ its2).toArray := by simp
  rw [ea]
  exact ⟨.ref _, _, I.lnew (t' := s.toks) (r.append r2) (by rw [List.length_append]; omega), rfl, q _ I.fresh⟩
/-- a list times an int (a negative one is nothing) -/
def rRep : R2 := fun x y H Q => ∃ l k xs, x = .ref l ∧ y = .int k ∧ H l = some (.lst xs) ∧ -(2 ^ 63) ≤ k ∧ k < 2 ^ 63 ∧ xs.length * k.toNat ≤ sizeLine ∧
  ∀ p, H p = none → Q (.ref p) (upd H p (.lst (List.replicate k.toNat xs).flatten))
theorem len_rep {α : Type} (xs : List α) (k : Nat) : (List.replicate k xs).flatten.length = k * xs.length := by
  induction k with
  | zero => simp
  | succ k ih => rw [List.replicate_succ, List.flatten_cons, List.length_append, ih, Nat.succ_mul, Nat.add_comm]
theorem op_rep : OpR X (binaryOp .Mult) rRep := by
  intro pins s σ H x y v u Q I rx ry h
  obtain ⟨l, k, xs, rfl, rfl, hH, h1, h2, hz, q⟩ := h
  cases rx
  obtain ⟨t, rfl⟩ := ry
  obtain ⟨z, its, n, r, hl, e⟩ := I.lstM hH
  have hlen : its.toArray.size * k.toNat ≤ sizeLine := by rw [List.size_toArray, ← hl]; exact hz
  have hcap : ¬ its.toArray.size * k.toNat > (2 ^ 63 - 1) / 8 := by
    have : (sizeLine : Nat) ≤ (2 ^ 63 - 1) / 8 := by decide
    omega
  have hfit : ¬ (!Builtin.List.listFitsIndex k) = true := by
    rw [fitsIndex_both h1 h2]
    exact Bool.false_ne_true
  have hlong : ¬ Builtin.List.listTooLong (its.toArray.size * k.toNat) = true := by
    rw [notLongL hlen]
    exact Bool.false_ne_true
  have hnew : List.foldl (fun x1 x2 => x1 ++ x2) #[] (List.replicate (if its.toArray.isEmpty = true then 0 else k.toNat) its.toArray) = (List.replicate k.toNat its).flatten.toArray := by
    have f0 : ∀ m : Nat, List.foldl (fun x1 x2 => x1 ++ x2) #[] (List.replicate m its.toArray) = (List.replicate m its).flatten.toArray := fun m => by
      have := foldl_rep its m []
      rw [List.nil_append] at this
      exact this
    rw [f0]
    cases its with
    | nil => simp
    | cons a r' => rw [if_neg (by simp)]
  refine wpAny_binaryOp_repeat_ref (T := "list") (U := "int") (by decide) ⟨_, e, rfl⟩ (fun s' => typeIs_int s' k t) noFill_list_mul F.fills_int_mul F.slot_int_rmul repeat_list F.slot_int_index.lookup
    (call_meets F.slot_int_rmul (typeIs_int s k t) F.entry_int_rmul (F.args_int_rmul_2 _ _) (int___rmul___int_list k t l its.toArray n)
      ⟨e, rfl, ⟨_, e, rfl⟩, call_meets F.slot_list_mul ⟨_, e, rfl⟩ F.entry_list_mul (F.args_list_mul_2 _ _) (AutoListH.list___mul___list_int_3 l its.toArray n k t hfit hcap hlong) ⟨e, ?_⟩⟩)
  rw [hnew]
  exact ⟨.ref _, _, I.lnew (t' := s.toks) (r.rep k.toNat) (by rw [len_rep, Nat.mul_comm]; exact hz), rfl, q _ I.fresh⟩

/-! ### del xs[i] -/
theorem del_list {pins : List (Addr × Obj)} {s : Shared} {σ : St} {H : Hp} {l : Addr} {xs : List V} {i : Int} {t : Tok} {k : Nat} {Q : Unit → Shared → Prop} (I : Inv X pins σ H s) (hH : H l = some (.lst xs))
    (h1 : -(2 ^ 63) ≤ i) (h2 : i < 2 ^ 63) (hk : seqIndex? i xs.length = some k) (h : ∀ s', Inv X pins σ (upd H l (.lst (xs.eraseIdx k))) s' → Q () s') :
    wpAny (model X.prog X.w) X.A (delItem (.ref l) (.int i t)) Q X.xe s := by
  obtain ⟨z, its, n, r, hl, e⟩ := I.lstM hH
  refine PySem.P.delItem_list (k := k) e (fitsIndex_both h1 h2) (by rw [List.size_toArray, ← hl]; exact hk) (h _ ?_) (by rw [List.size_toArray]; omega)
  refine I.lset (its' := its.eraseIdx k) (t' := s.toks) hH e ?_ (r.eraseIdx k) ?_
  · show its.toArray.eraseIdxIfInBounds k = (its.eraseIdx k).toArray
    rw [List.eraseIdxIfInBounds_toArray]
  · have := len_erase xs k
    omega
end

/-! ### xs[a:b] = ys -/
section
variable {prog : Program} {w : World} {A : Around} {E : Value → Shared → Prop} {s : Shared}
theorem splice_eq (its its2 : List Value) (a c : Nat) : its.toArray.extract 0 a ++ its2.toArray ++ its.toArray.extract c its.toArray.size = (its.take a ++ its2 ++ its.drop c).toArray := by
  apply Array.toList_inj.mp
  first
    | (simp
       exact List.take_of_length_le (by simp))
    | simp [List.take_of_length_le]
    | simp
theorem bounds_run {a c n : Nat} (hac : a ≤ c) (hc : c ≤ n) : sliceBounds (some (a : Int)) (some (c : Int)) none n = ((a : Int), (c : Int), 1) := by
  simp only [sliceBounds, Option.getD_none]
  have h1 : ¬ ((a : Int) < 0) := by omega
  have h2 : ¬ ((c : Int) < 0) := by omega
  simp only [h1, h2, if_false, show (1 : Int) > 0 by decide, if_true]
  congr 1
  · omega
  · congr 1; omega
set_option maxRecDepth 100000 in
/-- list.__setitem__ with a slice of step one and another list -/
theorem setItem_slice {l b sl : Addr} {items new : Array Value} {n n2 : Nat} {vl vu : Value} {a c : Nat} {Q : Unit → Shared → Prop}
    (e : s.heap.get? l = some { cls := .type "list", data := .seq items n }) (e2 : s.heap.get? b = some { cls := .type "list", data := .seq new n2 }) (hne : l ≠ b)
    (hs : s.heap.IsSliceOf sl vl vu .none) (pl : IsPart vl (some (a : Int))) (pu : IsPart vu (some (c : Int))) (hac : a ≤ c) (hc : c ≤ items.size)
    (hsz : items.size + new.size ≤ sizeLine) (h : Q () { s with heap := s.heap.update l (Obj.mapSeq fun xs => xs.extract 0 a ++ new ++ xs.extract c xs.size) }) :
    wpAny (model prog w) A (setItem (.ref l) (.ref sl) (.ref b)) Q E s := by
  have hl : s.heap.IsList l items := PySem.IsL.isList e
  have hb : s.heap.IsList b new := PySem.IsL.isList e2
  obtain ⟨os, hos, hcs, hds⟩ := id hs
  have hTs : s.TypeIs (.ref sl) "slice" := ⟨os, hos, hcs⟩
  have hstep : ¬ ((rawPart none == rawInt 0) = true) := Bool.false_ne_true
  have hsame : Builtin.List.listSameRef (.ref l) (.ref b) = false := by
    unfold Builtin.List.listSameRef
    exact beq_eq_false_iff_ne.mpr hne
  have hmax : (max (a : Int) (c : Int)).toNat = c := by omega
  have hz' : ((fun xs : Array Value => xs.extract 0 a ++ new ++ xs.extract c xs.size) items).size ≤ sizeLine + 1 := by
    simp only [Array.size_append, Array.size_extract]
    omega
  unfold setItem
  try with_reducible refine wpAny_holding ?_
  first | refine wpAny_bind (wpAny_pure ?_) | skip
  refine wpAny_bind (wpAny_sequenceKey hl.typeIs (by decide) ?_)
  refine wpAny_bind (wpAny_callSpecial?_slot (name := Str.ofString "__setitem__") hl.typeIs slot_list_setitem
    (wpAny_call_entry slot_list_setitem hl.typeIs entry_list_setitem ?_ (args_list_setitem _ _ _)))
  show wpAny _ _ (Builtin.List.listSubscript? (.ref sl) >>= _) _ _ s
  refine wpAny_bind ?_
  unfold Builtin.List.listSubscript?
  refine wpAny_bind (wpAny_specialOf hTs slice_no_index ?_)
  simp only [Option.isNone_none, if_true]
  refine wpAny_pure ?_
  show wpAny _ _ (typeOf (.ref sl) >>= _) _ _ s
  refine wpAny_bind (wpAny_typeOf hTs ?_)
  first
    | rw [if_neg (by decide)]
    | refine PySem.W.KFB.if_not (by decide) ?_
  rw [listSliceParts_eq]
  refine wpAny_bind (wpAny_bind (wpAny_field hos hds (x := .none) rfl (wpAny_bind (wpAny_listPart .none ?_))))
  rw [if_neg hstep]
  refine wpAny_bind (wpAny_field hos hds (x := vl) rfl (wpAny_bind (wpAny_listPart pl ?_)))
  refine wpAny_bind (wpAny_field hos hds (x := vu) rfl (wpAny_bind (wpAny_listPart pu (wpAny_pure ?_))))
  first
    | simp only [hsame, Bool.false_eq_true, if_false]
    | refine PySem.W.KFB.if_not hsame ?_
    | (dsimp only
       rw [if_neg (by rw [hsame]; exact Bool.false_ne_true)])
  refine wpAny_bind (m := Builtin.List.listAllItems (.ref b) "must assign iterable to extended slice") ?_
  unfold Builtin.List.listAllItems
  refine wpAny_bind (wpAny_typeOf hb.typeIs ?_)
  first
    | refine PySem.W.KFB.if_so (by decide) ?_
    | rw [if_pos (by decide)]
    | simp only [beq_self_eq_true, Bool.true_or, if_true]
  unfold Builtin.List.listItems
  refine wpAny_bind (wpAny_seqItems e2 rfl (wpAny_pure ?_))
  refine wpAny_bind (wpAny_bind (wpAny_seqItems e rfl (wpAny_pure ?_)))
  refine wpAny_bind (wpAny_of_eq ((sliceIndices_raw (some (a : Int)) (some (c : Int)) none items.size (by simp)).trans (congrArg (pure : Int × Int × Int → Sem (Int × Int × Int)) (bounds_run hac hc))) ?_)
  show wpAny _ _ (if ((1 : Int) == 1) = true then _ else _) _ _ s
  rw [if_pos (by decide)]
  refine wpAny_bind (wpAny_rule ?_)
  first
    | simp only [notLongL hsz, Bool.false_eq_true, if_false]
    | refine PySem.W.KFB.if_not (notLongL hsz) ?_
  first | refine wpAny_bind (wpAny_pure ?_) | skip
  show wpAny _ _ (updateSeq l (fun xs => xs.extract 0 ((a : Int)).toNat ++ new ++ xs.extract (max (a : Int) (c : Int)).toNat xs.size) >>= _) _ _ s
  rw [hmax, Int.toNat_natCast]
  refine wpAny_bind (wpAny_updateSeq (hz := Nat.le_trans (Nat.le_add_right _ _) hsz) (_hz' := hz') e rfl ?_)
  refine wpAny_bind (wpAny_letGo ?_)
  first
    | exact wpAny_bind (wpAny_pure (wpAny_pure ⟨.none, rfl, wpAny_pure h⟩))
    | exact wpAny_pure ⟨.none, rfl, wpAny_pure h⟩
end

section
variable {X : Cx}
/-- xs[a:c] = ys of another list, at the value level: sl is the slice object that was just made -/
theorem set_slice {pins : List (Addr × Obj)} {s : Shared} {σ : St} {H : Hp} {l b sl : Addr} {xs ys : List V} {a c : Int} {vl vu : Value} {Q : Unit → Shared → Prop} (I : Inv X pins σ H s)
    (hH : H l = some (.lst xs)) (hB : H b = some (.lst ys)) (hne : l ≠ b) (hs : s.heap.IsSliceOf sl vl vu .none) (ra : RelV (.int a) vl) (rc : RelV (.int c) vu) (h0 : 0 ≤ a) (hac : a ≤ c) (hc : c ≤ xs.length)
    (hz : xs.length + ys.length ≤ sizeLine) (h : ∀ s', Inv X pins σ (upd H l (.lst (xs.take a.toNat ++ ys ++ xs.drop c.toNat))) s' → Q () s') :
    wpAny (model X.prog X.w) X.A (setItem (.ref l) (.ref sl) (.ref b)) Q X.xe s := by
  obtain ⟨ta, rfl⟩ := ra
  obtain ⟨tc, rfl⟩ := rc
  obtain ⟨z, its, n, r, hl, e⟩ := I.lstM hH
  obtain ⟨z2, its2, n2, r2, hl2, e2⟩ := I.lstM hB
  obtain ⟨a', rfl⟩ := Int.eq_ofNat_of_zero_le h0
  obtain ⟨c', rfl⟩ := Int.eq_ofNat_of_zero_le (Int.le_trans h0 hac)
  simp only [Int.toNat_natCast] at h
  refine setItem_slice (a := a') (c := c') e e2 hne hs (.int _ _) (.int _ _) (by omega) (by rw [List.size_toArray]; omega) (by rw [List.size_toArray, List.size_toArray]; omega) (h _ ?_)
  refine I.lset (its' := its.take a' ++ its2 ++ its.drop c') (t' := s.toks) hH e ?_ (Vals.append (Vals.append (r.take _) r2) (r.drop _)) ?_
  · exact splice_eq its its2 a' c'
  · rw [List.length_append, List.length_append, List.length_take, List.length_drop]
    omega
end
end L2

namespace Att
open PySem PySem.W PySem.Calls PyProof.Rows

/-! ### the script -/
theorem ints_of_wellAll {P : Params} {h : Heap} : ∀ (ns : List Int) (vs : List Value), WellAll P h vs (ns.map WData.int) → IntsAre vs ns := by
  intro ns
  induction ns with
  | nil =>
    intro vs w
    rw [List.map_nil] at w
    cases w
    exact .nil
  | cons n ns ih =>
    intro vs w
    rw [List.map_cons] at w
    cases w with
    | cons a b =>
      cases a
      exact .cons _ _ (ih _ b)

theorem script_of {l : OpenLaw} {n : Nat} (hn : l.most = some n) {P : Params} {h : Heap} {args : List WData} {vals : List Value}
    (hpre : l.row.toRowW.claim.pre args = true) (hwl : WellAll P h vals args) :
    ∃ a vs ns, vals = [Value.ref a] ∧ args = [WData.list (ns.map WData.int)] ∧ h.get? a = some { cls := .type "list", data := .seq vs.toArray } ∧ IntsAre vs ns ∧ ns.length ≤ n := by
  have hsh : WShape.hasAll [] args [.list .int] = true := (pre_splitW hpre).1
  have hc : l.pre.holds [] { args := args } = true := (pre_splitW hpre).2
  obtain ⟨d, r, rfl, h1, h2⟩ := hasAllW_cons hsh
  obtain rfl := hasAllW_nil h2
  obtain ⟨xs, rfl, h3⟩ := hasW_list h1
  obtain ⟨ns, rfl⟩ := items_int h3
  have hlen : ns.length ≤ n := by
    unfold OpenLaw.pre at hc
    have h4 : (WTm.not (.lt (.lit (.int (n : Int))) (.len (.arg 0)))).holds [] { args := [.list (ns.map .int)] } = true := by
      have h4 := (holds_andW hc).1
      rw [hn] at h4
      exact h4
    have h5 := condW_of h4 (w_not (w_lt w_lit (w_len_list (w_arg rfl))))
    rw [List.length_map] at h5
    refine Nat.le_of_not_lt fun q => ?_
    have q' : (n : Int) < ((ns.length : Nat) : Int) := by omega
    first
      | (rw [decide_eq_true q'] at h5; exact absurd h5 (by decide))
      | (simp at h5; omega)
  cases hwl with
  | cons w1 w2 =>
    cases w2
    cases w1 with
    | list ho hall => exact ⟨_, _, ns, rfl, rfl, ho, ints_of_wellAll ns _ hall, hlen⟩

theorem post_true (l : OpenLaw) (args : List WData) : l.row.toRowW.claim.post args (.bool true) args = true :=
  postW_of (r := l.row.toRowW) (X := (true == true))
    (show WShape.has [] (.bool true) .bool = true by first | rfl | decide | simp [WShape.has, WShape.arms, WShape.armsAll])
    (show (WTm.eq .res (.lit (.bool true))).value [] { args := args, res := some (.bool true), after := args } = some (.bool (true == true)) from w_eq_bool (w_res rfl) w_lit) rfl

/-! ### the attachment: holds_open's last premise (the goal 'hc' behind k_head) from a wpAny of the law's body -/
theorem attach {l : OpenLaw} {n : Nat} {q : Program} {loose : List Str} {XP : (Str → Option Value) → Heap → Prop} {YP : World → Heap → Prop} {d : DefRec} {x : Str}
    (hn : l.most = some n) (hdf : d.params.defaults = [])
    (hbind : ∀ pm cd doc v : Value, bindArgs (docDef d.name d.params d.body d.scope pm cd doc) ⟨[v], []⟩ = pure [(x, v)])
    (hx : d.scope.names.lookup x = some .local ∨ d.scope.names.lookup x = some .cell)
    (hk : d.scope.kind = .function) (hco : d.scope.isCoroutine = false) (hgen : d.scope.isGenerator = false)
    (body : ∀ (w : World) (s₀ s₁ s : Shared) (mg mb : Str → Option Value) (fa : Addr) (o : Obj) (pm cd doc : Value) (a : Addr) (vs : List Value) (ns : List Int),
      Ground q loose [] XP w s₀ mg mb s₁.heap → YP w s₁.heap →
      s₁.heap.get? fa = some o → o.data = .func (docDef d.name d.params d.body d.scope pm cd doc) → s₁.heap.CodeRec cd d.name → mg d.name = some (.ref fa) →
      s₁.heap.get? a = some { cls := .type "list", data := .seq vs.toArray } → IntsAre vs ns → ns.length ≤ n →
      s.gens = #[] → s.os = s₁.os →
      Fr s₁.heap s₁.heap.objs.size s.heap (bindL (envOfC d.name d.scope s₁.heap.objs.size fa cd).kindOf [(x, .ref a)] fun _ => none) →
      Cl s₁.heap.objs.size (cellsFrom (s₁.heap.objs.size + 1) d.scope.names []) s.heap (bindC (envOfC d.name d.scope s₁.heap.objs.size fa cd).kindOf [(x, .ref a)] fun _ => none) →
      wpAny (model l.prog w) (callerA.deeper (envOfC d.name d.scope s₁.heap.objs.size fa cd)) (execs d.body (envOfC d.name d.scope s₁.heap.objs.size fa cd))
        (fun f s' => f = .ret (.bool true) ∧ OldK s₁.heap s'.heap ∧ s'.os = s₁.os ∧ AllBare s'.gens) (fun _ _ => False) s) :
    WalkO q loose XP YP l.row.toRowW d [] (fun f vs => PySem.call f vs) := by
  intro w s₀ s₁ mg mb G Y fa o pm cd doc dV kV ho hd hcd hD hmg hg args vals as hpre hlay hrd hwl hlo
  obtain rfl : dV = .none := Dflts.none hD hdf
  obtain rfl : kV = .none := Dflts.noKw hD
  obtain ⟨a, vs, ns, rfl, rfl, hobj, hints, hlen⟩ := script_of hn hpre hwl
  refine enter_call ?_
  refine call_cells_ret (o := o) (by rw [depth_caller]; decide) ho (fd_plain hd) G.T.nolimit hcd (hbind pm cd doc (.ref a)) (fun y hy => ?_) (fun h₁ tk F X => ?_) hco hgen hk
  · obtain rfl : y = (x, Value.ref a) := List.mem_singleton.mp hy
    rcases hx with e | e
    · exact .inl e
    · exact .inr ⟨e, cellsFrom_some _ _ _ (.inl e)⟩
  · refine wpAny_mono (body w s₀ s₁ { s₁ with heap := h₁, toks := tk } mg mb fa o pm cd doc a vs ns G Y ho (fd_plain hd) hcd hmg hobj hints hlen hg rfl F X) (fun f s' hq => ?_) (fun _ _ hq => hq)
    obtain ⟨rfl, h2, h3, h4⟩ := hq
    exact ⟨.inl ⟨.bool true, .bool true, [], rfl, fun _ => rfl, .bool true, post_true l _, fun _ => ⟨List.Pairwise.nil, fun _ hm => (nomatch hm)⟩⟩, h2, h3, h4⟩

/-- the same from a codeAny of the CALL (for a layer whose function contracts speak of calls) -/
theorem attach_call {l : OpenLaw} {n : Nat} {q : Program} {loose : List Str} {XP : (Str → Option Value) → Heap → Prop} {YP : World → Heap → Prop} {d : DefRec}
    (hn : l.most = some n) (hdf : d.params.defaults = [])
    (call : ∀ (w : World) (s₀ s₁ : Shared) (mg mb : Str → Option Value) (fa : Addr) (o : Obj) (pm cd doc : Value) (a : Addr) (vs : List Value) (ns : List Int),
      Ground q loose [] XP w s₀ mg mb s₁.heap → YP w s₁.heap →
      s₁.heap.get? fa = some o → o.data = .func (docDef d.name d.params d.body d.scope pm cd doc) → s₁.heap.CodeRec cd d.name → mg d.name = some (.ref fa) →
      s₁.heap.get? a = some { cls := .type "list", data := .seq vs.toArray } → IntsAre vs ns → ns.length ≤ n → s₁.gens = #[] →
      codeAny (model l.prog w) callerA (.call (.ref fa) ⟨[.ref a], []⟩) (fun r s' => r = .ok (.ret (.bool true)) ∧ OldK s₁.heap s'.heap ∧ s'.os = s₁.os ∧ AllBare s'.gens) s₁) :
    WalkO q loose XP YP l.row.toRowW d [] (fun f vs => PySem.call f vs) := by
  intro w s₀ s₁ mg mb G Y fa o pm cd doc dV kV ho hd hcd hD hmg hg args vals as hpre hlay hrd hwl hlo
  obtain rfl : dV = .none := Dflts.none hD hdf
  obtain rfl : kV = .none := Dflts.noKw hD
  obtain ⟨a, vs, ns, rfl, rfl, hobj, hints, hlen⟩ := script_of hn hpre hwl
  refine enter_call (codeAny_mono (call w s₀ s₁ mg mb fa o pm cd doc a vs ns G Y ho (fd_plain hd) hcd hmg hobj hints hlen hg) fun r s' hq => ?_)
  obtain ⟨rfl, h2, h3, h4⟩ := hq
  exact ⟨.inl ⟨.bool true, .bool true, [], rfl, fun _ => rfl, .bool true, post_true l _, fun _ => ⟨List.Pairwise.nil, fun _ hm => (nomatch hm)⟩⟩, h2, h3, h4⟩

/-- the same where the top left finished generators (o_head chose holds_openN): nothing may have changed at all and no generator may be left -/
theorem attachN {l : OpenLaw} {n : Nat} {q : Program} {loose : List Str} {XP : (Str → Option Value) → Heap → Prop} {YP : World → Heap → Prop} {d : DefRec} {x : Str}
    (hn : l.most = some n) (hdf : d.params.defaults = [])
    (hbind : ∀ pm cd doc v : Value, bindArgs (docDef d.name d.params d.body d.scope pm cd doc) ⟨[v], []⟩ = pure [(x, v)])
    (hx : d.scope.names.lookup x = some .local ∨ d.scope.names.lookup x = some .cell)
    (hk : d.scope.kind = .function) (hco : d.scope.isCoroutine = false) (hgen : d.scope.isGenerator = false)
    (body : ∀ (w : World) (s₀ s₁ s : Shared) (mg mb : Str → Option Value) (fa : Addr) (o : Obj) (pm cd doc : Value) (a : Addr) (vs : List Value) (ns : List Int),
      Ground q loose [] XP w s₀ mg mb s₁.heap → YP w s₁.heap →
      s₁.heap.get? fa = some o → o.data = .func (docDef d.name d.params d.body d.scope pm cd doc) → s₁.heap.CodeRec cd d.name → mg d.name = some (.ref fa) →
      s₁.heap.get? a = some { cls := .type "list", data := .seq vs.toArray } → IntsAre vs ns → ns.length ≤ n →
      s.gens = #[] → s.os = s₁.os →
      Fr s₁.heap s₁.heap.objs.size s.heap (bindL (envOfC d.name d.scope s₁.heap.objs.size fa cd).kindOf [(x, .ref a)] fun _ => none) →
      Cl s₁.heap.objs.size (cellsFrom (s₁.heap.objs.size + 1) d.scope.names []) s.heap (bindC (envOfC d.name d.scope s₁.heap.objs.size fa cd).kindOf [(x, .ref a)] fun _ => none) →
      wpAny (model l.prog w) (callerA.deeper (envOfC d.name d.scope s₁.heap.objs.size fa cd)) (execs d.body (envOfC d.name d.scope s₁.heap.objs.size fa cd))
        (fun f s' => f = .ret (.bool true) ∧ (∀ b o, s₁.heap.get? b = some o → s'.heap.get? b = some o) ∧ s'.os = s₁.os ∧ s'.gens = #[]) (fun _ _ => False) s) :
    WalkN q loose XP YP l.row.toRowW d [] (fun f vs => PySem.call f vs) := by
  intro w s₀ s₁ mg mb G Y fa o pm cd doc dV kV ho hd hcd hD hmg hg args vals as hpre hlay hrd hwl hlo
  obtain rfl : dV = .none := Dflts.none hD hdf
  obtain rfl : kV = .none := Dflts.noKw hD
  obtain ⟨a, vs, ns, rfl, rfl, hobj, hints, hlen⟩ := script_of hn hpre hwl
  refine enter_callW ?_
  refine call_cells_ret (o := o) (by rw [depth_caller]; decide) ho (fd_plain hd) G.T.nolimit hcd (hbind pm cd doc (.ref a)) (fun y hy => ?_) (fun h₁ tk F X => ?_) hco hgen hk
  · obtain rfl : y = (x, Value.ref a) := List.mem_singleton.mp hy
    rcases hx with e | e
    · exact .inl e
    · exact .inr ⟨e, cellsFrom_some _ _ _ (.inl e)⟩
  · refine wpAny_mono (body w s₀ s₁ { s₁ with heap := h₁, toks := tk } mg mb fa o pm cd doc a vs ns G Y ho (fd_plain hd) hcd hmg hobj hints hlen hg rfl F X) (fun f s' hq => ?_) (fun _ _ hq => hq)
    obtain ⟨rfl, h2, h3, h4⟩ := hq
    exact ⟨.inl ⟨.bool true, .bool true, [], rfl, fun _ => rfl, .bool true, post_true l _, fun _ => ⟨List.Pairwise.nil, fun _ hm => (nomatch hm)⟩⟩, h2, h3, h4⟩

/-! ### rules over ANY heap (no ledger) from facts about the written part K: the library's own take a ledger (News) for what they write -/
section
variable {prog : Program} {w : World} {A : Around} {E : Value → Shared → Prop} {s : Shared} {K : Frag}

/-- a def of the module, or a method (qual 'C.m'), entered: the frame is the next address; cells behind it -/
theorem call_fn {R : Result → Shared → Prop} {name qual : Str} {params : Arguments} {body : List Stmt} {scope : Scope} {dV kV doc pm cdv ct oc : Value} {an od : Option Addr} {osl : Array (Option Value)} {f : Addr} {args : Args} {binds : List (Str × Value)}
    (X : K.In s.heap) (hlim : s.heap.NoLimit) (ho : K.lookup f = some ⟨oc, od, .func (fnOf name qual params body scope dV kV doc pm an cdv ct), osl⟩) (hcd : codeIn K cdv qual = true) (hroom : A.depth < recursionLimit)
    (hbind : BindsTo s (fnOf name qual params body scope dV kV doc pm an cdv ct) args binds)
    (hkind : (binds.all fun y => scope.names.lookup y.1 == some .local || scope.names.lookup y.1 == some .cell) = true)
    (h : ∀ s₁, InCallC s s.heap.objs.size (bindL (envOfC qual scope s.heap.objs.size f cdv).kindOf binds fun _ => none) (cellsFrom (s.heap.objs.size + 1) scope.names [])
        (bindC (envOfC qual scope s.heap.objs.size f cdv).kindOf binds fun _ => none) s₁ →
      wpAny (model prog w) (A.deeper (envOfC qual scope s.heap.objs.size f cdv)) (execs body (envOfC qual scope s.heap.objs.size f cdv))
        (fun fl s' => R (.ok (.ret (match fl with | .ret v => v | _ => .none))) s')
        (fun e s' => wpAny (model prog w) (A.deeper (envOfC qual scope s.heap.objs.size f cdv)) (leaving (envOfC qual scope s.heap.objs.size f cdv) e) (fun _ s'' => R (.error e) s'') (fun e' s'' => R (.error e') s'') s') s₁)
    (hco : scope.isCoroutine = false) (hgen : scope.isGenerator = false) (hk : scope.kind = .function) : codeAny (model prog w) A (.call (.ref f) args) R s := by
  refine codeAny_call_function hroom (X _ _ ho) rfl hco hgen rfl (codeRec_of X hcd) (hbind _ _ _ _ ?_)
  refine wpAny_newFunctionEnv_cells hk (kindsX hkind _) fun env he s₁ x => ?_
  subst he
  exact ⟨hlim.keeps x.toInCall.keep, codeAny_func (h s₁ x)⟩

/-- C(..): dict at size, instance at size + 1, then __init__ -/
theorem make_obj {R : Result → Shared → Prop} {C fI : Addr} {rest : List Value} {kw : List (Str × Value)}
    (X : K.In s.heap) (hm : makesIn K C = true) (hi : findIn K (.ref C) "__init__" = some (some (.ref fI))) (hf : isFn K (.ref fI) = true)
    (h : codeAny (model prog w) (A.under (.builtin "type.__call__" ⟨.ref C :: rest, kw⟩)) (.call (.ref fI) ⟨.ref (s.heap.objs.size + 1) :: rest, kw⟩) (InitBack (s.heap.objs.size + 1) R)
      { s with heap := (s.heap.push emptyDict).push (instObj C s.heap.objs.size) }) : codeAny (model prog w) A (.call (.ref C) ⟨rest, kw⟩) R s := by
  obtain ⟨hh, g, d, t, os⟩ := s
  exact make_core (makes_of X hm) (looks_findIn X hi) (fun self => bind_fn X self (beq_iff_eq.mp hf)) (.inl rfl) h

/-- x.name where the instance's dict holds the name and the class does not -/
theorem get_field {x C : Addr} {ox : Obj} {es : List DictEntry} {n : Nat} {name : Str} {expr : Bool} {v : Value} {Q : Value → Shared → Prop}
    (X : K.In s.heap) (I : PySem.W.InstAt s.heap x ox C (some (dictOf es n))) (hg : plainGet K C name = true) (hh : hasDictIn K C = true) (ha : findIn K (.ref C) name = some none)
    (hl : getL name es = some (some v)) (hv : handedIn v = true) (h : Q v { s with toks := s.toks + 1 }) : wpAny (model prog w) A (getAttr (.ref x) name expr) Q E s :=
  get_value X I (plainGet_of hg).1 (findObj_own hh ha rfl hl) hv h

/-- x.m(..): the method found in the class -/
theorem get_method {x C f : Addr} {ox : Obj} {es : List DictEntry} {n : Nat} {name : Str} {pl : Sem Bool} {Q : Value × List Value → Shared → Prop}
    (X : K.In s.heap) (I : PySem.W.InstAt s.heap x ox C (some (dictOf es n))) (hg : plainGet K C name = true) (hf : findIn K (.ref C) name = some (some (.ref f))) (ht : isFn K (.ref f) = true)
    (hl : getL name es = some none) (h : Q (.ref f, [.ref x]) s) : wpAny (model prog w) A (getMethod (.ref x) name pl) Q E s :=
  method_fn X I (plainGet_of hg).1 (plainGet_of hg).2 hf (beq_iff_eq.mp ht) (by show (lookIn name (dictOf es n)).map _ = _; rw [lookIn_dict, hl]; rfl) h

/-! the whole heap as the ledger: makes every rule that writes through a ledger a rule over any heap -/
def noObjs (h : Heap) : Heap := { h with objs := #[] }
theorem noObjs_get (h : Heap) (b : Addr) : (noObjs h).get? b = none := by
  cases e : (noObjs h).get? b with
  | none => rfl
  | some o => exact absurd (Heap.lt_size e) (Nat.not_lt_zero _)
def ledger (h : Heap) (L d : Addr) : List (Addr × Obj) := (List.range h.objs.size).filterMap fun a => if a = L ∨ a = d then none else (h.get? a).map fun o => (a, o)
theorem mem_ledger {h : Heap} {L d a : Addr} {o : Obj} : (a, o) ∈ ledger h L d ↔ a ≠ L ∧ a ≠ d ∧ h.get? a = some o := by
  unfold ledger
  rw [List.mem_filterMap]
  constructor
  · rintro ⟨b, _, e⟩
    split at e
    · cases e
    · rename_i hb
      obtain ⟨o', ho, e'⟩ := Option.map_eq_some_iff.mp e
      cases e'
      exact ⟨fun q => hb (.inl q), fun q => hb (.inr q), ho⟩
  · rintro ⟨n1, n2, ho⟩
    refine ⟨a, List.mem_range.mpr (Heap.lt_size ho), ?_⟩
    rw [if_neg (show ¬ (a = L ∨ a = d) from fun q => q.elim n1 n2), ho] <;> rfl
theorem news_ledger {h : Heap} {L d : Addr} {od : Obj} (hne : d ≠ L) (ho : h.get? d = some od) : News (noObjs h) L h ([] ++ (d, od) :: ledger h L d) := by
  rintro ⟨a, o⟩ hp
  rcases List.mem_cons.mp hp with e | hp
  · cases e
    exact ⟨ho, hne, noObjs_get _ _⟩
  · obtain ⟨n1, n2, e⟩ := mem_ledger.mp hp
    exact ⟨e, n1, noObjs_get _ _⟩
theorem fr_all {h : Heap} {L : Addr} {m : Str → Option Value} (n : h.Ns L m) : Fr (noObjs h) L h m :=
  ⟨n, fun b o e => (by rw [noObjs_get] at e; cases e), Nat.zero_le _⟩
/-- Upd of the head entry (for append_K, setItem_K ..) -/
theorem upd_ledger {h : Heap} {L d : Addr} {o o' : Obj} : Upd d o o' ((d, o) :: ledger h L d) ((d, o') :: ledger h L d) :=
  .head fun ⟨_, _⟩ hp => (mem_ledger.mp hp).2.1

/-- x.name = v over any heap: L is any namespace of the heap (the frame's, say): its map stays, its object is not told; all else but the dict stays -/
theorem set_field {x C dx L : Addr} {ox : Obj} {m : Str → Option Value} {es es' : List DictEntry} {n n' : Nat} {name : Str} {v : Value} {Q : Unit → Shared → Prop}
    (X : K.In s.heap) (I : PySem.W.InstAt s.heap x ox C (some (dictOf es n))) (hd : ox.dict = some dx) (hL : s.heap.Ns L m) (hne : dx ≠ L)
    (hs : findIn K (.ref C) "__setattr__" = some (some (.builtin "object.__setattr__"))) (hp : plainOver K C = true) (ht : takerIn K C name = some none) (hh : hasDictIn K C = true) (hl : (getL name es).isSome = true)
    (e : (putL name (PyData.keyHash w.params name) (.str name (s.toks + 1)) v es, putN name es n) = (es', n')) (hz : es'.length ≤ 1000)
    (h : ∀ h' : Heap, h'.Ns L m → h'.get? dx = some (dictOf es' n') → (∀ b o, b ≠ dx → b ≠ L → s.heap.get? b = some o → h'.get? b = some o) → Q () { s with heap := h', toks := s.toks + 2 }) :
    wpAny (model prog w) A (setAttr (.ref x) name v) Q E s := by
  obtain ⟨e1, e2⟩ := Prod.mk.inj e
  have hdx : s.heap.get? dx = some (dictOf es n) := by
    have := I.dict
    rw [hd] at this
    exact this
  refine set_plain X I hs (osa_dict (s := { s with toks := s.toks + 1 }) (h₀ := noObjs s.heap) (L := L) (m := m) (od := dictOf es n) (od' := dictOf es' n') (es := es') (n := n') (pre := []) (post := ledger s.heap L dx)
    (fr_all hL) (news_ledger hne hdx) X I hd hp ht hh hl (fun _ q => nomatch q) (fun ⟨_, _⟩ q => (mem_ledger.mp q).2.1) (by rw [putName_dict, e1, e2]) rfl hz fun h' F' N' => ?_)
  exact h h' F'.ns (N'.get (List.Mem.head _)) fun b o n1 n2 ho => N'.get (List.Mem.tail _ (mem_ledger.mpr ⟨n2, n1, ho⟩))
end
end Att

namespace L2
open PySem PySem.Spec PyProof.Rows

theorem vals_ints : ∀ {vs : List Value} {ns : List Int}, IntsAre vs ns → Vals (ns.map V.int) vs
  | _, _, .nil => .nil
  | _, _, .cons n t h => .cons ⟨t, rfl⟩ (vals_ints h)

/-- nothing is tracked but the script, known to the object (or it is an object of the module) -/
def Only (H : Hp) : Prop := ∀ b, H b = none ∨ ∃ o xs, H b = some (.frz o (.lst xs))

/-- THE HEAD: the law's promise, at the heap behind the top. F, the promise of the law's def, may use that base is part of the heap (so K.In base, base.Ns mainGlobals mg stand in Mod) -/
theorem law_call {P : Program} {w : World} {K : PySem.W.Frag} {mg mb : Str → Option Value} {CX : CXT} {k : Nat} {fa a : Addr} {fd : FuncData} {x : Str} {sp : Sp} {s₁ : Shared} {vs : List Value} {ns : List Int}
    (KX : K.In s₁.heap) (hns : s₁.heap.Ns mainGlobals mg) (hb : s₁.heap.Ns builtinsNs mb) (hbb : ∀ x : Str, x ≠ "__name__" → mb x = bootBuiltins x) (hlim : s₁.heap.NoLimit) (hg : s₁.gens = #[])
    (ha : s₁.heap.get? a = some { cls := .type "list", data := .seq vs.toArray }) (hi : IntsAre vs ns) (hl : ns.length ≤ sizeLine) (hr : Room k callerA)
    (F : ∀ base : Heap, K.In base → base.Ns mainGlobals mg → FnOk P w K mg base CX k fa fd [x] sp) (hbind : ∀ (s : Shared) (u : Value), BindsTo s fd ⟨[u], []⟩ [(x, u)])
    (hsp : ∀ H : Hp, Only H → SqL K H a (ns.map V.int) → sp [.ref a] H (fun v _ => v = .bl true) fun _ _ _ => False)
    (hCX : ∀ H e s', CX [] H s₁ (fun _ _ _ => False) e s' → False) :
    codeAny (model P w) callerA (.call (.ref fa) ⟨[.ref a], []⟩) (fun r s' => r = .ok (.ret (.bool true)) ∧ OldK s₁.heap s'.heap ∧ s'.os = s₁.os ∧ AllBare s'.gens) s₁ := by
  have rv := vals_ints hi
  have lenV := hi.length
  -- from an abstract heap in which nothing but the script may be tracked
  have core : ∀ H : Hp, Only H → SqL K H a (ns.map V.int) → HOk P w H s₁.heap → (∀ b, H b ≠ none → b = a) → (H a ≠ none → K.lookup a = none) →
      codeAny (model P w) callerA (.call (.ref fa) ⟨[.ref a], []⟩) (fun r s' => r = .ok (.ret (.bool true)) ∧ OldK s₁.heap s'.heap ∧ s'.os = s₁.os ∧ AllBare s'.gens) s₁ := by
    intro H hO hS hok hA hK
    have base_of : ∀ {b : Addr} {o : Obj}, s₁.heap.get? b = some o → H b = none → (hidT s₁.heap H).get? b = some o := fun e n => hidT_get e n
    have noA : ∀ {b : Addr} {o : Obj} {es : Array DictEntry} {ep : Nat}, s₁.heap.get? b = some o → o.data = .dict es ep → H b = none := fun {b o es ep} e d => by
      cases q : H b with
      | none => rfl
      | some u =>
        have e' : b = a := hA b (by rw [q]; simp)
        subst e'
        rw [ha] at e; cases e
        have d' : Data.seq vs.toArray _ = Data.dict es ep := d
        cases d'
    have nsK : ∀ {b : Addr} {m : Str → Option Value}, s₁.heap.Ns b m → (hidT s₁.heap H).Ns b m := fun {b m} ⟨o, es, ep, e, d, r⟩ => ⟨o, es, ep, base_of e (noA e d), d, r⟩
    have hKb : K.In (hidT s₁.heap H) := fun b o e => base_of (KX b o e) (by
      cases q : H b with
      | none => rfl
      | some u =>
        have e' : b = a := hA b (by rw [q]; simp)
        subst e'
        rw [hK (by rw [q]; simp)] at e; cases e)
    have hM : Mod K mg (hidT s₁.heap H) := ⟨hKb, nsK hns, ⟨mb, nsK hb, hbb⟩, let ⟨mc, h1, h2⟩ := hlim; ⟨mc, nsK h1, h2⟩⟩
    have e0 : Env0 P w K mg (hidT s₁.heap H) callerA [] s₁ H := ⟨rfl, hM, fun b o e => of_hidT e, Nat.le_of_eq (hidT_size _ _), trivial, fun b hb => absurd (show b ∈ ([] : List Addr) from hb) (by simp), hok, .of_eq hg⟩
    refine codeAny_mono ((F _ hKb (nsK hns)).run callerA [] s₁ H ⟨[.ref a], []⟩ [.ref a] [.ref a] _ _ hr e0 (hbind s₁ (.ref a)) (.cons rfl .nil) (hsp H hO hS)) fun r s' h => ?_
    cases r with
    | error e => exact (hCX H e s' h).elim
    | ok fl =>
      cases fl with
      | next => exact False.elim h
      | brk => exact False.elim h
      | cont => exact False.elim h
      | ret u =>
        obtain ⟨v, H', os, bare, un, hok', r', q⟩ := h
        have q' : v = .bl true := q
        subst q'
        obtain rfl : u = Value.bool true := r'
        refine ⟨rfl, OldK.of_keep fun b o e => ?_, os, bare⟩
        cases q : H b with
        | none => exact un.keep b o e q (by intro z; exact absurd (show b ∈ ([] : List Addr) from z) (by simp)) (by simp)
        | some u =>
          rcases hO b with z | ⟨ob, xs, z⟩
          · rw [q] at z; cases z
          · have z2 := un.frzs b ob _ z
            obtain ⟨e1, _⟩ := hok b _ z
            obtain ⟨e2, _⟩ := hok' b _ z2
            rw [e] at e1; cases e1
            exact e2
  cases hk : K.lookup a with
  | some o =>
    -- the script is one of the module's own objects
    have e := KX a o hk
    rw [ha] at e
    cases e
    refine core (fun _ => none) (fun _ => .inl rfl) (.inr ⟨_, vs.toArray, _, hk, rfl, rfl, rfl, by rw [List.size_toArray, lenV]; exact hl, by simpa using rv⟩) (fun b u z => by have z' : (none : Option HO) = some u := z; cases z') (fun b z => absurd rfl z) fun z => absurd rfl z
  | none =>
    refine core (fun b => if b = a then some (.frz { cls := .type "list", data := .seq vs.toArray } (.lst (ns.map V.int))) else none) (fun b => ?_) (.inl (.inr ⟨{ cls := .type "list", data := .seq vs.toArray }, if_pos rfl⟩)) (fun b u z => ?_) (fun b z => ?_) fun _ => hk
    · by_cases hb : b = a
      · exact .inr ⟨_, _, if_pos hb⟩
      · exact .inl (if_neg hb)
    · by_cases hb : b = a
      · have z' := (if_pos hb).symm.trans z
        cases z'
        subst hb
        exact ⟨ha, by rw [List.length_map]; exact hl, vs, _, rv, ha⟩
      · have z' := (if_neg hb).symm.trans z
        cases z'
    · by_cases hb : b = a
      · exact hb
      · exact absurd (if_neg hb) z
end L2

namespace L2
open PySem PySem.Spec PyProof.Rows

abbrev KOf {K : PySem.W.Frag} {h : Heap} (_ : K.In h) : PySem.W.Frag := K

/-- the goal that k_head leaves (case hc), from the law's promise. F gives the function object fd (K's own) once, then the promise over every base -/
theorem walk_of {l : PySem.W.OpenLaw} {n k : Nat} {q : Program} {loose : List Str} {XP : (Str → Option Value) → Heap → Prop} {YP : World → Heap → Prop} {d : DefRec} {K : Params → PySem.W.Frag} {CX : World → CXT} {sp : World → Sp} {x : Str}
    (hn : l.most = some n) (hn2 : n ≤ sizeLine) (hdf : d.params.defaults = []) (hr : Room k callerA)
    (hY : ∀ (w : World) (h : Heap), YP w h → (K w.params).In h)
    (F : ∀ (w : World) (mg : Str → Option Value) (fa : Addr) (h : Heap), (K w.params).In h → h.Ns mainGlobals mg → mg d.name = some (.ref fa) →
      ∃ fd : FuncData, (∀ (s : Shared) (u : Value), BindsTo s fd ⟨[u], []⟩ [(x, u)]) ∧
        ∀ base : Heap, (K w.params).In base → base.Ns mainGlobals mg → FnOk l.prog w (K w.params) mg base (CX w) k fa fd [x] (sp w))
    (hsp : ∀ (w : World) (H : Hp) (a : Addr) (ns : List Int), ns.length ≤ n → Only H → SqL (K w.params) H a (ns.map V.int) → sp w [.ref a] H (fun v _ => v = .bl true) fun _ _ _ => False)
    (hCX : ∀ (w : World) (H : Hp) (s : Shared) (e : Value) (s' : Shared), CX w [] H s (fun _ _ _ => False) e s' → False) :
    PySem.W.WalkO q loose XP YP l.row.toRowW d [] (fun f vs => PySem.call f vs) := by
  refine Att.attach_call hn hdf fun w s₀ s₁ mg mb fa o pm cd doc a vs ns G Y ho hd hcd hmg hobj hints hlen hg => ?_
  have KX := hY w _ Y
  obtain ⟨fd, hb, hF⟩ := F w mg fa _ KX G.T.g hmg
  exact law_call KX G.T.g G.T.b G.T.builtins G.T.nolimit hg hobj hints (Nat.le_trans hlen hn2) hr hF hb (fun H hO hS => hsp w H a ns hlen hO hS) fun H e s' => hCX w H s₁ e s'
/-- the same where the promise hangs on the written part alone: (sp := My.sp_law), no hole under a binder -/
theorem walk_ofK {l : PySem.W.OpenLaw} {n k : Nat} {q : Program} {loose : List Str} {XP : (Str → Option Value) → Heap → Prop} {YP : World → Heap → Prop} {d : DefRec} {K : Params → PySem.W.Frag} {CX : CXT} {sp : PySem.W.Frag → Sp} {x : Str}
    (hn : l.most = some n) (hn2 : n ≤ sizeLine) (hdf : d.params.defaults = []) (hr : Room k callerA)
    (hY : ∀ (w : World) (h : Heap), YP w h → (K w.params).In h)
    (F : ∀ (w : World) (mg : Str → Option Value) (fa : Addr) (h : Heap), (K w.params).In h → h.Ns mainGlobals mg → mg d.name = some (.ref fa) →
      ∃ fd : FuncData, (∀ (s : Shared) (u : Value), BindsTo s fd ⟨[u], []⟩ [(x, u)]) ∧
        ∀ base : Heap, (K w.params).In base → base.Ns mainGlobals mg → FnOk l.prog w (K w.params) mg base CX k fa fd [x] (sp (K w.params)))
    (hsp : ∀ (K : PySem.W.Frag) (H : Hp) (a : Addr) (ns : List Int), ns.length ≤ n → Only H → SqL K H a (ns.map V.int) → sp K [.ref a] H (fun v _ => v = .bl true) fun _ _ _ => False)
    (hCX : ∀ (H : Hp) (s : Shared) (e : Value) (s' : Shared), CX [] H s (fun _ _ _ => False) e s' → False) :
    PySem.W.WalkO q loose XP YP l.row.toRowW d [] (fun f vs => PySem.call f vs) :=
  walk_of (K := K) (CX := fun _ => CX) (sp := fun w => sp (K w.params)) hn hn2 hdf hr hY F (fun w H a ns h1 h2 h3 => hsp (K w.params) H a ns h1 h2 h3) fun _ H s e s' => hCX H s e s'
end L2

/- THE LAST THEOREM (shape; LID, My.* are yours):
   My.Adr: a structure of the addresses that your layer names (classes, functions); My.Txt K t: a structure (Prop) of the equations over K;
   My.txt_mk : {K} {implicit addresses ..} (e1 : nsIn K mainGlobals "law" = some (some (.ref f))) (e2 : K.lookup f = some ⟨oc, od, .func (fnOf "law" "law" params body scope dV kV doc pm an cdv ct), sl⟩) (e3 : codeIn K cdv "law" = true) .. : ∃ t, My.Txt K t

set_option maxRecDepth 100000 in
set_option maxHeartbeats 0 in
theorem PySem.Challenge.cw_LID_holds : PySem.Challenge.rw_LID.Holds := by
  w_on; o_law; k_head; (case hw => w_witness2)
  k_fill
  refine L2.walk_of (l := PySem.Challenge.rw_LID) (n := 63) (k := 40) (x := "script") (CX := fun w => ..) (sp := fun _ => My.sp_law) rfl (by decide) rfl ⟨rfl, by decide, by decide⟩ (fun w h Y => PySem.W.kIn_of Y) ?F ?S ?C
  case F =>
    intro w mg fa h KX G hmg
    have T : ∃ t, My.Txt (L2.KOf KX) t := by
      dsimp only [L2.KOf]                          -- K must stand as «<heap const> w.params» for k_is
      refine' My.txt_mk ?e1 ?e2 ?e3 ..
      (case e1 => PySem.W.k_is)                    -- in the order: a name -> its address -> its object -> its parts
      (case e2 => PySem.W.k_is)
      ..
    obtain ⟨t, T⟩ := T
    have e0 := hmg.symm.trans (PySem.W.mg_of KX G T.law)
    cases e0                                       -- fa is the law's own address
    exact ⟨_, fun s u => .of_eq rfl, fun base kb nb => My.law_fn T kb nb⟩     -- if «.of_eq rfl» comes too early: refine' ⟨_, ?b, fun base kb nb => My.law_fn T kb nb⟩; exact fun s u => .of_eq rfl
  case S => exact fun w H a ns hl hO hS => ..
  case C => exact ..
(the tactic k_is has no namespace: write k_is) -/

/-! SHORT WORDS over the layer: a def of the text, its body, what a loop and a test want. -/
namespace L2
open PySem PySem.Spec PyProof.Rows

/-! ### the text by places -/
/-- the j-th statement of a class's body -/
def inClass (s : Stmt) (j : Nat) : Stmt := match s with
  | .ClassDef _ _ _ body _ _ _ _ _ _ _ => body.getD j (.Pass ⟨0, 0, 0, 0⟩)
  | _ => .Pass ⟨0, 0, 0, 0⟩
def defArgs (s : Stmt) : Arguments := match s with
  | .FunctionDef _ a _ _ _ _ _ _ _ _ => a
  | _ => { posonlyargs := [], args := [], vararg := none, kwonlyargs := [], kw_defaults := [], kwarg := none, defaults := [] }
def defBody (s : Stmt) : List Stmt := match s with
  | .FunctionDef _ _ b _ _ _ _ _ _ _ => b
  | _ => []
def defScope (s : Stmt) : Scope := match s with
  | .FunctionDef _ _ _ _ _ _ sc _ _ _ => sc
  | _ => { kind := .function, names := [], isGenerator := false, isCoroutine := false }

/-! ### no exception leaves a def -/
abbrev CX0 : CXT := fun _ _ _ _ _ _ => False
abbrev E0 : XK := fun _ _ _ => False
theorem pass0 {X : Cx} : Passes CX0 X E0 := fun _ _ _ _ _ _ _ h => h.elim

/-! ### a def (or method) of the text as it stands behind the top -/
structure Fun (K : PySem.W.Frag) (x qual : Str) (st : Stmt) (f : Addr) (fd : FuncData) : Prop where
  ex : ∃ (oc : Value) (od : Option Addr) (kV doc pm : Value) (an : Option Addr) (cdv ct : Value) (osl : Array (Option Value)),
    fd = PySem.W.fnOf x qual (defArgs st) (defBody st) (defScope st) .none kV doc pm an cdv ct ∧ K.lookup f = some ⟨oc, od, .func fd, osl⟩ ∧ PySem.W.codeIn K cdv qual = true
  kp : PySem.W.keepIn K (.ref f) = true
section
variable {P : Program} {w : World} {K : PySem.W.Frag} {mg : Str → Option Value} {base : Heap}
/-- THE RULE for a def: its body as a term of rules, and the reading of that term -/
theorem Fun.ok {x qual : Str} {st : Stmt} {f : Addr} {fd : FuncData} {N ps : List Str} {k : Nat} {sp : Sp} (F : Fun K x qual st f fd) (S : FnScope N ps (defScope st)) (len : ∀ vs H Q E, sp vs H Q E → vs.length = ps.length)
    (hbody : ∀ (cdv : Value) (A : Around) (outer : List Env) (s : Shared) (H : Hp) (vs : List V) (Q : VK) (E : XK), Room k (A.deeper (envOfC qual (defScope st) s.heap.objs.size f cdv)) → sp vs H Q E →
      ∃ t, PSs (cxOf CX0 P w K mg base N qual (defScope st) f cdv A outer s H E).nox (defBody st) t ∧ t { nx := fun _ H' => Q .non H', rt := Q } (start N vs) H) : FnOk P w K mg base CX0 (k + 1) f fd ps sp := by
  obtain ⟨oc, od, kV, doc, pm, an, cdv, ct, osl, rfl, lk, hcd⟩ := F.ex
  refine fn_of lk hcd S len fun A outer s H vs Q E hr hsp => ?_
  obtain ⟨t, h, q⟩ := hbody cdv A outer s H vs Q E hr hsp
  exact ⟨t, h.nox, q⟩
/-- how its arguments bind (no defaults): h is «fun _ _ _ _ _ _ us hl => match us, hl with | [_, _], _ => rfl», one _ a parameter -/
theorem Fun.binds {x qual : Str} {st : Stmt} {f : Addr} {fd : FuncData} {ps : List Str} (F : Fun K x qual st f fd)
    (h : ∀ (kV doc pm : Value) (an : Option Addr) (cdv ct : Value) (us : List Value), us.length = ps.length → bindArgs (PySem.W.fnOf x qual (defArgs st) (defBody st) (defScope st) .none kV doc pm an cdv ct) ⟨us, []⟩ = pure (ps.zip us)) : Binds K fd ps [] := by
  obtain ⟨oc, od, kV, doc, pm, an, cdv, ct, osl, rfl, lk, hcd⟩ := F.ex
  exact .all (h kV doc pm an cdv ct)
theorem fun_mk {x qual : Str} {st : Stmt} {f : Addr} {oc : Value} {od an : Option Addr} {osl : Array (Option Value)} {kV doc pm cdv ct : Value} (l : K.lookup f = some ⟨oc, od, .func (PySem.W.fnOf x qual (defArgs st) (defBody st) (defScope st) .none kV doc pm an cdv ct), osl⟩)
    (c : PySem.W.codeIn K cdv qual = true) (k : PySem.W.keepIn K (.ref f) = true) : Fun K x qual st f (PySem.W.fnOf x qual (defArgs st) (defBody st) (defScope st) .none kV doc pm an cdv ct) := ⟨⟨oc, od, kV, doc, pm, an, cdv, ct, osl, rfl, l, c⟩, k⟩
end
theorem hu_of {A : Around} {k : Nat} (hr : Room k A) : A.units + 1 < cLine := Nat.lt_of_le_of_lt (Nat.add_le_add_left (by decide : 1 ≤ 64) _) hr.units
theorem small1000 {n : Nat} (h : n ≤ 1000) : n < sizeLine := Nat.lt_of_le_of_lt h (by decide)

/-! ### expressions in short: the name that stands in the i-th slot -/
section
variable {X : Cx}
theorem pv (i : Nat) {x : Str} {pos : Pos} (hN : X.N[i]? = some x := by rfl) (hv : Vis X.env.scope x := by first | exact Or.inl rfl | exact Or.inr (Or.inl rfl) | exact Or.inr (Or.inr rfl)) (hd : (x == ("__debug__" : Str)) = false := by decide)
    (hcd : (x == ("__classdict__" : Str)) = false := by decide) : PE X (.Name x pos) (tVar i) := pe_var hN hv hd hcd
end

/-! ### tests -/
theorem iteF {A B : Prop} (h : B) : if false = true then A else B := by
  rw [if_neg Bool.false_ne_true]
  exact h
theorem iteT {A B : Prop} (h : A) : if true = true then A else B := by
  rw [if_pos rfl]
  exact h
theorem ite2 {c A B : Prop} [Decidable c] (h1 : c → A) (h2 : ¬ c → B) : if c then A else B := by
  by_cases h : c
  · rw [if_pos h]
    exact h1 h
  · rw [if_neg h]
    exact h2 h
theorem iteNS {c A B : Prop} [Decidable c] (hc : c) (h : B) : if (!decide c) = true then A else B := by
  rw [decide_eq_true hc]
  exact iteF h

/-! ### heaps -/
/-- all that was tracked is as it was -/
def Same (H H' : Hp) : Prop := ∀ b o, H b = some o → H' b = some o
theorem Same.refl (H : Hp) : Same H H := fun _ _ h => h
theorem Same.trans {H H1 H2 : Hp} (a : Same H H1) (b : Same H1 H2) : Same H H2 := fun c o h => b c o (a c o h)
theorem Same.free {H H' : Hp} (e : Same H H') {l : Addr} (h : H' l = Option.none) : H l = Option.none := by
  cases q : H l with
  | none => rfl
  | some o =>
    rw [e l o q] at h
    cases h
theorem Same.seq {K : PySem.W.Frag} {H H' : Hp} {a : Addr} {xs : List V} (e : Same H H') (h : SqL K H a xs) : SqL K H' a xs := by
  rcases h with (h | ⟨o, h⟩) | h
  · exact .inl (.inl (e _ _ h))
  · exact .inl (.inr ⟨o, e _ _ h⟩)
  · exact .inr h

end L2
set_option maxRecDepth 100000
namespace FW
/-! fractions in lowest terms, over the whole numbers -/
structure Low (a b : Int) : Prop where
  pos : 0 < b
  cop : Int.gcd a b = 1

theorem cop_dvd {x y a b : Int} (h : Int.gcd a b = 1) (hx : x ∣ a) (hy : y ∣ b) : Int.gcd x y = 1 := by
  rw [Int.gcd_eq_one_iff] at h ⊢
  exact fun c h1 h2 => h c (Int.dvd_trans h1 hx) (Int.dvd_trans h2 hy)
theorem cop_mul {x y z : Int} (h1 : Int.gcd x y = 1) (h2 : Int.gcd x z = 1) : Int.gcd x (y * z) = 1 := by
  rw [Int.gcd_mul_right_right_of_gcd_eq_one h1]
  exact h2
theorem cop_mul_left {x y z : Int} (h1 : Int.gcd x z = 1) (h2 : Int.gcd y z = 1) : Int.gcd (x * y) z = 1 := by
  rw [Int.gcd_mul_right_left_of_gcd_eq_one h1]
  exact h2
theorem dvd_of_cop {a b c : Int} (h : Int.gcd a b = 1) (d : a ∣ b * c) : a ∣ c := by
  have h1 : a ∣ ((Int.gcd a b : Nat) : Int) * c := Int.dvd_gcd_mul_iff_dvd_mul.mpr d
  rw [h] at h1
  simpa using h1

/-- two fractions in lowest terms of the same ratio are one -/
theorem Low.uniq {a b c d : Int} (h : Low a b) (k : Low c d) (e : a * d = c * b) : a = c ∧ b = d := by
  have h1 : b ∣ d := dvd_of_cop (a := b) (b := a) (by rw [Int.gcd_comm]; exact h.cop) ⟨c, by rw [e, Int.mul_comm]⟩
  have h2 : d ∣ b := dvd_of_cop (a := d) (b := c) (by rw [Int.gcd_comm]; exact k.cop) ⟨a, by rw [← e, Int.mul_comm]⟩
  have e1 : b = d := by
    have := Int.le_of_dvd k.pos h1
    have := Int.le_of_dvd h.pos h2
    omega
  subst e1
  exact ⟨Int.eq_of_mul_eq_mul_right (by have := h.pos; omega) e, rfl⟩

abbrev g (a b : Int) : Int := ((Int.gcd a b : Nat) : Int)
theorem g_pos {a b : Int} (h : b ≠ 0) : 0 < g a b := by
  have := Int.gcd_pos_of_ne_zero_right a h
  show (0 : Int) < ((Int.gcd a b : Nat) : Int)
  omega
theorem g_step {a b : Int} : Int.gcd b (a % b) = Int.gcd a b := by
  rw [Int.emod_def, Int.gcd_sub_mul_left_right, Int.gcd_comm]

/-- what the law and the program make of two numbers, the second above 0 -/
def low (t b : Int) : Int × Int := (t / g t b, b / g t b)
theorem low_mul {t b : Int} : (low t b).1 * g t b = t ∧ (low t b).2 * g t b = b :=
  ⟨Int.ediv_mul_cancel (Int.gcd_dvd_left ..), Int.ediv_mul_cancel (Int.gcd_dvd_right ..)⟩
theorem low_Low {t b : Int} (h : 0 < b) : Low (low t b).1 (low t b).2 := by
  have gp := g_pos (a := t) (b := b) (by omega)
  refine ⟨?_, ?_⟩
  · have e := (low_mul (t := t) (b := b)).2
    rcases Int.lt_or_le 0 (low t b).2 with q | q
    · exact q
    · have := Int.mul_nonpos_of_nonpos_of_nonneg q (Int.le_of_lt gp)
      omega
  · exact Int.gcd_ediv_gcd_ediv_gcd_of_ne_zero_right (by omega)
theorem low_eq {t b : Int} : (low t b).1 * b = t * (low t b).2 := by
  have e := low_mul (t := t) (b := b)
  generalize (low t b).1 = x at e ⊢
  generalize (low t b).2 = y at e ⊢
  obtain ⟨e1, e2⟩ := e
  calc x * b = x * (y * g t b) := by rw [e2]
    _ = (x * g t b) * y := by rw [Int.mul_comm y, Int.mul_assoc]
    _ = t * y := by rw [e1]
theorem low_of {a b t s : Int} (h : Low a b) (hs : 0 < s) (e : a * s = t * b) : (a, b) = low t s := by
  have k := low_Low (t := t) hs
  have q := low_eq (t := t) (b := s)
  have e2 : a * (low t s).2 = (low t s).1 * b := by
    have e3 : (a * (low t s).2) * s = ((low t s).1 * b) * s := by
      calc (a * (low t s).2) * s = (a * s) * (low t s).2 := by rw [Int.mul_assoc, Int.mul_comm _ s, ← Int.mul_assoc]
        _ = (t * b) * (low t s).2 := by rw [e]
        _ = (t * (low t s).2) * b := by rw [Int.mul_assoc, Int.mul_comm b, ← Int.mul_assoc]
        _ = ((low t s).1 * s) * b := by rw [q]
        _ = ((low t s).1 * b) * s := by rw [Int.mul_assoc, Int.mul_comm s, ← Int.mul_assoc]
    exact Int.eq_of_mul_eq_mul_right (by omega) e3
  obtain ⟨e4, e5⟩ := h.uniq k e2
  exact Prod.ext e4 e5
theorem low_scale {t b c : Int} (hb : 0 < b) (hc : 0 < c) : low (t * c) (b * c) = low t b := by
  have k := low_Low (t := t) hb
  have q := low_eq (t := t) (b := b)
  refine (low_of k (Int.mul_pos hb hc) ?_).symm
  calc (low t b).1 * (b * c) = ((low t b).1 * b) * c := by rw [Int.mul_assoc]
    _ = (t * (low t b).2) * c := by rw [q]
    _ = t * c * (low t b).2 := by rw [Int.mul_assoc, Int.mul_comm _ c, ← Int.mul_assoc]
theorem low_self {a b : Int} (h : Low a b) : low a b = (a, b) := (low_of h h.pos rfl).symm

/-- natAbs facts -/
theorem abs_ediv_le {a b : Int} (h : b ∣ a) : (a / b).natAbs ≤ a.natAbs := by
  obtain ⟨c, rfl⟩ := h
  by_cases hb : b = 0
  · subst hb; simp
  · rw [Int.mul_ediv_cancel_left _ hb, Int.natAbs_mul]
    have : 0 < b.natAbs := by omega
    exact Nat.le_mul_of_pos_left _ this
theorem low_abs (t b : Int) : (low t b).1.natAbs ≤ t.natAbs ∧ (low t b).2.natAbs ≤ b.natAbs :=
  ⟨abs_ediv_le (Int.gcd_dvd_left ..), abs_ediv_le (Int.gcd_dvd_right ..)⟩

/-! the program's own reckonings -/
def plusM (a b c d : Int) : Int × Int :=
  let s := g b d
  let top := a * (d / s) + c * (b / s)
  (top / g top s, b / g top s * (d / s))
theorem plusM_Low {a b c d : Int} (h : Low a b) (k : Low c d) : Low (plusM a b c d).1 (plusM a b c d).2 ∧ (plusM a b c d).1 * (b * d) = (a * d + c * b) * (plusM a b c d).2 := by
  have hb := h.pos
  have hd := k.pos
  have sp : 0 < g b d := g_pos (by omega)
  obtain ⟨b', eb⟩ : g b d ∣ b := Int.gcd_dvd_left ..
  obtain ⟨d', ed⟩ : g b d ∣ d := Int.gcd_dvd_right ..
  have cbd : Int.gcd b' d' = 1 := by
    have q := Int.gcd_ediv_gcd_ediv_gcd_of_ne_zero_right (n := b) (m := d) (by omega)
    have e1 : b / g b d = b' := by
      conv => lhs; lhs; rw [eb]
      exact Int.mul_ediv_cancel_left _ (by omega)
    have e2 : d / g b d = d' := by
      conv => lhs; lhs; rw [ed]
      exact Int.mul_ediv_cancel_left _ (by omega)
    have q' : Int.gcd (b / g b d) (d / g b d) = 1 := q
    rw [e1, e2] at q'
    exact q'
  have eb' : b / g b d = b' := by
    conv => lhs; lhs; rw [eb]
    exact Int.mul_ediv_cancel_left _ (by omega)
  have ed' : d / g b d = d' := by
    conv => lhs; lhs; rw [ed]
    exact Int.mul_ediv_cancel_left _ (by omega)
  generalize hs : g b d = s at *
  have hbp : 0 < b' := by
    rcases Int.lt_or_le 0 b' with q | q
    · exact q
    · have := Int.mul_nonpos_of_nonneg_of_nonpos (Int.le_of_lt sp) q
      omega
  have hdp : 0 < d' := by
    rcases Int.lt_or_le 0 d' with q | q
    · exact q
    · have := Int.mul_nonpos_of_nonneg_of_nonpos (Int.le_of_lt sp) q
      omega
  have e0 : plusM a b c d = ((a * d' + c * b') / g (a * d' + c * b') s, b / g (a * d' + c * b') s * d') := by
    unfold plusM
    simp only [hs, eb', ed']
  rw [e0]
  generalize ht : a * d' + c * b' = top
  have gp : 0 < g top s := g_pos (by omega)
  obtain ⟨t', et⟩ : g top s ∣ top := Int.gcd_dvd_left ..
  obtain ⟨s', es⟩ : g top s ∣ s := Int.gcd_dvd_right ..
  have cts : Int.gcd t' s' = 1 := by
    have q := Int.gcd_ediv_gcd_ediv_gcd_of_ne_zero_right (n := top) (m := s) (by omega)
    have e1 : top / g top s = t' := by
      conv => lhs; lhs; rw [et]
      exact Int.mul_ediv_cancel_left _ (by omega)
    have e2 : s / g top s = s' := by
      conv => lhs; lhs; rw [es]
      exact Int.mul_ediv_cancel_left _ (by omega)
    have q' : Int.gcd (top / g top s) (s / g top s) = 1 := q
    rw [e1, e2] at q'
    exact q'
  have et' : top / g top s = t' := by
    conv => lhs; lhs; rw [et]
    exact Int.mul_ediv_cancel_left _ (by omega)
  have hsp : 0 < s' := by
    rcases Int.lt_or_le 0 s' with q | q
    · exact q
    · have := Int.mul_nonpos_of_nonneg_of_nonpos (Int.le_of_lt gp) q
      omega
  have ebg : b / g top s = s' * b' := by
    have : b = g top s * (s' * b') := by rw [← Int.mul_assoc, ← es]; exact eb
    conv => lhs; lhs; rw [this]
    exact Int.mul_ediv_cancel_left _ (by omega)
  show Low (top / g top s) (b / g top s * d') ∧ (top / g top s) * (b * d) = (a * d + c * b) * (b / g top s * d')
  rw [et', ebg]
  have tdvd : t' ∣ top := ⟨g top s, by rw [Int.mul_comm]; exact et⟩
  have ct_b : Int.gcd top b' = 1 := by
    have h1 : Int.gcd (a * d') b' = 1 := cop_mul_left (cop_dvd h.cop (Int.dvd_refl _) ⟨s, by rw [Int.mul_comm]; exact eb⟩) (by rw [Int.gcd_comm]; exact cbd)
    rw [← ht, Int.gcd_add_mul_right_left]
    exact h1
  have ct_d : Int.gcd top d' = 1 := by
    have h1 : Int.gcd (c * b') d' = 1 := cop_mul_left (cop_dvd k.cop (Int.dvd_refl _) ⟨s, by rw [Int.mul_comm]; exact ed⟩) cbd
    rw [← ht, Int.gcd_mul_right_add_left]
    exact h1
  refine ⟨⟨Int.mul_pos (Int.mul_pos hsp hbp) hdp, ?_⟩, ?_⟩
  · exact cop_mul (cop_mul cts (cop_dvd ct_b tdvd (Int.dvd_refl _))) (cop_dvd ct_d tdvd (Int.dvd_refl _))
  · -- t' * (b * d) = (a * d + c * b) * (s' * b' * d')
    have e1 : a * d + c * b = s * top := by
      calc a * d + c * b = a * (s * d') + c * (s * b') := by rw [← eb, ← ed]
        _ = s * (a * d') + s * (c * b') := by rw [Int.mul_left_comm a, Int.mul_left_comm c]
        _ = s * top := by rw [← Int.mul_add, ht]
    rw [e1]
    calc t' * (b * d) = t' * ((s * b') * (s * d')) := by rw [← eb, ← ed]
      _ = t' * ((g top s * s' * b') * (s * d')) := by rw [← es]
      _ = s * (g top s * t') * (s' * b' * d') := by
        simp only [Int.mul_assoc, Int.mul_left_comm, Int.mul_comm]
      _ = s * top * (s' * b' * d') := by rw [← et]
theorem plusM_low {a b c d : Int} (h : Low a b) (k : Low c d) : plusM a b c d = low (a * d + c * b) (b * d) :=
  let ⟨l, e⟩ := plusM_Low h k
  low_of l (Int.mul_pos h.pos k.pos) e

def timesM (a b c d : Int) : Int × Int := (a / g a d * (c / g c b), b / g c b * (d / g a d))
theorem timesM_low {a b c d : Int} (h : Low a b) (k : Low c d) : timesM a b c d = low (a * c) (b * d) := by
  have hb := h.pos
  have hd := k.pos
  have p1 : 0 < g a d := g_pos (by omega)
  have p2 : 0 < g c b := g_pos (by omega)
  have c1 : Int.gcd (a / g a d) (d / g a d) = 1 := Int.gcd_ediv_gcd_ediv_gcd_of_ne_zero_right (by omega)
  have c2 : Int.gcd (c / g c b) (b / g c b) = 1 := Int.gcd_ediv_gcd_ediv_gcd_of_ne_zero_right (by omega)
  obtain ⟨a', ea⟩ : g a d ∣ a := Int.gcd_dvd_left ..
  obtain ⟨d', ed⟩ : g a d ∣ d := Int.gcd_dvd_right ..
  obtain ⟨c', ec⟩ : g c b ∣ c := Int.gcd_dvd_left ..
  obtain ⟨b', eb⟩ : g c b ∣ b := Int.gcd_dvd_right ..
  have xa : a / g a d = a' := by
    conv => lhs; lhs; rw [ea]
    exact Int.mul_ediv_cancel_left _ (by omega)
  have xd : d / g a d = d' := by
    conv => lhs; lhs; rw [ed]
    exact Int.mul_ediv_cancel_left _ (by omega)
  have xc : c / g c b = c' := by
    conv => lhs; lhs; rw [ec]
    exact Int.mul_ediv_cancel_left _ (by omega)
  have xb : b / g c b = b' := by
    conv => lhs; lhs; rw [eb]
    exact Int.mul_ediv_cancel_left _ (by omega)
  unfold timesM
  rw [xa, xd] at c1
  rw [xc, xb] at c2
  rw [xa, xd, xc, xb]
  generalize g a d = f at *
  generalize g c b = z at *
  have hbp : 0 < b' := by
    rcases Int.lt_or_le 0 b' with q | q
    · exact q
    · have := Int.mul_nonpos_of_nonneg_of_nonpos (Int.le_of_lt p2) q
      omega
  have hdp : 0 < d' := by
    rcases Int.lt_or_le 0 d' with q | q
    · exact q
    · have := Int.mul_nonpos_of_nonneg_of_nonpos (Int.le_of_lt p1) q
      omega
  refine low_of ⟨Int.mul_pos hbp hdp, ?_⟩ (Int.mul_pos hb hd) ?_
  · refine cop_mul (cop_mul_left ?_ c2) (cop_mul_left c1 ?_)
    · exact cop_dvd h.cop ⟨f, by rw [Int.mul_comm]; exact ea⟩ ⟨z, by rw [Int.mul_comm]; exact eb⟩
    · exact cop_dvd k.cop ⟨z, by rw [Int.mul_comm]; exact ec⟩ ⟨f, by rw [Int.mul_comm]; exact ed⟩
  · calc a' * c' * (b * d) = a' * c' * ((z * b') * (f * d')) := by rw [← eb, ← ed]
      _ = (f * a') * (z * c') * (b' * d') := by simp only [Int.mul_assoc, Int.mul_left_comm, Int.mul_comm]
      _ = a * c * (b' * d') := by rw [← ea, ← ec]

/-- a fraction that is W over S -/
structure IsQ (p : Int × Int) (W S : Int) : Prop where
  lo : Low p.1 p.2
  eq : p.1 * S = W * p.2
theorem IsQ.low {p : Int × Int} {W S : Int} (h : IsQ p W S) (hs : 0 < S) : p = low W S := low_of h.lo hs h.eq
theorem IsQ.of {a b S : Int} (h : Low a b) (d : b ∣ S) : IsQ (a, b) (a * (S / b)) S :=
  ⟨h, by
    show a * S = a * (S / b) * b
    rw [Int.mul_assoc, Int.ediv_mul_cancel d]⟩
theorem IsQ.zero {S : Int} : IsQ (0, 1) 0 S := ⟨⟨by decide, by decide⟩, by simp⟩
theorem IsQ.plus {p q : Int × Int} {W V S : Int} (h : IsQ p W S) (k : IsQ q V S) : IsQ (plusM p.1 p.2 q.1 q.2) (W + V) S := by
  obtain ⟨l, e⟩ := plusM_Low h.lo k.lo
  refine ⟨l, ?_⟩
  generalize plusM p.1 p.2 q.1 q.2 = r at l e ⊢
  have hb := h.lo.pos
  have hd := k.lo.pos
  have e1 := h.eq
  have e2 := k.eq
  generalize p.1 = a at *
  generalize p.2 = b at *
  generalize q.1 = c at *
  generalize q.2 = d at *
  have e3 : (r.1 * S) * (b * d) = ((W + V) * r.2) * (b * d) := by
    calc (r.1 * S) * (b * d) = (r.1 * (b * d)) * S := by simp only [Int.mul_assoc, Int.mul_left_comm, Int.mul_comm]
      _ = ((a * d + c * b) * r.2) * S := by rw [e]
      _ = ((a * S) * d + (c * S) * b) * r.2 := by simp only [Int.mul_assoc, Int.mul_left_comm, Int.mul_comm, Int.mul_add, Int.add_mul]
      _ = ((W * b) * d + (V * d) * b) * r.2 := by rw [e1, e2]
      _ = ((W + V) * r.2) * (b * d) := by simp only [Int.mul_assoc, Int.mul_left_comm, Int.mul_comm, Int.mul_add, Int.add_mul]
  exact Int.eq_of_mul_eq_mul_right (by have := Int.mul_pos hb hd; omega) e3
theorem IsQ.neg {p : Int × Int} {W S : Int} (h : IsQ p W S) : IsQ (-p.1, p.2) (-W) S :=
  ⟨⟨h.lo.pos, by show Int.gcd (-p.1) p.2 = 1; rw [Int.neg_gcd]; exact h.lo.cop⟩, by show -p.1 * S = -W * p.2; rw [Int.neg_mul, Int.neg_mul, h.eq]⟩
theorem IsQ.times {p q : Int × Int} {W V S T : Int} (h : IsQ p W S) (k : IsQ q V T) (hS : 0 < S) (hT : 0 < T) : IsQ (timesM p.1 p.2 q.1 q.2) (W * V) (S * T) := by
  have e := timesM_low h.lo k.lo
  have l := low_Low (t := p.1 * q.1) (Int.mul_pos h.lo.pos k.lo.pos)
  have f := low_eq (t := p.1 * q.1) (b := p.2 * q.2)
  rw [← e] at l f
  refine ⟨l, ?_⟩
  generalize timesM p.1 p.2 q.1 q.2 = r at l f ⊢
  have hb := h.lo.pos
  have hd := k.lo.pos
  have e1 := h.eq
  have e2 := k.eq
  generalize p.1 = a at *
  generalize p.2 = b at *
  generalize q.1 = c at *
  generalize q.2 = d at *
  have e3 : (r.1 * (S * T)) * (b * d) = ((W * V) * r.2) * (b * d) := by
    calc (r.1 * (S * T)) * (b * d) = (r.1 * (b * d)) * (S * T) := by simp only [Int.mul_assoc, Int.mul_left_comm, Int.mul_comm]
      _ = (a * c * r.2) * (S * T) := by rw [f]
      _ = ((a * S) * (c * T)) * r.2 := by simp only [Int.mul_assoc, Int.mul_left_comm, Int.mul_comm]
      _ = ((W * b) * (V * d)) * r.2 := by rw [e1, e2]
      _ = ((W * V) * r.2) * (b * d) := by simp only [Int.mul_assoc, Int.mul_left_comm, Int.mul_comm]
  exact Int.eq_of_mul_eq_mul_right (by have := Int.mul_pos hb hd; omega) e3
theorem IsQ.abs {p : Int × Int} {W S : Int} (h : IsQ p W S) (hs : 0 < S) : p.1.natAbs ≤ W.natAbs ∧ p.2.natAbs ≤ S.natAbs := by
  rw [h.low hs]
  exact low_abs W S
end FW
/-! ### own words over the layer, 0: a def of the text by its name; heaps; the script's ints are of at most 2 ^ 20 bits -/
namespace L2
open PySem PySem.Spec PyProof.Rows
/-- a def of the text as it stands behind the top, under its own name -/
structure FnAt (K : PySem.W.Frag) (mg : Str → Option Value) (x : Str) (st : Stmt) (ps : List Str) (f : Addr) (fd : FuncData) : Prop where
  F : Fun K x x st f fd
  b : Binds K fd ps []
  m : mg x = some (.ref f)
theorem Same.upd {H : Hp} {p : Addr} {o : HO} (h : H p = Option.none) : Same H (upd H p o) := fun b u e => by
  rw [upd_ne (ne_of_none e h)]
  exact e
theorem Same.updR {H H' : Hp} {p : Addr} {o : HO} (e : Same H H') (h : H' p = Option.none) : Same H (L2.upd H' p o) := e.trans (.upd h)
theorem Same.tup {K : PySem.W.Frag} {H H' : Hp} {a : Addr} {xs : List V} (e : Same H H') (h : SqT K H a xs) : SqT K H' a xs := by
  rcases h with (h | ⟨o, h⟩) | h
  · exact .inl (.inl (e _ _ h))
  · exact .inl (.inr ⟨o, e _ _ h⟩)
  · exact .inr h
theorem iteBB {c : Bool} {A B : Prop} (h1 : c = true → A) (h2 : c = false → B) : if c = true then A else B := by
  cases c with
  | true => exact iteT (h1 rfl)
  | false => exact iteF (h2 rfl)
theorem hu0 {A : Around} {k : Nat} (hr : Room k A) : A.units < cLine := hr.units0
theorem two_le : (2 : Nat) ≤ sizeLine := by decide

/-- an int of less than 2 ^ 2000 -/
def Sm (x : Int) : Prop := x.natAbs < 2 ^ 2000
theorem Sm.bits {x : Int} (h : Sm x) : Builtin.Int.intBits x ≤ 2000 := intBits_le h
theorem Sm.mul {x y : Int} (h : Sm x) (k : Sm y) : IntMulOk x y := mulOk_of_bits h.bits k.bits (by decide)
theorem log2_lt {n k : Nat} (h : n < 2 ^ k) (hk : 0 < k) : n.log2 < k := by
  rcases Nat.eq_zero_or_pos n with h0 | hp
  · subst h0
    simpa using hk
  · exact (Nat.log2_lt (by omega)).mpr h
theorem Sm.log {x : Int} (h : Sm x) : x.natAbs.log2 < 9000 := Nat.lt_of_lt_of_le (log2_lt h (by decide)) (by decide)
theorem Sm.le {x y : Int} (h : Sm y) (k : x.natAbs ≤ y.natAbs) : Sm x := Nat.lt_of_le_of_lt k h
end L2

namespace Att
open PySem PySem.W PySem.Calls PyProof.Rows
theorem weight_mem : ∀ {ns : List Int} {n : Int}, n ∈ ns → WData.weight (.int n) ≤ WData.weightAll (ns.map WData.int)
  | m :: r, n, h => by
    show WData.weight (.int n) ≤ WData.weight (.int m) + 1 + WData.weightAll (r.map WData.int)
    rcases List.mem_cons.mp h with e | e
    · subst e
      omega
    · have := weight_mem (ns := r) e
      omega
theorem bits_of_lay {ns : List Int} (h : WData.layableAll [WData.list (ns.map WData.int)] = true) : ∀ n ∈ ns, Builtin.Int.intBits n ≤ 2 ^ 20 := by
  intro n hn
  have h1 : (WData.list (ns.map WData.int)).layable = true := (layW_cons h).1
  have h2 : WData.weight (WData.list (ns.map WData.int)) ≤ 2 ^ 20 := of_decide_eq_true (Bool.and_eq_true_iff.mp h1).2
  have h3 : WData.weightAll (ns.map WData.int) ≤ 2 ^ 20 := by simpa only [WData.weight] using h2
  have h4 := weight_mem hn
  have h5 : WData.weight (.int n) ≤ 2 ^ 20 := Nat.le_trans h4 h3
  simpa only [WData.weight, Builtin.Int.intBits] using h5
/-- attach_call, with the bound of the script's ints -/
theorem attach_callB {l : OpenLaw} {n : Nat} {q : Program} {loose : List Str} {XP : (Str → Option Value) → Heap → Prop} {YP : World → Heap → Prop} {d : DefRec}
    (hn : l.most = some n) (hdf : d.params.defaults = [])
    (call : ∀ (w : World) (s₀ s₁ : Shared) (mg mb : Str → Option Value) (fa : Addr) (a : Addr) (vs : List Value) (ns : List Int),
      Ground q loose [] XP w s₀ mg mb s₁.heap → YP w s₁.heap → mg d.name = some (.ref fa) →
      s₁.heap.get? a = some { cls := .type "list", data := .seq vs.toArray } → IntsAre vs ns → ns.length ≤ n → (∀ x ∈ ns, Builtin.Int.intBits x ≤ 2 ^ 20) → s₁.gens = #[] →
      codeAny (model l.prog w) callerA (.call (.ref fa) ⟨[.ref a], []⟩) (fun r s' => r = .ok (.ret (.bool true)) ∧ OldK s₁.heap s'.heap ∧ s'.os = s₁.os ∧ AllBare s'.gens) s₁) :
    WalkO q loose XP YP l.row.toRowW d [] (fun f vs => PySem.call f vs) := by
  intro w s₀ s₁ mg mb G Y fa o pm cd doc dV kV ho hd hcd hD hmg hg args vals as hpre hlay hrd hwl hlo
  obtain rfl : dV = .none := Dflts.none hD hdf
  obtain rfl : kV = .none := Dflts.noKw hD
  obtain ⟨a, vs, ns, rfl, rfl, hobj, hints, hlen⟩ := script_of hn hpre hwl
  refine enter_call (codeAny_mono (call w s₀ s₁ mg mb fa a vs ns G Y hmg hobj hints hlen (bits_of_lay hlay) hg) fun r s' hq => ?_)
  obtain ⟨rfl, h2, h3, h4⟩ := hq
  exact ⟨.inl ⟨.bool true, .bool true, [], rfl, fun _ => rfl, .bool true, post_true l _, fun _ => ⟨List.Pairwise.nil, fun _ hm => (nomatch hm)⟩⟩, h2, h3, h4⟩
end Att
namespace L2
open PySem PySem.Spec PyProof.Rows
theorem walk_ofB {l : PySem.W.OpenLaw} {n k : Nat} {q : Program} {loose : List Str} {XP : (Str → Option Value) → Heap → Prop} {YP : World → Heap → Prop} {d : DefRec} {K : Params → PySem.W.Frag} {CX : World → CXT} {sp : World → Sp} {x : Str}
    (hn : l.most = some n) (hn2 : n ≤ sizeLine) (hdf : d.params.defaults = []) (hr : Room k callerA)
    (hY : ∀ (w : World) (h : Heap), YP w h → (K w.params).In h)
    (F : ∀ (w : World) (mg : Str → Option Value) (fa : Addr) (h : Heap), (K w.params).In h → h.Ns mainGlobals mg → mg d.name = some (.ref fa) →
      ∃ fd : FuncData, (∀ (s : Shared) (u : Value), BindsTo s fd ⟨[u], []⟩ [(x, u)]) ∧
        ∀ base : Heap, (K w.params).In base → base.Ns mainGlobals mg → FnOk l.prog w (K w.params) mg base (CX w) k fa fd [x] (sp w))
    (hsp : ∀ (w : World) (H : Hp) (a : Addr) (ns : List Int), ns.length ≤ n → (∀ x ∈ ns, Builtin.Int.intBits x ≤ 2 ^ 20) → Only H → SqL (K w.params) H a (ns.map V.int) → sp w [.ref a] H (fun v _ => v = .bl true) fun _ _ _ => False)
    (hCX : ∀ (w : World) (H : Hp) (s : Shared) (e : Value) (s' : Shared), CX w [] H s (fun _ _ _ => False) e s' → False) :
    PySem.W.WalkO q loose XP YP l.row.toRowW d [] (fun f vs => PySem.call f vs) := by
  refine Att.attach_callB hn hdf fun w s₀ s₁ mg mb fa a vs ns G Y hmg hobj hints hlen hbits hg => ?_
  have KX := hY w _ Y
  obtain ⟨fd, hb, hF⟩ := F w mg fa _ KX G.T.g hmg
  exact law_call KX G.T.g G.T.b G.T.builtins G.T.nolimit hg hobj hints (Nat.le_trans hlen hn2) hr hF hb (fun H hO hS => hsp w H a ns hlen hbits hO hS) fun H e s' => hCX w H s₁ e s'
/-- a def by what the top has written -/
theorem fnAt_mk {K : PySem.W.Frag} {mg : Str → Option Value} {h : Heap} {x : Str} {st : Stmt} {ps : List Str} {f : Addr} {oc : Value} {od an : Option Addr} {osl : Array (Option Value)} {kV doc pm cdv ct : Value} (X : K.In h) (G : h.Ns mainGlobals mg)
    (a : PySem.W.nsIn K mainGlobals x = some (some (.ref f)))
    (l : K.lookup f = some ⟨oc, od, .func (PySem.W.fnOf x x (defArgs st) (defBody st) (defScope st) .none kV doc pm an cdv ct), osl⟩)
    (c : PySem.W.codeIn K cdv x = true) (k : PySem.W.keepIn K (.ref f) = true)
    (b : ∀ (kV doc pm : Value) (an : Option Addr) (cdv ct : Value) (us : List Value), us.length = ps.length → bindArgs (PySem.W.fnOf x x (defArgs st) (defBody st) (defScope st) .none kV doc pm an cdv ct) ⟨us, []⟩ = pure (ps.zip us)) :
    FnAt K mg x st ps f (PySem.W.fnOf x x (defArgs st) (defBody st) (defScope st) .none kV doc pm an cdv ct) :=
  ⟨fun_mk l c k, (fun_mk l c k).binds b, PySem.W.mg_of X G a⟩
end L2
/-! ### own rules over the layer, 1: great numbers, isinstance, equal tuples of numbers, comprehensions -/
namespace L2
open PySem PySem.Spec PyProof.Rows
section
variable {X : Cx}
theorem op_mulB : OpR X (binaryOp .Mult) (rI IntMulOk fun i j => .int (i * j)) := opI fun _ _ _ _ _ _ _ hc q => mul_int q hc
def CDivP (_ j : Int) : Prop := 0 < j ∧ j.natAbs.log2 < 9000
theorem op_fdivP : OpR X (binaryOp .FloorDiv) (rI CDivP fun i j => .int (i / j)) := opI fun i j _ _ _ _ _ hc q => by
  have h0 : (0 : Int) < j := hc.1
  refine floordiv_int (by omega) ?_ (.inl (PyProof.noPylong_of_log2 hc.2))
  rw [Int.fdiv_eq_ediv_of_nonneg _ (Int.le_of_lt h0)]
  exact q
def CDivB (_ j : Int) : Prop := j ≠ 0 ∧ j.natAbs.log2 < 9000
theorem op_fdivB : OpR X (binaryOp .FloorDiv) (rI CDivB fun i j => .int (i.fdiv j)) := opI fun _ _ _ _ _ _ _ hc q => floordiv_int hc.1 q (.inl (PyProof.noPylong_of_log2 hc.2))

/-! isinstance -/
def rIsi (K : PySem.W.Frag) : List V → Hp → VK → Prop := fun xs H Q => ∃ x n t b, xs = [x, .ty n] ∧ TyOf K H x t ∧ PySem.W.kitOne K t (.type n) = some b ∧ Q (.bl b) H
theorem call_isi : CallR X (.builtin "isinstance") (rIsi X.K) := by
  intro pins s σ H xs us Q I r h
  obtain ⟨x, n, t, b, rfl, ty, e, q⟩ := h
  obtain ⟨u, w', rfl, r1, r2⟩ := vals2 r
  cases (show w' = Value.type n from r2)
  exact isinst_ok I r1 ty e fun tk => ⟨.bl b, H, I.tok tk, rfl, q⟩
def rIsiC (K : PySem.W.Frag) : List V → Hp → VK → Prop := fun xs H Q => ∃ x C t b, xs = [x, .ref C] ∧ TyOf K H x t ∧ PySem.W.kitOne K t (.ref C) = some b ∧ Q (.bl b) H
theorem call_isiC : CallR X (.builtin "isinstance") (rIsiC X.K) := by
  intro pins s σ H xs us Q I r h
  obtain ⟨x, n, t, b, rfl, ty, e, q⟩ := h
  obtain ⟨u, w', rfl, r1, r2⟩ := vals2 r
  cases (show w' = Value.ref n from r2)
  exact isinst_ok I r1 ty e fun tk => ⟨.bl b, H, I.tok tk, rfl, q⟩

/-! tuples of numbers are equal where the numbers are -/
theorem all_eq_map : ∀ (ns ms : List Int), ns.length = ms.length → ((List.range ns.length).all fun j => ns.getD j 0 == ms.getD j 0) = decide (ns = ms) := by
  intro ns ms hl
  rw [Bool.eq_iff_iff, List.all_eq_true, decide_eq_true_iff]
  constructor
  · intro h
    refine List.ext_getElem hl fun i h1 h2 => ?_
    have := h i (List.mem_range.mpr h1)
    simpa [List.getD_eq_getElem?_getD, h1, h2] using this
  · rintro rfl j _
    simp
def rEqT (K : PySem.W.Frag) : R2 := fun x y H Q => ∃ (a b : Addr) (ns ms : List Int), x = .ref a ∧ y = .ref b ∧ SqT K H a (ns.map V.int) ∧ SqT K H b (ms.map V.int) ∧ Q (.bl (decide (ns = ms))) H
theorem eqAt_ints {A : Around} {s : Shared} {its : List Value} {ns : List Int} {its2 : List Value} {ms : List Int} (i1 : IntsAre its ns) (i2 : IntsAre its2 ms) (j : Nat) (h1 : j < its.toArray.size) (h2 : j < its2.toArray.size) :
    SeqAt.EqAt A s its.toArray[j] its2.toArray[j] (ns.getD j 0 == ms.getD j 0) := by
  have k1 : ∀ {its : List Value} {ns : List Int}, IntsAre its ns → ∀ j (h : j < its.length), ∃ t, its[j] = Value.int (ns.getD j 0) t := by
    intro its ns i
    induction i with
    | nil => intro j h; exact absurd h (Nat.not_lt_zero _)
    | cons n t i ih =>
      intro j h
      cases j with
      | zero => exact ⟨t, rfl⟩
      | succ j =>
        obtain ⟨t', e⟩ := ih j (by simpa using h)
        exact ⟨t', by simpa using e⟩
  obtain ⟨t, e1⟩ := k1 i1 j (by simpa using h1)
  obtain ⟨u, e2⟩ := k1 i2 j (by simpa using h2)
  have e1' : its.toArray[j] = Value.int (ns.getD j 0) t := by simpa using e1
  have e2' : its2.toArray[j] = Value.int (ms.getD j 0) u := by simpa using e2
  rw [e1', e2']
  exact SeqAt.EqAt.int_int _ _ _ _
theorem op_eqT (hu : X.A.units < cLine) : OpR X (compareOp .Eq) (rEqT X.K) := by
  intro pins s σ H x y v u Q I rx ry h
  obtain ⟨a, b, ns, ms, rfl, rfl, ha, hb, q⟩ := h
  cases rx
  cases ry
  obtain ⟨its, r1, p1, _⟩ := I.tuple ha
  obtain ⟨its2, r2, p2, _⟩ := I.tuple hb
  have i1 : IntsAre its ns := intsAre_of r1
  have i2 : IntsAre its2 ms := intsAre_of r2
  refine SeqAt.eq_tupleAt (e := fun j => ns.getD j 0 == ms.getD j 0) p1 p2 hu (fun j h1 h2 => eqAt_ints i1 i2 j h1 h2) ?_
  refine ⟨.bl (decide (ns = ms)), H, I, ?_, q⟩
  show Value.bool _ = Value.bool _
  congr 1
  have l1 : its.toArray.size = ns.length := by rw [List.size_toArray]; exact i1.length
  have l2 : its2.toArray.size = ms.length := by rw [List.size_toArray]; exact i2.length
  rw [l1, l2]
  by_cases hl : ns.length = ms.length
  · rw [hl, Nat.min_self, ← hl, all_eq_map ns ms hl]
    simp [hl]
  · have : ¬ ns = ms := fun z => hl (by rw [z])
    rw [decide_eq_false this]
    simp [hl]
end

/-! ### a list comprehension of one clause: its block is a context of its own -/
def cCx (X : Cx) (scope : Scope) (cl : List (Str × Addr)) (C : Addr) (Nc : List Str) (s : Shared) (H : Hp) (fp : List Addr) : Cx where
  prog := X.prog
  w := X.w
  K := X.K
  mg := X.mg
  base := X.base
  A := X.A
  N := Nc
  s₀ := s
  H₀ := H
  env := compEnvC scope cl C X.env
  outer := X.stack
  stack := X.stack
  ex := fp
  fn := fun _ => false
  calm := X.calm
  pn := []
  xe := fun _ _ => False
/-- the tests of a clause -/
def PTs (X : Cx) (ifs : List Expr) (t : TT) : Prop :=
  ∀ (pins : List (Addr × Obj)) (s : Shared) (σ : St) (H : Hp) (Q : Bool → Hp → Prop), Inv X pins σ H s → t σ H Q →
    wpAny (model X.prog X.w) X.A (forIn ifs true fun c r => if r = true then do let ok ← isTrue c X.env (eval c X.env); pure (ForInStep.yield ok) else pure (ForInStep.yield r)) (TP X pins σ Q) X.xe s
def tTrue : TT := fun _ H Q => Q true H
theorem pts_nil {X : Cx} : PTs X [] tTrue := fun _ _ _ H _ I h => wpAny_tests_nil ⟨H, I, h⟩
theorem pts_one {X : Cx} {c : Expr} {t : TT} (h : PT X c t) : PTs X [c] t := fun pins s σ H Q I q => wpAny_tests_one (h pins s σ H Q I q)

theorem comp_loop0 {prog : Program} {w : World} {A : Around} {R : Result → Shared → Prop} {s : Shared} {elt target iter : Expr} {ifs : List Expr} {scope : Scope} {pos : Pos} {it acc : Value} {env : Env} (I : Nat → Shared → Prop)
    (turn : ∀ n s, I n s → wpAny (model prog w) A (pyNext it) (fun r s₁ => match r with
      | none => R (.ok .next) s₁
      | some v => wpAny (model prog w) A (letOwnedTupleGo target it v) (fun _ s₂ => wpAny (model prog w) A (assign target env v) (fun _ s₃ =>
          wpAny (model prog w) A (forIn ifs true fun c r => if r = true then do let ok ← isTrue c env (eval c env); pure (ForInStep.yield ok) else pure (ForInStep.yield r)) (fun ok s₄ =>
            if ok = true then wpAny (model prog w) A (eval elt env) (fun x s₅ =>
              wpAny (model prog w) A (call (.builtin "list.append") [acc, x]) (fun _ s₆ => ∃ m, m < n ∧ I m s₆) (fun _ _ => False) s₅) (fun _ _ => False) s₄
            else ∃ m, m < n ∧ I m s₄) (fun _ _ => False) s₃) (fun _ _ => False) s₂) (fun _ _ => False) s₁) (fun _ _ => False) s)
    (n : Nat) (h : I n s) :
    codeAny (model prog w) A (.compLoop (.ListComp elt [⟨target, iter, ifs, 0⟩] scope pos) 0 it acc env) R s := by
  refine codeAny_loop rfl I (fun n s hI => ?_) n h
  show wpAny _ A ((compTurn (.ListComp elt [⟨target, iter, ifs, 0⟩] scope pos) 0 it acc env).onRaise (fun x => do noteFrame x env; theTreesLotGoes x)) _ _ s
  refine wpAny_noted ?_
  rw [compTurn_list]
  refine wpAny_bind (wpAny_standAt (wpAny_bind (wpAny_mono (turn n s hI) (fun r s₁ h₁ => ?_) fun _ _ h' => h'.elim)))
  cases r with
  | none => exact wpAny_pure h₁
  | some v =>
    refine wpAny_bind (wpAny_mono h₁ (fun _ s₂ h₂ => wpAny_bind (wpAny_mono h₂ (fun _ s₃ h₃ => wpAny_bind (wpAny_mono h₃ (fun ok s₄ h₄ => ?_) fun _ _ h' => h'.elim)) fun _ _ h' => h'.elim)) fun _ _ h' => h'.elim)
    cases ok with
    | false => exact wpAny_pure ⟨rfl, h₄⟩
    | true =>
      exact wpAny_bind (wpAny_bind (wpAny_mono h₄ (fun x s₅ h₅ => wpAny_bind (wpAny_mono h₅ (fun _ s₆ h₆ => wpAny_pure (wpAny_pure ⟨rfl, h₆⟩)) fun _ _ h' => h'.elim)) fun _ _ h' => h'.elim))

/-- the reading: W, the invariant by turn, measure, the block's slots, the list so far, heap -/
def CompW (J : It) (g : TG) (tt : TT) (te : TE) (σ0 : St) (Q : VK) (D : Addr) (H1 : Hp) : Prop :=
  ∃ W : Nat → Nat → St → List V → Hp → Prop, (∃ m, W 0 m σ0 [] H1) ∧ ∀ i m σ2 ys H2, W i m σ2 ys H2 → H2 D = some (.lst ys) ∧ ys.length < sizeLine ∧
    ((J.stop i H2 ∧ Q (.ref D) H2) ∨ (J.go i H2 ∧ ∀ x H3, J.yld i H2 x H3 → g x σ2 H3 fun σ4 H4 => tt σ4 H4 fun b H5 =>
      if b = true then te σ4 H5 fun v H6 => H6 D = some (.lst ys) ∧ ∃ m', m' < m ∧ W (i + 1) m' σ4 (ys ++ [v]) (upd H6 D (.lst (ys ++ [v])))
      else ∃ m', m' < m ∧ W (i + 1) m' σ4 ys H5))
def tComp (wi : TI) (g : TG) (tt : TT) (te : TE) (σc : St → St) : TE := fun σ H Q => wi σ H fun J H1 => ∀ D, H1 D = none → CompW J g tt te (σc σ) Q D (upd H1 D (.lst []))

/-- what the block takes from the frame around -/
structure Caps (X : Cx) (scope : Scope) (cl : List (Str × Addr)) (Nc : List Str) (σc : St → St) : Prop where
  clos : closureFor scope X.env = pure cl
  kind : scope.kind = .function
  nocell : ∀ y ∈ scope.names, y.2 ≠ .cell
  names : ∀ y ∈ scope.names, y.2 = .local → scope.names.lookup y.1 = some .local
  cells : ∀ x c, cl.lookup x = some c → X.env.cells.lookup x = some c
  has : ∀ x, ((relabel scope X.env).names.lookup x = some .cell ∨ (relabel scope X.env).names.lookup x = some .free) → ∃ c, cl.lookup x = some c
  len : ∀ σ, (σc σ).length = Nc.length
  cap : ∀ σ (i : Nat) x v, Nc[i]? = some x → (σc σ)[i]? = some (some v) → Vis (relabel scope X.env) x →
    ((relabel scope X.env).names.lookup x = some .cell ∨ (relabel scope X.env).names.lookup x = some .free) ∧
    (X.env.kindOf x = some .cell ∨ X.env.kindOf x = some .free) ∧ ∃ j : Nat, X.N[j]? = some x ∧ σ[j]? = some (some v) ∧ Vis X.env.scope x

section
variable {X : Cx} {tg iter elt : Expr} {ifs : List Expr} {scope : Scope} {cl : List (Str × Addr)} {Nc : List Str} {σc : St → St} {pos : Pos} {wi : TI} {g : TG} {tt : TT} {te : TE}

theorem cCx_ok {pins : List (Addr × Obj)} {σ : St} {H : Hp} {s : Shared} {fp : List Addr} {C : Addr} (I : Inv X pins σ H s) (c : Caps X scope cl Nc σc) (hC : s.heap.objs.size ≤ C) (hf : ∀ b ∈ fp, FpOk X pins H b) (hlt : ∀ b ∈ fp, b < s.heap.objs.size) :
    (cCx X scope cl C Nc s H fp).Ok where
  mod := I.ok.mod
  kind := c.kind
  glob := I.ok.glob
  blt := I.ok.blt
  above := hC
  inj := fun x y a h1 h2 => I.ok.inj x y a (c.cells x a h1) (c.cells y a h2)
  has := c.has
  cab := fun _ _ h _ => absurd (show false = true from h) Bool.false_ne_true
  hd := I.ok.hd
  frames := I.ok.frames
  stk := .inl rfl
  exf := fun b hb => ⟨fun z => absurd (Nat.lt_of_lt_of_le (hlt b hb) hC) (by
      have z' : b = C := z
      rw [z']
      exact Nat.lt_irrefl _), fun x a h z => (hf b hb).2.2.2.2.1 x a (c.cells x a h) z⟩
  bs := I.bs
  bsz := Nat.le_trans I.ok.bsz I.sz
  noex := fun b o e hb => by
    rcases (hf b hb).2.2.2.1 with z | z
    · exact I.ok.noex b o e z
    · exact absurd (Nat.lt_of_lt_of_le (Heap.lt_size e) (Nat.le_trans I.ok.bsz z)) (Nat.lt_irrefl _)
  exfs := fun b hb z => by
    rcases List.mem_cons.mp (I.stkSub b z) with q | q
    · exact (hf b hb).2.1 q
    · exact (hf b hb).2.2.1 q
  funs := I.stack
  frf := I.stkFree

theorem cCx_inv {pins : List (Addr × Obj)} {σ : St} {H : Hp} {s : Shared} {fp : List Addr} {C : Addr} {h' : Heap} {t' : Nat} {m : Str → Option Value} (I : Inv X pins σ H s) (c : Caps X scope cl Nc σc) (hC : s.heap.objs.size ≤ C)
    (hf : ∀ b ∈ fp, FpOk X pins H b) (hlt : ∀ b ∈ fp, b < s.heap.objs.size) (hk : ∀ b o, s.heap.get? b = some o → h'.get? b = some o) (hn : h'.Ns C m) :
    Inv (cCx X scope cl C Nc s H fp) [] (σc σ) H { s with heap := h', toks := t' } := by
  refine ⟨cCx_ok I c hC hf hlt, rfl, I.bare, Un.kept hk, ⟨m, hn, fun i x v e1 e2 e3 => ?_⟩, fun x a h => ?_, I.hok.fresh hC, fun x a h => I.freeC x a (c.cells x a h), fun p hp => absurd (show p ∈ ([] : List (Addr × Obj)) from hp) (by simp), I.hok.kept hk, c.len σ⟩
  · obtain ⟨k1, k2, j, n1, n2, n3⟩ := c.cap σ i x v e1 e2 e3
    obtain ⟨m0, _, hl⟩ := I.loc
    obtain ⟨u, ru, lk⟩ := hl j x v n1 n2 n3
    refine ⟨u, ru, .inr ⟨k1, ?_⟩⟩
    rcases lk with ⟨z, _⟩ | ⟨_, a, ha, hcell⟩
    · rcases k2 with k2 | k2 <;> rw [k2] at z <;> cases z
    · obtain ⟨a', ha'⟩ := c.has x k1
      have e := c.cells x a' ha'
      rw [ha] at e
      cases e
      obtain ⟨o, ho, hd⟩ := hcell
      exact ⟨a, ha', ⟨o, hk _ _ ho, hd⟩⟩
  · obtain ⟨v, o, ho, hd⟩ := I.cell x a (c.cells x a h)
    exact ⟨v, o, hk _ _ ho, hd⟩

/-- the block runs -/
theorem comp_block {pins : List (Addr × Obj)} {σ : St} {H : Hp} {s : Shared} {Q : VK} {J : It} {fp : List Addr} {it : Addr} {tn : Nat → Heap → Prop} {RR : Value → Addr → Result → Shared → Prop} {E : Value → Shared → Prop}
    (hc : X.calm = true) (c : Caps X scope cl Nc σc)
    (hg : ∀ C s H fp, PG (cCx X scope cl C Nc s H fp) tg g) (ht : ∀ C s H fp, PTs (cCx X scope cl C Nc s H fp) ifs tt) (he : ∀ C s H fp, PE (cCx X scope cl C Nc s H fp) elt te)
    (I : Inv X pins σ H s) (T : Turn X.prog X.w X.K tg J fp it tn) (st : tn 0 s.heap) (hf : ∀ b ∈ fp, FpOk X pins H b)
    (h : ∀ D, H D = none → CompW J g tt te (σc σ) Q D (upd H D (.lst [])))
    (hRR : ∀ D C H' s' m, Inv X pins σ H' s' → H' C = none → s.heap.objs.size ≤ C → s'.heap.Ns C m → Q (.ref D) H' → RR (.ref D) C (.ok .next) s') :
    wpAny (model X.prog X.w) X.A (newList []) (fun acc s₃ => wpAny (model X.prog X.w) X.A (newFunctionEnv scope X.env.globals cl [] X.env.qual none .none (some X.env)) (fun cenv s₄ =>
      codeAny (model X.prog X.w) X.A (.compStart (.ListComp elt [⟨tg, iter, ifs, 0⟩] scope pos) 0 (.ref it) acc { cenv with scope := relabel scope X.env }) (RR acc cenv.locals) s₄) E s₃) E s := by
  have fit : ∀ b ∈ fp, b < s.heap.objs.size := fun b hb => by
    obtain ⟨o, e, _⟩ := T.obj _ _ st b hb
    exact Heap.lt_size e
  obtain ⟨W, ⟨m0, w0⟩, turn⟩ := h s.heap.objs.size (I.hok.fresh (Nat.le_refl _))
  refine wpAny_newObj_type (wpAny_newFunctionEnv c.nocell (by intro y hy; simp at hy) (fun h₁ hns₁ hsb₁ => ?_) c.kind)
  dsimp only at hns₁ hsb₁ ⊢
  have I1 : Inv X pins σ (upd H s.heap.objs.size (.lst [])) { s with heap := s.heap.push { cls := .type "list", dict := none, data := .seq ([] : List Value).toArray } } :=
    I.laid (t' := s.toks) (fun b u e => Heap.get?_push_of_some _ e) (Nat.le_refl _) ⟨Nat.zero_le _, [], 0, .nil, Heap.get?_push_size _ rfl⟩
  generalize hH2 : s.heap.push { cls := .type "list", dict := none, data := .seq ([] : List Value).toArray } = G at hns₁ hsb₁ I1 ⊢
  have hG : G.objs.size = s.heap.objs.size + 1 := by rw [← hH2, Heap.size_push]
  have old : ∀ b o, G.get? b = some o → h₁.get? b = some o := fun b o e => hsb₁.extBut b o (Nat.ne_of_lt (Heap.lt_size e)) (Heap.get?_push_of_some _ e)
  have hf1 : ∀ b ∈ fp, FpOk X pins (upd H s.heap.objs.size (.lst [])) b := fun b hb =>
    ⟨by rw [upd_ne (Nat.ne_of_lt (fit b hb))]; exact (hf b hb).1, (hf b hb).2⟩
  have hlt1 : ∀ b ∈ fp, b < G.objs.size := fun b hb => Nat.lt_of_lt_of_le (fit b hb) (by rw [hG]; exact Nat.le_succ _)
  have I2 := cCx_inv (C := G.objs.size) (t' := s.toks + ([] : List (Str × Value)).length) I1 c (Nat.le_refl _) hf1 hlt1 old hns₁
  have st1 : tn 0 h₁ := T.keep _ _ _ st fun b hb o e => old b o (by rw [← hH2]; exact Heap.get?_push_of_some _ e)
  -- the iterator's own objects, seen from the block
  have fpB : ∀ {H' : Hp}, (∀ b ∈ fp, H' b = none) → ∀ b ∈ fp, FpOk (cCx X scope cl G.objs.size Nc { s with heap := G } (upd H s.heap.objs.size (.lst [])) fp) [] H' b := fun {H'} hn b hb => by
    have ok := cCx_ok (C := G.objs.size) I1 c (Nat.le_refl _) hf1 hlt1
    obtain ⟨e1, e2⟩ := ok.exf b hb
    exact ⟨hn b hb, e1, ok.exfs b hb, .inl hb, e2, fun p hp => absurd (show p ∈ ([] : List (Addr × Obj)) from hp) (by simp)⟩
  have loop : ∀ s₃ : Shared, s₃ = { s with heap := h₁, toks := s.toks + ([] : List (Str × Value)).length } →
      codeAny (model X.prog X.w) X.A (.compLoop (.ListComp elt [⟨tg, iter, ifs, 0⟩] scope pos) 0 (.ref it) (.ref s.heap.objs.size) (compEnvC scope cl G.objs.size X.env))
        (RR (.ref s.heap.objs.size) G.objs.size) s₃ := by
    rintro s₃ rfl
    refine comp_loop0 (fun n s' => ∃ i σ' ys H', Inv (cCx X scope cl G.objs.size Nc { s with heap := G } (upd H s.heap.objs.size (.lst [])) fp) [] σ' H' s' ∧ tn i s'.heap ∧ (∀ b ∈ fp, H' b = none) ∧ W i n σ' ys H') ?_ m0
      ⟨0, σc σ, [], _, I2, st1, fun b hb => (hf1 b hb).1, w0⟩
    rintro n s5 ⟨i, σ5, ys, H5, I5, st5, fr5, w5⟩
    obtain ⟨hD, hsz, alt⟩ := turn i n σ5 ys H5 w5
    rcases alt with ⟨stop, q⟩ | ⟨go, step⟩
    · refine thn (T.done (cCx X scope cl G.objs.size Nc { s with heap := G } (upd H s.heap.objs.size (.lst [])) fp) rfl rfl rfl hc i [] s5 σ5 H5 _ I5 (fpB fr5) st5 stop) fun r s6 ⟨hr, I6⟩ => ?_
      subst hr
      obtain ⟨m6, n6, _⟩ := I6.loc
      have I7 : Inv X pins σ H5 s6 := I1.call' I6.os I6.base I6.hok I6.bare fun b hb => ⟨(hf1 b hb).2.2.2.1, (hf1 b hb).2.1, (hf1 b hb).2.2.2.2.1, (hf1 b hb).2.2.2.2.2⟩
      exact hRR _ _ H5 s6 m6 I7 I6.free (by rw [hG]; exact Nat.le_succ _) n6 q
    · refine thn (T.item (cCx X scope cl G.objs.size Nc { s with heap := G } (upd H s.heap.objs.size (.lst [])) fp) rfl rfl rfl hc i [] s5 σ5 H5 _ I5 (fpB fr5) st5 go) fun r s6 ⟨u, hr, h6⟩ => ?_
      subst hr
      refine thn h6 fun _ s7 ⟨x, H7, I7, r7, y7, st7, fr7⟩ => ?_
      have I7' := I7.pinned (fpB fr7) (T.obj _ _ st7)
      refine thn (hg _ _ _ _ _ s7 σ5 H7 x u _ I7' r7 (step x H7 y7)) fun _ s8 ⟨σ8, H8, I8, q8⟩ => ?_
      refine thn (ht _ _ _ _ _ s8 σ8 H8 _ I8 q8) fun ok s9 ⟨H9, I9, q9⟩ => ?_
      have again : ∀ {σ' : St} {H' : Hp} {s' : Shared} {ys' : List V} {m' : Nat}, Inv (cCx X scope cl G.objs.size Nc { s with heap := G } (upd H s.heap.objs.size (.lst [])) fp) ([] ++ pinsAt fp s7.heap) σ' H' s' → m' < n → W (i + 1) m' σ' ys' H' →
          ∃ m, m < n ∧ ∃ i σ' ys H', Inv (cCx X scope cl G.objs.size Nc { s with heap := G } (upd H s.heap.objs.size (.lst [])) fp) [] σ' H' s' ∧ tn i s'.heap ∧ (∀ b ∈ fp, H' b = none) ∧ W i m σ' ys H' := fun {σ' H' s' ys' m'} J7 hm hw => by
        refine ⟨m', hm, i + 1, σ', ys', H', J7.unpinned, T.keep _ _ _ st7 fun b hb o e => (J7.pin (b, o) (List.mem_append_right _ (List.mem_append_right _ (mem_pinsAt hb e)))).1, fun b hb => ?_, hw⟩
        obtain ⟨o, e, d⟩ := T.obj _ _ st7 b hb
        exact (J7.pin (b, o) (List.mem_append_right _ (List.mem_append_right _ (mem_pinsAt hb e)))).2.1
      cases ok with
      | false =>
        rw [if_neg Bool.false_ne_true] at q9 ⊢
        obtain ⟨m', hm, hw⟩ := q9
        exact again I9 hm hw
      | true =>
        rw [if_pos rfl] at q9 ⊢
        refine thn (he _ _ _ _ _ s9 σ8 H9 _ I9 q9) fun v s10 ⟨y, H10, I10, r10, hD10, m', hm, hw⟩ => ?_
        refine thn (mt_append _ s10 σ8 H10 (.ref s.heap.objs.size) [y] (.ref s.heap.objs.size) [v] (fun _ H' => H' = upd H10 s.heap.objs.size (.lst (ys ++ [y]))) I10 rfl (.cons r10 .nil) ⟨_, ys, y, rfl, rfl, hD10, hsz, rfl⟩) fun _ s11 ⟨z, H11, I11, _, e11⟩ => ?_
        subst e11
        exact again I11 hm hw
  exact codeAny_compStart_list (loop _ rfl) (T.self _ 0 _ _ _ st1 (loop _ rfl))

/-- [elt for tg in iter if ..], as a value -/
theorem pe_comp (hc : X.calm = true) (c : Caps X scope cl Nc σc) (hi : PI X tg iter wi)
    (hg : ∀ C s H fp, PG (cCx X scope cl C Nc s H fp) tg g) (ht : ∀ C s H fp, PTs (cCx X scope cl C Nc s H fp) ifs tt) (he : ∀ C s H fp, PE (cCx X scope cl C Nc s H fp) elt te)
    (hs : ∀ x, foldedSetIterable iter X.env x = pure x := by intro _; rfl) : PE X (.ListComp elt [⟨tg, iter, ifs, 0⟩] scope pos) (tComp wi g tt te σc) := by
  intro pins s σ H Q I h
  rw [eval_ListComp]
  refine wpAny_comprehension_free (use := none) rfl hs c.clos c.kind c.names (thn (hi pins s σ H _ I h) fun v s1 h1 => thn h1 fun itv s2 h2 => ?_)
  obtain ⟨it, fp, tn, J, H2, rfl, I2, T, st2, f2, W⟩ := h2
  refine comp_block (Q := Q) hc c hg ht he I2 T st2 f2 W ?_
  intro D C H' s' m I' hC hCs hn q
  refine ⟨m, hn, fun h' sb => ⟨.ref D, H', ?_, rfl, q⟩⟩
  have nl : C ≠ X.env.locals := Nat.ne_of_gt (Nat.lt_of_lt_of_le I2.lt hCs)
  refine I'.turned (t' := s'.toks) (it := C) (fun b o hb e => sb.extBut b o hb e) hC nl (.inr (Nat.le_trans I2.sz hCs)) (fun x a e z => ?_) (fun p hp z => ?_)
  · obtain ⟨v, q⟩ := I2.cell x a e
    exact absurd (Nat.lt_of_lt_of_le q.lt hCs) (by rw [z]; exact Nat.lt_irrefl _)
  · exact absurd (Nat.lt_of_lt_of_le (Heap.lt_size (I2.pin p hp).1) hCs) (by rw [z]; exact Nat.lt_irrefl _)

/-- y = [elt for tg in iter if ..], the store ahead of the block's end -/
theorem ps_comp {i : Nat} {y : Str} {py spos : Pos} (hc : X.calm = true) (hN : X.N.Nodup) (hiy : X.N[i]? = some y) (hy : Loc X.env.scope y) (c : Caps X scope cl Nc σc) (hi : PI X tg iter wi)
    (hg : ∀ C s H fp, PG (cCx X scope cl C Nc s H fp) tg g) (ht : ∀ C s H fp, PTs (cCx X scope cl C Nc s H fp) ifs tt) (he : ∀ C s H fp, PE (cCx X scope cl C Nc s H fp) elt te)
    (hsw : swapsWith (.ListComp elt [⟨tg, iter, ifs, 0⟩] scope pos) (some (.Name y py)) spos.line X.env = pure true := by rfl)
    (hs : ∀ x, foldedSetIterable iter X.env x = pure x := by intro _; rfl) (hf : X.fn y = true ∨ X.env.scope.names.lookup y = some .local := by first | exact .inl rfl | exact .inr rfl | assumption) :
    PS X (.Assign [.Name y py] (.ListComp elt [⟨tg, iter, ifs, 0⟩] scope pos) spos) (tAsg (tComp wi g tt te σc) (gName i)) := by
  intro pins s σ H D I h
  rw [exec_Assign_Name_used _ _ _ _ hsw]
  refine wpAny_bind (wpAny_standAt (wpAny_bind ?_))
  show wpAny _ X.A (do let _ ← comprehension (.ListComp elt [⟨tg, iter, ifs, 0⟩] scope pos) scope X.env _ (newList []) false (eval iter X.env) (some (assign (.Name y py) X.env))) _ _ s
  refine wpAny_bind (wpAny_mono (wpAny_comprehension_free (use := some (assign (.Name y py) X.env)) (Q := fun _ s' => SP X pins D .next s') rfl hs c.clos c.kind c.names
    (thn (hi pins s σ H _ I h) fun v s1 h1 => thn h1 fun itv s2 h2 => ?_)) (fun _ s' hq => wpAny_pure (wpAny_pure hq)) fun _ _ e => e)
  obtain ⟨it, fp, tn, J, H2, rfl, I2, T, st2, f2, W⟩ := h2
  refine comp_block (Q := fun v H' => D.nx (σ.set i (some v)) H') hc c hg ht he I2 T st2 f2 W ?_
  intro L C H' s' m I' hC hCs hn q
  have nl : C ≠ X.env.locals := Nat.ne_of_gt (Nat.lt_of_lt_of_le I2.lt hCs)
  have nfs : C ∉ X.fs := I2.nofs hCs
  obtain ⟨oC, es, ep, hoC, hdC, hrC⟩ := id hn
  have ncell : ∀ v, oC.data ≠ .cell v := fun v z => by rw [hdC] at z; cases z
  have I'' : Inv X (pins ++ [(C, oC)]) σ H' s' := I'.pins_of fun p hp => by
    rcases List.mem_append.mp hp with z | z
    · exact I'.pin p (List.mem_append_right _ z)
    · have e : p = (C, oC) := by simpa using z
      subst e
      exact ⟨hoC, hC, nl, nfs, ncell⟩
  show wpAny _ X.A (assign (.Name y py) X.env (.ref L)) _ _ _
  refine wpAny_assign_Name (store_ok I'' hN hiy hy (v := .ref L) rfl (fun s3 I3 => ?_) hf)
  have hn3 : s3.heap.Ns C m := ⟨oC, es, ep, (I3.pin (C, oC) (by simp)).1, hdC, hrC⟩
  refine ⟨m, hn3, fun h' sb => ⟨σ.set i (some (.ref L)), H', ?_, q⟩⟩
  refine I3.unpinned.turned (t' := s3.toks) (it := C) (fun b o hb e => sb.extBut b o hb e) hC nl (.inr (Nat.le_trans I2.sz hCs)) (fun x a e z => ?_) (fun p hp z => ?_)
  · obtain ⟨v, q⟩ := I2.cell x a e
    exact absurd (Nat.lt_of_lt_of_le q.lt hCs) (by rw [z]; exact Nat.lt_irrefl _)
  · exact absurd (Nat.lt_of_lt_of_le (Heap.lt_size (I2.pin p hp).1) hCs) (by rw [z]; exact Nat.lt_irrefl _)

/-- no name of the frame around is taken -/
theorem caps0 (hk : scope.kind = .function) (hfree : ∀ x ∈ scope.names, x.2 ≠ .free) (hcell : ∀ x ∈ scope.names, x.2 ≠ .cell) (hnames : ∀ y ∈ scope.names, y.2 = .local → scope.names.lookup y.1 = some .local) :
    Caps X scope [] Nc (fun _ => List.replicate Nc.length none) where
  clos := closureFor_none hfree
  kind := hk
  nocell := hcell
  names := hnames
  cells := fun x c e => by cases e
  has := fun x h => by
    have hm : (relabel scope X.env).names = scope.names := by
      unfold relabel
      refine map_eq_self fun y hy => ?_
      obtain ⟨n, k⟩ := y
      have : (k == NameKind.free) = false := by simpa using hfree _ hy
      simp [this]
    rw [hm] at h
    rcases h with h | h
    · exact absurd rfl (hcell _ (PySem.mem_of_lookup h))
    · exact absurd rfl (hfree _ (PySem.mem_of_lookup h))
  len := fun _ => by simp
  cap := fun σ i x v _ e _ => by
    rw [List.getElem?_replicate] at e
    split at e <;> cases e
end

/-- over a list that stays, one own name, every item taken: the list told by turns -/
theorem comp_all {K : PySem.W.Frag} {a D : Addr} {xs : List V} {te : TE} {Q : VK} {H : Hp} {rest : St} (Pv : Nat → List V → Hp → Prop) (p0 : Pv 0 [] H)
    (hl : ∀ i ys H', i ≤ xs.length → Pv i ys H' → SqL K H' a xs ∧ H' D = some (.lst ys) ∧ ys.length < sizeLine)
    (hs : ∀ i x ys H', xs[i]? = some x → Pv i ys H' → te (some x :: rest) H' fun v H6 => H6 D = some (.lst ys) ∧ Pv (i + 1) (ys ++ [v]) (upd H6 D (.lst (ys ++ [v]))))
    (hd : ∀ ys H', Pv xs.length ys H' → Q (.ref D) H')
    (mono : ∀ σ H Q Q', (∀ v H', Q v H' → Q' v H') → te σ H Q → te σ H Q') :
    CompW (Itl K a) (gName 0) tTrue te (none :: rest) Q D H := by
  refine ⟨fun i m σ ys H => (∃ o, σ = o :: rest) ∧ m = xs.length - i ∧ i ≤ xs.length ∧ Pv i ys H, ⟨xs.length, ⟨none, rfl⟩, by simp, Nat.zero_le _, p0⟩, ?_⟩
  rintro i m σ ys H2 ⟨⟨o, rfl⟩, rfl, hi, p⟩
  obtain ⟨q1, q2, q3⟩ := hl i ys H2 hi p
  refine ⟨q2, q3, ?_⟩
  by_cases hlt : i < xs.length
  · refine .inr ⟨⟨xs, xs[i], q1, by simp [hlt]⟩, fun x H3 y => ?_⟩
    obtain ⟨e, y⟩ := y
    subst e
    exact mono _ _ _ _ (fun v H' z => ⟨z.1, xs.length - (i + 1), by omega, ⟨_, rfl⟩, rfl, hlt, z.2⟩) (hs i x ys _ (y xs q1) p)
  · have e : i = xs.length := by omega
    subst e
    exact .inl ⟨⟨xs, q1, Nat.le_refl _⟩, hd ys H2 p⟩
end L2
/-! ### own rules over the layer, 2: a loop over zip of two lists -/
namespace L2
open PySem PySem.Spec PyProof.Rows
/-- the pairs of the lists at a and b -/
def Itz (K : PySem.W.Frag) (a b : Addr) : It :=
  ⟨fun i H => ∃ xs ys x y, SqL K H a xs ∧ SqL K H b ys ∧ xs[i]? = some x ∧ ys[i]? = some y,
   fun i H v H' => ∃ p, v = .ref p ∧ H p = none ∧ ∀ xs ys x y, SqL K H a xs → SqL K H b ys → xs[i]? = some x → ys[i]? = some y → H' = upd H p (.tup [x, y]),
   fun i H => ∃ xs ys, SqL K H a xs ∧ SqL K H b ys ∧ (xs.length ≤ i ∨ ys.length ≤ i)⟩
section
variable {X : Cx} {pins : List (Addr × Obj)} {σ : St} {H : Hp} {s : Shared} {h' : Heap}
/-- some untracked records of ours have turned, a new object is laid -/
theorem Inv.turnedLaid {t' : Nat} {ch : List Addr} {p : Addr} {o : HO} (I : Inv X pins σ H s) (k : ∀ b u, b ∉ ch → s.heap.get? b = some u → h'.get? b = some u) (hf : ∀ b ∈ ch, FpOk X pins H b)
    (hp : s.heap.objs.size ≤ p) (new : ObjOk X.prog X.w (upd H p o) h' p o) : Inv X pins σ (upd H p o) { s with heap := h', toks := t' } := by
  have hn := I.hok.fresh hp
  have nch : ∀ b u, H b = some u → b ∉ ch := fun b u e z => by rw [(hf b z).1] at e; cases e
  refine I.call (g' := s.gens) (d' := s.drawn) (ch := ch) ⟨fun b u e _ _ hc => k b u hc e, fun b u e _ _ hc => ⟨u.slots, k b u hc e⟩, fun b u e n _ => ?_, fun b u e hc => ⟨u, k b u hc e⟩, fun b xs e => ?_, fun b u xs e => ?_, fun b ps e => ?_⟩ (fun b u e => ?_) I.bare
    fun b hb => ⟨(hf b hb).2.2.2.1, (hf b hb).2.1, (hf b hb).2.2.2.2.1, (hf b hb).2.2.2.2.2⟩
  · rw [upd_ne (Nat.ne_of_lt (Nat.lt_of_lt_of_le (Heap.lt_size e) hp))]
    exact n
  · rw [upd_ne (ne_of_none e hn)]
    exact e
  · rw [upd_ne (ne_of_none e hn)]
    exact e
  · exact ⟨#[], by rw [upd_ne (ne_of_none e hn), e]; simp⟩
  · by_cases hb : b = p
    · subst hb
      rw [upd_same] at e
      cases e
      exact new
    · rw [upd_ne hb] at e
      refine (I.hok b u e).stay (fun c v hc q => k c v ?_ q) (fun c q => by rw [upd_ne (ne_of_none q hn)]; exact q) fun c xs q => by rw [upd_ne (ne_of_none q hn)]; exact q
      rcases hc with z | z
      · rw [z]
        exact nch b u e
      · exact nch c _ z
/-- .. nothing laid -/
theorem Inv.turnedAll {t' : Nat} {ch : List Addr} (I : Inv X pins σ H s) (k : ∀ b u, b ∉ ch → s.heap.get? b = some u → h'.get? b = some u) (hf : ∀ b ∈ ch, FpOk X pins H b) : Inv X pins σ H { s with heap := h', toks := t' } := by
  have nch : ∀ b u, H b = some u → b ∉ ch := fun b u e z => by rw [(hf b z).1] at e; cases e
  refine I.call (g' := s.gens) (d' := s.drawn) (ch := ch) ⟨fun b u e _ _ hc => k b u hc e, fun b u e _ _ hc => ⟨u.slots, k b u hc e⟩, fun b u e n _ => n, fun b u e hc => ⟨u, k b u hc e⟩, fun b xs e => e, fun b u xs e => e, fun b ps e => ⟨#[], by rw [e]; simp⟩⟩ (fun b u e => ?_) I.bare
    fun b hb => ⟨(hf b hb).2.2.2.1, (hf b hb).2.1, (hf b hb).2.2.2.2.1, (hf b hb).2.2.2.2.2⟩
  refine (I.hok b u e).stay (fun c v hc q => k c v ?_ q) (fun c q => q) fun c xs q => q
  rcases hc with z | z
  · rw [z]
    exact nch b u e
  · exact nch c _ z
end
theorem turn_zip {P : Program} {w : World} {K : PySem.W.Frag} {elts : List Expr} {kk : Nat} {pos : Pos} (a b z TI TO i1 i2 : Addr) (D : ZipApart z TI TO i1 i2 a b) :
    Turn P w K (.Tuple elts kk pos) (Itz K a b) [z, TI, TO, i1, i2] z (fun i h => IsZip h z TI TO .none ∧ IsPair h TI (.ref i1) (.ref i2) ∧ (∃ x y, IsPair h TO x y) ∧ h.IsListIter i1 a i ∧ h.IsListIter i2 b i) where
  mem := by simp
  obj := fun i h st c hc => by
    obtain ⟨hz, hTI, ⟨x, y, hTO⟩, ⟨o1, e1, c1, d1⟩, ⟨o2, e2, c2, d2⟩⟩ := st
    have hc' : c = z ∨ c = TI ∨ c = TO ∨ c = i1 ∨ c = i2 := by simpa using hc
    rcases hc' with rfl | rfl | rfl | rfl | rfl
    · exact ⟨_, hz, fun v q => by have q' : Data.fields _ = Data.cell v := q; cases q'⟩
    · exact ⟨_, hTI, fun v q => by have q' : Data.seq _ _ = Data.cell v := q; cases q'⟩
    · exact ⟨_, hTO, fun v q => by have q' : Data.seq _ _ = Data.cell v := q; cases q'⟩
    · exact ⟨_, e1, fun v q => by rw [d1] at q; cases q⟩
    · exact ⟨_, e2, fun v q => by rw [d2] at q; cases q⟩
  keep := fun i h h' st k => by
    obtain ⟨hz, hTI, ⟨x, y, hTO⟩, h1, h2⟩ := st
    exact ⟨k z (by simp) _ hz, k TI (by simp) _ hTI, ⟨x, y, k TO (by simp) _ hTO⟩, h1.at fun o e => k i1 (by simp) o e, h2.at fun o e => k i2 (by simp) o e⟩
  item := by
    intro X hP hw hK hc i pins s σ H E I hf st hg
    subst hP hw hK
    obtain ⟨xs, ys, x, y, hq1, hq2, hx, hy⟩ := hg
    obtain ⟨its, rv, p1, hz1⟩ := I.list hq1
    obtain ⟨its2, rv2, p2, hz2⟩ := I.list hq2
    obtain ⟨u, hu, ru⟩ := rv.get hx
    obtain ⟨v, hv, rvv⟩ := rv2.get hy
    obtain ⟨hz, hTI, ⟨ta, tb, hTO⟩, h1, h2⟩ := st
    refine wpAny_pyNext_zip_item D hz hTI hTO h1 h2 p1.isList p2.isList (x := u) (y := v) (by simpa using hu) (by simpa using hv) fun h' a1 a2 a3 a4 a5 a6 hk => ?_
    refine ⟨_, rfl, wpAny_letOwnedTupleGo_zip a1 fun h'' hz'' sb => ?_⟩
    have nz : s.heap.objs.size ≠ z := Nat.ne_of_gt (Heap.lt_size hz)
    have hk2 : ∀ c o, c ∉ [z, TI, TO, i1, i2] → s.heap.get? c = some o → h''.get? c = some o := fun c o hc e => by
      simp only [List.mem_cons, List.not_mem_nil, or_false, not_or] at hc
      exact sb.extBut c o hc.1 (hk c o hc.1 hc.2.2.1 hc.2.2.2.1 hc.2.2.2.2 e)
    refine ⟨.ref s.heap.objs.size, upd H s.heap.objs.size (.tup [x, y]), I.turnedLaid (t' := s.toks) hk2 hf (Nat.le_refl _) ⟨two_le, [u, v], .cons ru (.cons rvv .nil), ⟨_, sb.extBut _ _ nz a5, rfl, _, rfl⟩⟩, rfl,
      ⟨_, rfl, I.hok.fresh (Nat.le_refl _), fun xs' ys' x' y' e1 e2 e3 e4 => ?_⟩, ⟨hz'', sb.extBut _ _ D.TIz (hk _ _ D.TIz D.TITO D.TIi1 D.TIi2 hTI), ⟨_, _, sb.extBut _ _ D.TOz a2⟩, a3.extBut sb.extBut D.i1z, a4.extBut sb.extBut D.i2z⟩, fun c hc => ?_⟩
    · rw [I.list_inj e1 hq1, hx] at e3
      rw [I.list_inj e2 hq2, hy] at e4
      cases e3
      cases e4
      rfl
    · obtain ⟨o, e, _⟩ : ∃ o, s.heap.get? c = some o ∧ True := by
        have hc' : c = z ∨ c = TI ∨ c = TO ∨ c = i1 ∨ c = i2 := by simpa using hc
        obtain ⟨o1, e1, _⟩ := h1
        obtain ⟨o2, e2, _⟩ := h2
        rcases hc' with rfl | rfl | rfl | rfl | rfl
        · exact ⟨_, hz, trivial⟩
        · exact ⟨_, hTI, trivial⟩
        · exact ⟨_, hTO, trivial⟩
        · exact ⟨_, e1, trivial⟩
        · exact ⟨_, e2, trivial⟩
      rw [upd_ne (Nat.ne_of_lt (Heap.lt_size e))]
      exact (hf c hc).1
  done := by
    intro X hP hw hK hc i pins s σ H E I hf st hg
    subst hP hw hK
    obtain ⟨xs, ys, hq1, hq2, hend⟩ := hg
    obtain ⟨its, rv, p1, hz1⟩ := I.list hq1
    obtain ⟨its2, rv2, p2, hz2⟩ := I.list hq2
    obtain ⟨hz, hTI, ⟨ta, tb, hTO⟩, h1, h2⟩ := st
    have l1 := rv.length
    have l2 := rv2.length
    refine wpAny_pyNext_zip_end (I.ok.hd hc) D hz hTI hTO h1 h2 p1.isList p2.isList ?_ fun h' hk => ⟨rfl, I.turnedAll (t' := s.toks) (ch := [z, TI, TO, i1, i2]) (fun c o hc e => ?_) hf⟩
    · rcases hend with q | q
      · exact .inl (by simp; omega)
      · exact .inr (by simp; omega)
    · simp only [List.mem_cons, List.not_mem_nil, or_false, not_or] at hc
      exact hk c o hc.1 hc.2.2.1 hc.2.2.2.1 hc.2.2.2.2 e
  self := fun _ _ _ _ _ st h => wpAny_pyIter_zip st.1 h
section
variable {X : Cx} {elts : List Expr} {kk : Nat} {tpos : Pos}
def iZip (K : PySem.W.Frag) (ta : TA) : TI := fun σ H R => ta σ H fun vs H1 => ∃ a b, vs = [.ref a, .ref b] ∧ (∃ xs, SqL K H1 a xs) ∧ (∃ ys, SqL K H1 b ys) ∧ R (Itz K a b) H1
theorem pi_zip {e1 e2 : Expr} {ta : TA} {p pos : Pos} (hg : Gl X "zip") (hm : X.mg "zip" = none) (ha : PA X [e1, e2] ta)
    (hs : starEach [e1, e2] X.env = [(false, eval e1 X.env), (false, eval e2 X.env)] := by rfl) (hs2 : starEach [e2] X.env = [(false, eval e2 X.env)] := by rfl) : PI X (.Tuple elts kk tpos) (.Call (.Name "zip" p) [e1, e2] [] pos) (iZip X.K ta) := by
  intro pins s σ H R I h
  refine Call_ (ld_blt I hg hm Boot.«zip» (PyProof.Rows.callWith_type1 (thn (ha pos pins s σ H _ I h) fun us s1 ⟨vs, H1, I1, r1, q1⟩ => ?_) (by rw [hs, hs2]) (by rw [hs2]; rfl)))
  obtain ⟨a, b, e, ⟨xs, hx⟩, ⟨ys, hy⟩, q⟩ := q1
  subst e
  cases r1 with
  | cons r rr =>
    cases rr with
    | cons r' rr =>
      cases rr
      cases r
      cases r'
      obtain ⟨its, rv, p1, hz1⟩ := I1.list hx
      obtain ⟨its2, rv2, p2, hz2⟩ := I1.list hy
      have l1 : a < s1.heap.objs.size := by obtain ⟨_, e, _⟩ := p1.isList; exact Heap.lt_size e
      have l2 : b < s1.heap.objs.size := by obtain ⟨_, e, _⟩ := p2.isList; exact Heap.lt_size e
      refine call_zip_2 p1.isList p2.isList fun h' hz hTI hTO hi1 hi2 hsz hk => ?_
      refine wpAny_pyIter_zip hz ?_
      refine ⟨s1.heap.objs.size + 4, [s1.heap.objs.size + 4, s1.heap.objs.size + 2, s1.heap.objs.size + 3, s1.heap.objs.size, s1.heap.objs.size + 1], _, _, H1, rfl, I1.kept (t' := s1.toks) hk, turn_zip a b _ _ _ _ _ (zipApart_new l1 l2), ⟨hz, hTI, ⟨_, _, hTO⟩, hi1, hi2⟩, fun c hc => ?_, q⟩
      have hc' : s1.heap.objs.size ≤ c := by
        simp only [List.mem_cons, List.not_mem_nil, or_false] at hc
        rcases hc with e | e | e | e | e <;> rw [e] <;> first | exact Nat.le_refl _ | exact Nat.le_add_right _ _
      exact I1.fpOk hc' (I1.hok.fresh hc')
end
/-- over the pairs of two lists that the body leaves as they are -/
theorem for_zip {K : PySem.W.Frag} {a b : Addr} {xs ys : List V} {g : TG} {tb : TS} {D : Ends} {σ : St} {H : Hp} (Pv : Nat → St → Hp → Prop) (h0 : Pv 0 σ H) (hl : ∀ i σ H, i ≤ min xs.length ys.length → Pv i σ H → SqL K H a xs ∧ SqL K H b ys)
    (hs : ∀ i x y σ H p, xs[i]? = some x → ys[i]? = some y → Pv i σ H → H p = none → g (.ref p) σ (upd H p (.tup [x, y])) fun σ2 H2 => tb { D with nx := Pv (i + 1), ct := Pv (i + 1), bk := D.nx } σ2 H2)
    (hd : ∀ σ H, Pv (min xs.length ys.length) σ H → D.nx σ H) :
    ∃ W : Nat → Nat → St → Hp → Prop, (∃ m, W 0 m σ H) ∧ ∀ i m σ H, W i m σ H →
      ((Itz K a b).stop i H ∧ D.nx σ H) ∨ ((Itz K a b).go i H ∧ ∃ N : St → Hp → Prop, (∀ σ' H', N σ' H' → ∃ m', m' < m ∧ W (i + 1) m' σ' H') ∧ ∀ x H', (Itz K a b).yld i H x H' → g x σ H' fun σ2 H2 => tb { D with nx := N, ct := N, bk := D.nx } σ2 H2) := by
  refine ⟨fun i m σ H => m = min xs.length ys.length - i ∧ i ≤ min xs.length ys.length ∧ Pv i σ H, ⟨min xs.length ys.length, by simp, Nat.zero_le _, h0⟩, ?_⟩
  rintro i m σ H ⟨rfl, hi, p⟩
  obtain ⟨q1, q2⟩ := hl i σ H hi p
  by_cases hlt : i < min xs.length ys.length
  · have h1 : i < xs.length := by omega
    have h2 : i < ys.length := by omega
    refine .inr ⟨⟨xs, ys, xs[i], ys[i], q1, q2, by simp [h1], by simp [h2]⟩, Pv (i + 1), fun σ' H' p' => ⟨min xs.length ys.length - (i + 1), by omega, rfl, hlt, p'⟩, fun v H' y => ?_⟩
    obtain ⟨t, rfl, ht, y⟩ := y
    have e := y xs ys xs[i] ys[i] q1 q2 (by simp [h1]) (by simp [h2])
    subst e
    exact hs i xs[i] ys[i] σ H t (by simp [h1]) (by simp [h2]) p ht
  · have e : i = min xs.length ys.length := by omega
    subst e
    exact .inl ⟨⟨xs, ys, q1, q2, by omega⟩, hd σ H p⟩
end L2
/-! ### own rules over the layer, 3: a def that raises an own error, the try that catches it, isinstance of it -/
namespace L2
open PySem PySem.Spec PyProof.Rows

theorem ObjOk.there {P : Program} {w : World} {H : Hp} {h : Heap} {a : Addr} {o : HO} (x : ObjOk P w H h a o) : ∃ ob, h.get? a = some ob := by
  cases o with
  | lst xs => obtain ⟨_, _, _, _, e⟩ := x; exact ⟨_, e⟩
  | tup xs => obtain ⟨_, _, _, _, e, _⟩ := x; exact ⟨_, e⟩
  | dK kvs => obtain ⟨_, _, _, _, o, _, _, e, _⟩ := x; exact ⟨_, e⟩
  | dT kvs => obtain ⟨_, _, _, _, o, _, _, e, _⟩ := x; exact ⟨_, e⟩
  | set S n => obtain ⟨o, _, _, _, e, _⟩ := x; exact ⟨_, e⟩
  | ins C dx fs => obtain ⟨_, _, _, e, _⟩ := x; exact ⟨_, e⟩
  | own y => exact x
  | xd fs => obtain ⟨_, ⟨_, _, _, e, _⟩, _⟩ := x; exact ⟨_, e⟩
  | rng lo hi => obtain ⟨_, _, _, e⟩ := x; exact ⟨_, e⟩
  | frz ob u => obtain ⟨e, _⟩ := x; exact ⟨_, e⟩
  | tbl ps => exact ⟨_, (show h.get? a = some _ from x)⟩
  | met f y => exact ⟨_, (show h.get? a = some _ from x)⟩
  | ext φ => obtain ⟨_, e, _⟩ := x; exact e
theorem HOk.there {P : Program} {w : World} {H : Hp} {h : Heap} {a : Addr} {o : HO} (x : HOk P w H h) (e : H a = some o) : ∃ ob, h.get? a = some ob := (x a o e).there
theorem HOk.untracked {P : Program} {w : World} {H : Hp} {h : Heap} {a : Addr} (x : HOk P w H h) (e : h.get? a = none) : H a = none := by
  cases q : H a with
  | none => rfl
  | some u =>
    obtain ⟨ob, z⟩ := x.there q
    rw [e] at z
    cases z

/-- an own error class of the text, under ValueError -/
structure ExcCls (K : PySem.W.Frag) (mg : Str → Option Value) (x : Str) (C : Addr) : Prop where
  m : mg x = some (.ref C)
  ex : PySem.W.excIn K C [.type "ValueError", .type "Exception", .type "BaseException", .type "object"] "ValueError.__new__" = true

/-- how an exception lies behind a call: B is what of the state stands as it stood -/
def CXe (P : Program) (w : World) : CXT := fun outer H s E e s' => ∃ (ea : Addr) (cls a0 : Value) (H' : Hp) (B : Heap),
  e = .ref ea ∧ s'.os = s.os ∧ AllBare s'.gens ∧ Un (frs outer) [] H H' s.heap s'.heap ∧ HOk P w H' s'.heap ∧ Heap.FlyingW B outer ea cls a0 s'.heap ∧
  (∀ b o, s'.heap.get? b = some o → b ∉ frs outer → (H' b ≠ none ∨ s.heap.get? b ≠ none) → B.get? b = some o) ∧ H' ea = none ∧ s.heap.get? ea = none ∧ E cls none H'

/-- an exception made here reaches what is wanted of it -/
def Throws (X : Cx) (C : Addr) (R : Hp → Prop) : Prop :=
  ∀ (pins : List (Addr × Obj)) (σ : St) (H : Hp) (s : Shared) (h' : Heap) (ea : Addr) (vs : List Value), Inv X pins σ H s → Heap.MadeExcOf s.heap h' ea (.ref C) vs → R H → X.xe (.ref ea) { s with heap := h' }

theorem exc_obj {K : PySem.W.Frag} {h : Heap} {C : Addr} {bmB : List Value} {newId : String} (X : K.In h) (q : PySem.W.excIn K C bmB newId = true) :
    ∃ bm N nm q bs hdct sn sub ab col dd k0 k1 k2 k3 k5 mN, h.get? C = some (excClassObj nm q C N bs bm hdct sn sub ab col dd k0 k1 k2 k3 k5 newId) ∧ h.Ns N mN ∧ mN "__init__" = none ∧ OwnTail h bmB bm := by
  unfold PySem.W.excIn at q
  split at q
  · rename_i dd cd sl ho
    split at q
    · rename_i C' bm k0 k1 k2 k3 n k5 hm hs
      simp only [Bool.and_eq_true, beq_iff_eq, Bool.not_eq_true'] at q
      obtain ⟨⟨⟨⟨⟨rfl, rfl⟩, hdel⟩, ht⟩, hok⟩, hni⟩ := q
      obtain ⟨nm, bs, mro, ns, qn, hd, sn, sub, ab, col, del⟩ := cd
      dsimp only at hm hdel hok hni
      subst hm hdel
      have hsl : sl = #[k0, k1, k2, k3, some (.builtin n), k5] := by
        obtain ⟨l⟩ := sl
        simp only at hs
        rw [hs]
      subst hsl
      exact ⟨bm, ns, nm, qn, bs, hd, sn, sub, ab, col, dd, k0, k1, k2, k3, k5, _, X _ _ ho, .of_isNs (PySem.W.isNs_of_in X hok), PySem.W.nsMap_none_of_in X hok hni, PySem.W.tail_of_in X ht⟩
    · cases q
  · cases q

section
variable {X : Cx}
def tRaise (te : TE) (R : Hp → Prop) : TS := fun _ σ H => te σ H fun v H1 => ([v] : List V).length = 1 ∧ R H1
/-- raise C(e) -/
theorem ps_raise {x : Str} {C : Addr} {R : Hp → Prop} {e : Expr} {te : TE} {np cpos pos : Pos} (c : ExcCls X.K X.mg x C) (hg : Gl X x) (hcalm : X.calm = true) (he : PE X e te) (ht : Throws X C R)
    (hs : starEach [e] X.env = [(false, eval e X.env)] := by rfl) (hdb : (x == ("__debug__" : Str)) = false := by decide) :
    PS X (.Raise (some (.Call (.Name x np) [e] [] cpos)) none pos) (tRaise te R) := by
  intro pins s σ H D I h
  obtain ⟨bm, N, nm, q, bs, hdct, sn, sub, ab, col, dd, k0, k1, k2, k3, k5, mN, hC, hN, hni, T⟩ := exc_obj I.ok.mod.kin c.ex
  refine wpAny_Raise_call_subT (C := C) (nm := nm) (q := q) (N := N) (bs := bs) (bm := bm) (hdct := hdct) (sn := sn) (sub := sub) (ab := ab) (col := col) (dd := dd) (k0 := k0) (k1 := k1) (k2 := k2) (k3 := k3) (k5 := k5)
    PySem.F.excBase_ValueError (mN := mN) (T.hasType PySem.F.excBase_ValueError.hasBase) (I.ok.hd hcalm) (by rw [hs]; rfl) hni (ld_glob I hg c.m ⟨rfl, ?_⟩ hdb)
  have hA : PA X [e] (tCons te tNil) := pa_cons he pa_nil hs
  have h1 := hA cpos pins s σ H (fun vs H1 => vs.length = 1 ∧ R H1) I h
  rw [hs] at h1 ⊢
  refine Calls.evalArgs_plain (wpAny_mono h1 (fun vs s2 h2 => ?_) fun _ _ y => y)
  obtain ⟨ws, H1, I1, rv, hl, q1⟩ := h2
  refine ⟨rfl, ?_, I1.bk _ _ hC, hN.keeps I1.bk, T.keeps I1.bk, fun h' ea hm => ht pins σ H1 s2 h' ea vs I1 hm q1⟩
  show vs.length ≤ sizeLine
  rw [← rv.length, hl]
  decide
end

/-- the body of a def: its exceptions lie as CXe says -/
theorem throws_of {P : Program} {w : World} {K : PySem.W.Frag} {mg : Str → Option Value} {base : Heap} {N : List Str} {qual : Str} {scope : Scope} {f : Addr} {cdv : Value} {A : Around} {outer : List Env} {s : Shared} {H : Hp} {E : XK} {C : Addr} :
    Throws (cxOf (CXe P w) P w K mg base N qual scope f cdv A outer s H E) C (fun H1 => E (.ref C) none H1) := by
  intro pins σ H1 s2 h' ea vs I hm he
  have fr : (A.deeper (envOfC qual scope s.heap.objs.size f cdv)).frames = some (envOfC qual scope s.heap.objs.size f cdv :: outer) := I.ok.frames
  have hin : ∀ env ∈ (envOfC qual scope s.heap.objs.size f cdv :: outer), ∀ b, env.frame = some b → b ∈ frs (envOfC qual scope s.heap.objs.size f cdv :: outer) := fun env he b hb => List.mem_filterMap.mpr ⟨env, he, hb⟩
  have hfs : ∀ b, b ∈ frs (envOfC qual scope s.heap.objs.size f cdv :: outer) → b = s.heap.objs.size ∨ b ∈ frs outer := fun b hb => by
    obtain ⟨env, he, hf⟩ := List.mem_filterMap.mp hb
    rcases List.mem_cons.mp he with rfl | he
    · exact .inl (Option.some.inj hf).symm
    · exact .inr (List.mem_filterMap.mpr ⟨env, he, hf⟩)
  -- what is not a frame stands in B
  have inB : ∀ b o, s2.heap.get? b = some o → b ∉ frs outer → b ≠ s.heap.objs.size → (PySem.W.hideAll s2.heap (frs (envOfC qual scope s.heap.objs.size f cdv :: outer))).get? b = some o := fun b o e n1 n2 =>
    PySem.W.hideAll_get _ e fun z => (hfs b z).elim n2 n1
  have old : ∀ b o, s.heap.get? b = some o → b ≠ s.heap.objs.size := fun b o e => Nat.ne_of_lt (Heap.lt_size e)
  show wpAny _ _ (leaving _ _) _ _ _
  refine wpAny_leaves_madeW fr rfl (base := PySem.W.hideAll s2.heap (frs (envOfC qual scope s.heap.objs.size f cdv :: outer))) (fun b o q => PySem.W.of_hideAll _ q) (PySem.W.funFrames_hide I.stack hin) hm fun h'' t fl _ _ sm => ?_
  have k2 : ∀ b o, s2.heap.get? b = some o → b ∉ frs outer → b ≠ s.heap.objs.size → h''.get? b = some o := fun b o e n1 n2 => fl.1 b o (inB b o e n1 n2)
  have ksl : ∀ b o, s2.heap.get? b = some o → b ∈ frs outer → ∃ sl, h''.get? b = some { o with slots := sl } := fun b o e hb => by
    obtain ⟨_, o', ho', hd⟩ := I.funs.mem hb
    rw [e] at ho'
    cases ho'
    exact sm b o (hm.keeps b o e) hd
  have trk : ∀ b u, H1 b = some u → b ∉ frs outer ∧ b ≠ s.heap.objs.size := fun b u e => by
    refine ⟨fun z => ?_, fun z => ?_⟩
    · have := I.stkFree b (List.mem_filterMap.mpr (by
        obtain ⟨env, he, hf⟩ := List.mem_filterMap.mp z
        exact ⟨env, List.mem_cons_of_mem _ he, hf⟩))
      rw [this] at e
      cases e
    · have z' : H1 s.heap.objs.size = none := I.free
      rw [z, z'] at e
      cases e
  have nx : ∀ b, b ∉ ([] : List Addr) := fun b => by simp
  refine ⟨ea, .ref C, .ref t, H1, PySem.W.hideAll s2.heap (frs (envOfC qual scope s.heap.objs.size f cdv :: outer)), rfl, I.os, I.bare, ⟨fun b o e n hb _ => ?_, fun b o e n hb _ => ?_, fun b o e n hx => I.base.free b o e n hx, fun b o e hx => ?_, I.base.tups, I.base.frzs, I.base.tbls⟩, fun b u e => ?_, fl, fun b o e nb hh => ?_, I.hok.untracked hm.new, ?_, he⟩
  · exact k2 b o (I.base.keep b o e n hb (nx b)) hb (old b o e)
  · obtain ⟨sl, e1⟩ := I.base.slot b o e n hb (nx b)
    obtain ⟨sl', e2⟩ := ksl b _ e1 hb
    exact ⟨sl', e2⟩
  · obtain ⟨o', e1⟩ := I.base.there b o e hx
    by_cases hb : b ∈ frs outer
    · obtain ⟨sl, e2⟩ := ksl b o' e1 hb
      exact ⟨_, e2⟩
    · exact ⟨o', k2 b o' e1 hb (old b o e)⟩
  · refine (I.hok b u e).stay (fun c v hc q => ?_) (fun _ q => q) fun _ _ q => q
    rcases hc with z | z
    · subst z
      exact k2 c v q (trk c u e).1 (trk c u e).2
    · exact k2 c v q (trk c _ z).1 (trk c _ z).2
  · have e2 : (∃ o2, s2.heap.get? b = some o2) ∧ b ≠ s.heap.objs.size := by
      rcases hh with z | z
      · cases q : H1 b with
        | none => exact absurd q z
        | some u => exact ⟨I.hok.there q, (trk b u q).2⟩
      · cases q : s.heap.get? b with
        | none => exact absurd q z
        | some o1 => exact ⟨I.base.there b o1 q (nx b), old b o1 q⟩
    obtain ⟨⟨o2, e2⟩, nL⟩ := e2
    have e3 := k2 b o2 e2 nb nL
    rw [e] at e3
    cases e3
    exact inB b _ e2 nb nL
  · cases q : s.heap.get? ea with
    | none => rfl
    | some o =>
      obtain ⟨o', e1⟩ := I.base.there ea o q (nx ea)
      rw [hm.new] at e1
      cases e1
end L2
namespace L2
open PySem PySem.Spec PyProof.Rows
/-- within the suite of an except -/
abbrev Cx.marked (X : Cx) (ea : Addr) : Cx := { X with A := X.A.mark (some (.ref ea)), calm := false, xe := fun _ _ => False }
section
variable {X : Cx} {pins : List (Addr × Obj)} {σ : St} {H : Hp} {s : Shared} {ea : Addr}
theorem Inv.marked (I : Inv X pins σ H s) (ea : Addr) : Inv (X.marked ea) pins σ H s :=
  ⟨⟨I.ok.mod, I.ok.kind, I.ok.glob, I.ok.blt, I.ok.above, I.ok.inj, I.ok.has, I.ok.cab, fun h => absurd (show false = true from h) Bool.false_ne_true, I.ok.frames, I.ok.stk, I.ok.exf, I.ok.bs, I.ok.bsz, I.ok.noex, I.ok.exfs, I.ok.funs, I.ok.frf⟩,
    I.os, I.bare, I.base, I.loc, I.cell, I.free, I.freeC, I.pin, I.hok, I.len⟩
theorem Inv.unmarked (I : Inv (X.marked ea) pins σ H s) (hd : X.calm = true → X.A.handled = none) : Inv X pins σ H s :=
  ⟨⟨I.ok.mod, I.ok.kind, I.ok.glob, I.ok.blt, I.ok.above, I.ok.inj, I.ok.has, I.ok.cab, hd, I.ok.frames, I.ok.stk, I.ok.exf, I.ok.bs, I.ok.bsz, I.ok.noex, I.ok.exfs, I.ok.funs, I.ok.frf⟩,
    I.os, I.bare, I.base, I.loc, I.cell, I.free, I.freeC, I.pin, I.hok, I.len⟩
/-- an object that stands already is tracked from here on -/
theorem Inv.adopt {o : HO} {p : Addr} (I : Inv X pins σ H s) (hn : H p = none) (h0 : X.s₀.heap.get? p = none) (hL : p ≠ X.env.locals) (hc : ∀ x c, X.env.cells.lookup x = some c → c ≠ p) (hp : ∀ q ∈ X.pn ++ pins, q.1 ≠ p)
    (new : ObjOk X.prog X.w (upd H p o) s.heap p o) : Inv X pins σ (upd H p o) s := by
  refine ⟨I.ok, I.os, I.bare, ⟨I.base.keep, I.base.slot, fun b u e n hx => ?_, I.base.there, fun b xs e => ?_, fun b u xs e => ?_, fun b ps e => ?_⟩, I.loc, I.cell, ?_, fun x c e => ?_, fun q hq => ?_, fun b u e => ?_, I.len⟩
  · rw [upd_ne (fun z => by rw [z, h0] at e; cases e)]
    exact I.base.free b u e n hx
  · have z := I.base.tups b xs e
    rw [upd_ne (ne_of_none z hn)]
    exact z
  · have z := I.base.frzs b u xs e
    rw [upd_ne (ne_of_none z hn)]
    exact z
  · obtain ⟨more, z⟩ := I.base.tbls b ps e
    exact ⟨more, by rw [upd_ne (ne_of_none z hn)]; exact z⟩
  · rw [upd_ne hL.symm]
    exact I.free
  · rw [upd_ne (hc x c e)]
    exact I.freeC x c e
  · obtain ⟨a1, a2, a3⟩ := I.pin q hq
    exact ⟨a1, by rw [upd_ne (hp q hq)]; exact a2, a3⟩
  · by_cases hb : b = p
    · subst hb
      rw [upd_same] at e
      cases e
      exact new
    · rw [upd_ne hb] at e
      exact (I.hok b u e).stay (fun c v _ q => q) (fun c q => by rw [upd_ne (ne_of_none q hn)]; exact q) fun c xs q => by rw [upd_ne (ne_of_none q hn)]; exact q
/-- a local name goes -/
theorem unbind_ok {M : Model} {A : Around} {E : Value → Shared → Prop} {i : Nat} {x : Str} {pos : Pos} {Q : Unit → Shared → Prop} (I : Inv X pins σ H s) (hN : X.N.Nodup) (hi : X.N[i]? = some x) (hx : X.env.scope.names.lookup x = some .local)
    (h : ∀ s', Inv X pins (σ.set i none) H s' → Q () s') : wpAny M A (do bindName X.env x .none; unbindBehindTheSuite X.env x pos) Q E s := by
  refine wpAny_bind (wpAny_bindName (store_ok I hN hi (Or.inl hx) (v := .non) rfl (fun s1 I1 => ?_) (.inr hx)))
  have hkind : (X.env.scope.kind == .class || (X.env.scope.kind == .module && X.env.locals != X.env.globals)) = false := by rw [I.ok.kind]; rfl
  obtain ⟨m, hn, hl⟩ := I1.loc
  have hlen : i < (σ.set i (some V.non)).length := by
    rw [I1.len]
    exact (List.getElem?_eq_some_iff.mp hi).1
  obtain ⟨u, ru, lk⟩ := hl i x .non hi (by rw [List.length_set] at hlen; simp [hlen]) (Or.inl hx)
  have hm : m x = some u := by
    rcases lk with ⟨_, z⟩ | ⟨z, _⟩
    · exact z
    · have hx' : X.env.kindOf x = some .local := hx
      rcases z with z | z <;> rw [hx'] at z <;> cases z
  unfold unbindBehindTheSuite
  refine wpAny_onRaise (wpAny_unbindName_local hx hn hm hkind fun h' v hn' sb => ?_)
  refine h _ ?_
  have tracked : HOk X.prog X.w H h' := fun b ob e => by
    refine (I1.hok b ob e).stay (fun c w' hc q => (sb.2 c ?_).trans q) (fun _ q => q) fun _ _ q => q
    rintro rfl
    rcases hc with z | hc
    · rw [← z, I1.free] at e; cases e
    · rw [I1.free] at hc; cases hc
  refine ⟨I.ok, I1.os, I1.bare, ⟨fun b o e n hb hx => ?_, fun b o e n hb hx => ?_, I1.base.free, fun b o e hx => ?_, I1.base.tups, I1.base.frzs, I1.base.tbls⟩, ⟨_, hn', fun j y v' e1 e2 e3 => ?_⟩, fun y c e => ?_, I1.free, I1.freeC, fun p hp => ?_, tracked, by rw [List.length_set]; exact I.len⟩
  · exact (sb.2 b (Nat.ne_of_lt (Nat.lt_of_lt_of_le (Heap.lt_size e) I.ok.above))).trans (I1.base.keep b o e n hb hx)
  · obtain ⟨sl, e1⟩ := I1.base.slot b o e n hb hx
    exact ⟨sl, (sb.2 b (Nat.ne_of_lt (Nat.lt_of_lt_of_le (Heap.lt_size e) I.ok.above))).trans e1⟩
  · obtain ⟨o', e1⟩ := I1.base.there b o e hx
    exact ⟨o', (sb.2 b (Nat.ne_of_lt (Nat.lt_of_lt_of_le (Heap.lt_size e) I.ok.above))).trans e1⟩
  · have hj : j ≠ i := fun z => by
      subst z
      rw [List.getElem?_set] at e2
      split at e2
      · split at e2 <;> cases e2
      · rename_i z
        exact absurd rfl z
    rw [List.getElem?_set_ne (Ne.symm hj)] at e2
    obtain ⟨u', r', q⟩ := hl j y v' e1 (by rw [List.getElem?_set_ne (Ne.symm hj)]; exact e2) e3
    refine ⟨u', r', ?_⟩
    rcases q with ⟨k, e⟩ | ⟨k, c, e, z⟩
    · refine .inl ⟨k, ?_⟩
      have : y ≠ x := fun e => hj (nodup_ix hN e1 (e ▸ hi))
      simp [this, e]
    · exact .inr ⟨k, c, e, z.sameBut sb (I1.cne y c e)⟩
  · obtain ⟨w', z⟩ := I1.cell y c e
    exact ⟨w', z.sameBut sb (I1.cne y c e)⟩
  · obtain ⟨e, n, ne, nf, d⟩ := I1.pin p hp
    exact ⟨(sb.2 p.1 ne).trans e, n, ne, nf, d⟩

/-- the state behind the landing of an exception that a callee raised -/
theorem cxe_back {H1 H2 : Hp} {s1 s' : Shared} {cls a0 : Value} {B h5 : Heap} (I1 : Inv X pins σ H1 s1) (os : s'.os = s1.os) (bare : AllBare s'.gens) (un : Un (frs X.stack) [] H1 H2 s1.heap s'.heap) (hok : HOk X.prog X.w H2 s'.heap)
    (fl : Heap.FlyingW B X.stack ea cls a0 h5) (cov : ∀ b o, s'.heap.get? b = some o → b ∉ frs X.stack → (H2 b ≠ none ∨ s1.heap.get? b ≠ none) → B.get? b = some o) (sm : s'.heap.UpToSlots h5) : Inv X pins σ H2 { s' with heap := h5 } := by
  have nx : ∀ b, b ∉ ([] : List Addr) := fun b => by simp
  have k5 : ∀ b o, s'.heap.get? b = some o → b ∉ frs X.stack → (H2 b ≠ none ∨ s1.heap.get? b ≠ none) → h5.get? b = some o := fun b o e n1 n2 => fl.1 b o (cov b o e n1 n2)
  have slt : ∀ b o, s1.heap.get? b = some o → b ∈ frs X.stack → ∃ sl, h5.get? b = some { o with slots := sl } := fun b o e hb => by
    obtain ⟨_, o', ho', hd⟩ := I1.stack.mem hb
    rw [e] at ho'
    cases ho'
    obtain ⟨sl, e1⟩ := un.slot b o e (I1.stkFree b hb) hb (nx b)
    obtain ⟨sl', e2⟩ := sm b _ e1 hd
    exact ⟨sl', e2⟩
  have fr2 : ∀ b u, H2 b = some u → b ∉ frs X.stack := fun b u e hb => by
    obtain ⟨_, o', ho', hd⟩ := I1.stack.mem hb
    rw [un.free b o' ho' (I1.stkFree b hb) (nx b)] at e
    cases e
  refine I1.call' (s' := { s' with heap := h5 }) (ch := []) os ⟨fun b o e n hb _ => ?_, fun b o e n hb _ => slt b o e hb, un.free, fun b o e hx => ?_, un.tups, un.frzs, un.tbls⟩ (fun b u e => ?_) bare fun b hb => absurd hb (nx b)
  · exact k5 b o (un.keep b o e n hb (nx b)) hb (.inr (by rw [e]; simp))
  · by_cases hb : b ∈ frs X.stack
    · obtain ⟨sl, z⟩ := slt b o e hb
      exact ⟨_, z⟩
    · obtain ⟨o', e1⟩ := un.there b o e hx
      exact ⟨o', k5 b o' e1 hb (.inr (by rw [e]; simp))⟩
  · refine (hok b u e).stay (fun c v hc q => ?_) (fun _ q => q) fun _ _ q => q
    rcases hc with z | z
    · subst z
      exact k5 c v q (fr2 c u e) (.inl (by rw [e]; simp))
    · exact k5 c v q (fr2 c _ z) (.inl (by rw [z]; simp))

/-- an exception of the class cls stands there -/
def ExcAt (p : Addr) (cls : Value) (h : Heap) : Prop := ∃ o, h.get? p = some o ∧ o.cls = cls
end
end L2
namespace L2
open PySem PySem.Spec PySem.W PySem.Calls PyProof.Rows
/-- what isinstance asks of an own error class -/
structure ExcKit (K : Frag) (C : Addr) : Prop where
  ga : findIn K (.ref C) "__getattribute__" = some (some (.builtin "BaseException.__getattribute__"))
  gx : findIn K (.ref C) "__getattr__" = some none
  cl : findIn K (.ref C) "__class__" = some (some (.builtin "object.__class__"))
  mo : mroIn K C (.type "object") = some true
  mb : mroIn K C (.type "BaseException") = some true
section
variable {prog : Program} {w : World} {A : Around} {E : Value → Shared → Prop} {h : Heap} {g : Array GenState} {d : Drawn} {t : Nat} {os : OsState} {a C : Addr} {o : Obj} {K : Frag}
theorem exc_ty {M : Model} (hx : h.get? a = some o) (hc : o.cls = .ref C) : Looks M h (typeOf (.ref a)) (.ref C) := hc ▸ (Looks.ld hx).andThen .now
open Builtin Builtin.ObjectAttr Builtin.Getset_descriptor in
theorem exc_get {R : Result → Shared → Prop} {tp : Value} (X : K.In h) (k : ExcKit K C) (hx : h.get? a = some o) (hc : o.cls = .ref C) (hq : R (.ok (.ret (.ref C))) ⟨h, g, d, t, os⟩) :
    codeAny (model prog w) A (.call (.builtin "getset_descriptor.__get__") ⟨[.builtin "object.__class__", .ref a, tp], []⟩) R ⟨h, g, d, t, os⟩ := by
  have L0 := exc_ty (M := model prog w) hx hc
  have L1 := looks_mroIn (M := model prog w) X k.mo
  refine codeAny_call_builtin KF.slot_gs.plain KF.entry_gs (KF.slot_gs.check _ _ _ _ _ _ _ _ KF.type_class (KF.args_gs _ _ _) ?_)
  unfold Builtin.«getset_descriptor.__get__» descrGet
  rw [dga_obj]
  refine wpAny_bind (wpAny_pure ?_)
  unfold descrGetter descrCheckInstance descrNameAndClass isInstance
  simp only [KF.owner_class]
  repeat lk
  refine ⟨Code.quiet_builtin _ (by decide +kernel), codeAny_builtin KF.entry_class ?_⟩
  unfold Builtin.«object.__class__» shownTypeOf
  repeat lk
  exact hq
theorem exc_entry {tk : Tok} {Q : Fin → Shared → Prop} (X : K.In h) (k : ExcKit K C) (hx : h.get? a = some o) (hc : o.cls = .ref C) (hq : Q (.done (.ret (.ref C))) ⟨h, g, d, t, os⟩) :
    wpAny (model prog w) A (Builtin.«object.__getattribute__» ⟨[.ref a, .str "__class__" tk], []⟩) Q E ⟨h, g, d, t, os⟩ := by
  have hT5 : (⟨h, g, d, t, os⟩ : Shared).TypeIs (.builtin "object.__class__") "getset_descriptor" := F.typeOf_object_class
  have f5 := F.typeOf_object_class
  have f6 := F.slot_gs_get.lookup
  have f7 := F.slot_gs_set.lookup
  have L0 := exc_ty (M := model prog w) hx hc
  have L3 := looks_findIn (M := model prog w) X k.cl
  repeat (any_goals (first | assumption | with_reducible refine L3.at ?_ | (with_reducible refine wpAny_loadPart_at hx ?_; rw [hc]) | wp_step))
  refine exc_get X k hx hc ?_
  repeat (any_goals (first | assumption | wp_step))
theorem exc_check {M : Model} {nameV : Value} {Q : Unit → Shared → Prop} (X : K.In h) (k : ExcKit K C) (hx : h.get? a = some o) (hc : o.cls = .ref C) (hq : Q () ⟨h, g, d, t, os⟩) :
    wpAny M A (checkBuiltinCall "BaseException.__getattribute__" ⟨[.ref a, nameV], []⟩) Q E ⟨h, g, d, t, os⟩ := by
  have hk : builtinKind "BaseException.__getattribute__" = some .slot := by decide +kernel
  have hsplit : splitId "BaseException.__getattribute__" = some ("BaseException", "__getattribute__") := by decide +kernel
  have L0 := exc_ty (M := M) hx hc
  have L1 := looks_mroIn (M := M) X k.mb
  have ha := F.args_bexc_ga (.ref a) nameV
  simp only [checkBuiltinCall, hk, hsplit]
  refine wpAny_bind ?_
  unfold isInstance
  repeat (first | with_reducible refine L0.at ?_ | with_reducible refine L1.at ?_ | wp_step)
  exact hq
theorem exc_call {tk : Tok} {R : Result → Shared → Prop} (X : K.In h) (k : ExcKit K C) (hx : h.get? a = some o) (hc : o.cls = .ref C) (hq : R (.ok (.ret (.ref C))) ⟨h, g, d, t, os⟩) :
    codeAny (model prog w) A (.call (.builtin "BaseException.__getattribute__") ⟨[.ref a, .str "__class__" tk], []⟩) R ⟨h, g, d, t, os⟩ :=
  codeAny_call_builtin F.attrBase_ValueError.ga.plain F.entry_bexc_ga (exc_check X k hx hc (exc_entry X k hx hc hq))
theorem exc_by {tk : Tok} {fill expr : Bool} {Q : Value → Shared → Prop} (X : K.In h) (k : ExcKit K C) (hx : h.get? a = some o) (hc : o.cls = .ref C) (hq : Q (.ref C) ⟨h, g, d, t, os⟩) :
    wpAny (model prog w) A (getAttrBy (.ref a) (.str "__class__" tk) fill expr) Q E ⟨h, g, d, t, os⟩ := by
  have f3 := F.attrBase_ValueError.ga.bind (.ref a)
  have hx0 : (expr && onTheHeap (Value.builtin "BaseException.__getattribute__")) = false := by cases expr <;> rfl
  have hx2 : (Value.builtin "BaseException.__getattribute__" == Value.builtin "object.__getattribute__") = false := by decide +kernel
  have hx1 : (onTheHeap (Value.ref C) && Value.builtin "BaseException.__getattribute__" == Value.builtin "object.__getattribute__") = false := by rw [hx2]; rfl
  have L0 := exc_ty (M := model prog w) hx hc
  have L1 := looks_findIn (M := model prog w) X k.ga
  have L2 := looks_findIn (M := model prog w) X k.gx
  repeat (any_goals (first | assumption | with_reducible refine L1.at ?_ | with_reducible refine L2.at ?_ | (with_reducible refine wpAny_loadPart_at hx ?_; rw [hc]) | wp_step))
  refine exc_call X k hx hc ?_
  repeat (any_goals (first | assumption | wp_step))
theorem exc_attr {Q : Option Value → Shared → Prop} (X : K.In h) (k : ExcKit K C) (hx : h.get? a = some o) (hc : o.cls = .ref C) (hq : Q (some (.ref C)) ⟨h, g, d, t + 1, os⟩) :
    wpAny (model prog w) A (getAttr? (.ref a) "__class__") Q E ⟨h, g, d, t, os⟩ := by
  unfold getAttr? getAttrBy?
  repeat (any_goals (first | assumption | with_reducible apply exc_by X k hx hc | wp_step))
theorem kitx_exc (k : ExcKit K C) : KitX K (.ref a) (.ref C) (ExcAt a (.ref C)) where
  ty := fun _ _ _ ⟨_, e, c⟩ => exc_ty e c
  it := fun _ _ X _ => by
    obtain ⟨cdD, hcD, _⟩ := Option.bind_eq_some_iff.mp k.mo
    unfold clsIn at hcD
    split at hcD
    · rename_i c' d' cd' sl' ho
      intro A' Q' E' s' k q
      unfold isType loadHead
      exact wpAny_bind (wpAny_loadPart (k _ _ (X _ _ ho)) (wpAny_pure q))
    · cases hcD
  ne := fun h tp dd its n sl X htp => by
    obtain ⟨cdD, hcD, _⟩ := Option.bind_eq_some_iff.mp k.mo
    refine Bool.eq_false_iff.mpr fun q => ?_
    have e : C = tp := Value.ref.inj (beq_iff_eq.mp q)
    subst e
    unfold clsIn at hcD
    split at hcD
    · rename_i c' d' cd' sl' ho
      have z := (X _ _ ho).symm.trans htp
      cases z
    · cases hcD
  ca := fun {_ _ _ _ _ s} X ⟨o, e, c⟩ q => by
    obtain ⟨h, g, d, t, os⟩ := s
    exact exc_attr X k e c q
end
section
variable {X : Cx}
/-- isinstance of an exception that was caught -/
def rIsiX (K : Frag) : List V → Hp → VK → Prop := fun xs H Q => ∃ p c cv C b, xs = [.ref p, c] ∧ RelV c cv ∧ H p = some (.ext (ExcAt p (.ref C))) ∧ ExcKit K C ∧ kitOne K (.ref C) cv = some b ∧ Q (.bl b) H
theorem relV_fun {c : V} {u v : Value} (h : (∃ n, c = .ty n) ∨ ∃ a, c = .ref a) (r : RelV c u) (q : RelV c v) : u = v := by
  rcases h with ⟨n, rfl⟩ | ⟨n, rfl⟩
  · exact (show u = Value.type n from r).trans (show v = Value.type n from q).symm
  · exact (show u = Value.ref n from r).trans (show v = Value.ref n from q).symm
theorem call_isiX : CallR X (.builtin "isinstance") (fun xs H Q => ∃ p c cv C b, xs = [.ref p, c] ∧ ((∃ n, c = .ty n) ∨ ∃ a, c = .ref a) ∧ RelV c cv ∧ H p = some (.ext (ExcAt p (.ref C))) ∧ ExcKit X.K C ∧ kitOne X.K (.ref C) cv = some b ∧ Q (.bl b) H) := by
  intro pins s σ H xs us Q I r h
  obtain ⟨p, c, cv, C, b, rfl, hk, rc, hp, k, e, q⟩ := h
  obtain ⟨u, w', rfl, r1, r2⟩ := vals2 r
  cases (show u = Value.ref p from r1)
  cases relV_fun hk rc r2
  obtain ⟨φ, _, _⟩ := (show ObjOk X.prog X.w H s.heap p (.ext (ExcAt p (.ref C))) from I.hok p _ hp)
  exact kia_one (kitx_exc k) I.kIn φ e (fun z => nomatch z) fun tk => ⟨.bl b, H, I.tok tk, rfl, q⟩
end
end L2
namespace L2
open PySem PySem.Spec PyProof.Rows
/-- try: f(..) / except C as n: suite; what the suite leaves, without n -/
def tTry (K : PySem.W.Frag) (Ch : Value) (i : Nat) (sp : Sp) (t : TA) (ts : TS) : TS := fun D σ H => t σ H fun vs H1 => sp vs H1 (fun _ H2 => D.nx σ H2)
  (fun cls _ H2 => (∃ C, cls = .ref C) ∧ PySem.W.exmOne K cls Ch = some true ∧ ∀ ea, H2 ea = none → ts { nx := fun σ' H' => D.nx (σ'.set i none) H', rt := fun _ _ => False } (σ.set i (some (.ref ea))) (upd H2 ea (.ext (ExcAt ea cls))))
section
variable {X : Cx} {k : Nat} {f : Addr} {fd : FuncData} {ps : List Str} {sp : Sp} {x c n : Str} {p cpos epos np hpos pos : Pos} {e : Expr} {es : List Expr} {t : TA} {b₀ : Stmt} {suite : List Stmt} {ts : TS} {i : Nat} {Ch : Value}
theorem ps_try (F : FnOk X.prog X.w X.K X.mg X.base (CXe X.prog X.w) k f fd ps sp) (hr : Room k X.A) (hg : Gl X x) (hm : X.mg x = some (.ref f)) (hk : PySem.W.keepIn X.K (.ref f) = true) (hb : Binds X.K fd ps [])
    (ha : PA X (e :: es) t) (hgc : Gl X c) (hmc : X.mg c = some Ch) (hN : X.N.Nodup) (hi : X.N[i]? = some n) (hn : X.env.scope.names.lookup n = some .local) (hsu : ∀ ea, PSs (X.marked ea) (b₀ :: suite) ts)
    (hcalm : X.calm = true) (hne : ∀ e s, X.xe e s → False) (hex : X.ex = []) (hst : X.stack = X.env :: X.outer) (hfr : X.env.frame = some X.env.locals)
    (hdb : (x == ("__debug__" : Str)) = false := by decide) (hdc : (c == ("__debug__" : Str)) = false := by decide) (he : starEach (e :: es) X.env = (false, eval e X.env) :: starEach es X.env := by rfl) (hpl : (backTo cpos (starEach es X.env)).any (·.1) = false := by rfl)
    (hs : swapsWith (.Call (.Name x p) (e :: es) [] cpos) none epos.line X.env = pure false := by rfl) :
    PS X (.Try [.Expr (.Call (.Name x p) (e :: es) [] cpos) epos] [.ExceptHandler (some (.Name c np)) (some n) (b₀ :: suite) hpos] [] [] pos) (tTry X.K Ch i sp t ts) := by
  intro pins s σ H D I h
  have frm : X.A.frames = some (X.env :: X.outer) := by rw [I.ok.frames, hst]
  refine wpAny_Try_except (wpAny_execs_cons (wpAny_Expr_any ?_ I.quiet hs))
  refine wpAny_Call_Name_kw (ld_glob I hg hm ?_ hdb)
  refine PySem.W.callWith_K (h₀ := X.base) I.ok.mod.kin hk (wpAny_mono (ha cpos pins s σ H _ I h) (fun us s1 hq => ?_) fun _ _ z => (hne _ _ z).elim) he hpl
  obtain ⟨vs, H1, I1, r, q⟩ := hq
  refine ⟨I1.kIn, ?_⟩
  have hl : (us ++ []).length = ps.length := by rw [List.append_nil, ← r.length]; exact F.len _ _ _ _ q
  have hbd := hb s1 us I1.kIn hl
  rw [List.append_nil] at hbd
  refine wpAny_call (codeAny_mono (F.run X.A X.stack s1 H1 ⟨us, []⟩ us vs _ _ hr I1.env0 hbd r q) fun res s' hq => ?_)
  cases res with
  | ok fl =>
    cases fl with
    | ret u =>
      obtain ⟨v, H2, I2, _, q2⟩ := I1.after hq
      exact wpAny_execs_nil (wpAny_execs_nil ⟨σ, H2, I2, q2⟩)
    | next => exact False.elim hq
    | brk => exact False.elim hq
    | cont => exact False.elim hq
  | error ev =>
    obtain ⟨ea, cls, a0, H2, B, rfl, hos, bare, un, hok, fl, cov, hea, sea, ⟨C, rfl⟩, hx, hsuite⟩ := hq
    rw [hst] at fl
    refine wpAny_looks_onW frm hfr fl fun h4 held4 sm4 => ?_
    refine wpAny_landsW held4 fun h5 fl5 sm5 => ?_
    have fl5' : Heap.FlyingW B X.stack ea (.ref C) a0 h5 := by rw [hst]; exact fl5
    have I5 : Inv X pins σ H2 { s' with heap := h5 } := cxe_back I1 hos bare un hok fl5' cov (sm4.trans sm5)
    refine wpAny_handleBy_cons (codeAny_handlers_test (ld_glob (I5.marked ea) hgc hmc ?_ hdc)) (by intro q; cases q)
    obtain ⟨ob, hob, hobc⟩ := fl5.there
    have LT : PySem.W.Looks (model X.prog X.w) h5 (typeOf (.ref ea)) (.ref C) := hobc ▸ (PySem.W.Looks.ld hob).andThen .now
    refine (PySem.W.exm_one I5.kIn LT hx).here ?_
    refine codeAny_handlers_suite_as ?_
    refine lands_againW fl5 fun h6 fl6 sm6 => ?_
    have fl6' : Heap.FlyingW B X.stack ea (.ref C) a0 h6 := by rw [hst]; exact fl6
    have I6 : Inv X pins σ H2 { s' with heap := h6 } := cxe_back I1 hos bare un hok fl6' cov ((sm4.trans sm5).trans sm6)
    obtain ⟨ob6, hob6, hobc6⟩ := fl6.there
    have ne1 : ∀ b o, s1.heap.get? b = some o → b ≠ ea := fun b o e z => by rw [z, sea] at e; cases e
    have I7 : Inv X pins σ (upd H2 ea (.ext (ExcAt ea (.ref C)))) { s' with heap := h6 } := by
      refine I6.adopt hea ?_ ?_ (fun y cc e => ?_) (fun p hp => ?_) ⟨⟨ob6, hob6, hobc6⟩, ⟨ob6, hob6⟩, fun h1 h2 ⟨o, e, ec⟩ kp => ⟨o, kp o e, ec⟩⟩
      · cases q : X.s₀.heap.get? ea with
        | none => rfl
        | some o =>
          obtain ⟨o', z⟩ := I1.base.there ea o q (by rw [hex]; simp)
          rw [sea] at z
          cases z
      · obtain ⟨m, ⟨o, _, _, z, _⟩, _⟩ := I1.loc
        exact (ne1 _ _ z).symm
      · obtain ⟨v, o, z, _⟩ := I1.cell y cc e
        exact ne1 _ _ z
      · exact ne1 _ _ (I1.pin p hp).1
    refine store_ok I7 hN hi (Or.inl hn) (v := .ref ea) rfl (fun s8 I8 => ?_) (.inr hn)
    refine wpAny_mono (hsu ea pins s8 _ _ _ (I8.marked ea) (hsuite ea hea)) (fun fw s9 h9 => ?_) fun _ _ z => z.elim
    cases fw with
    | next =>
      obtain ⟨σ9, H9, I9, q9⟩ := h9
      exact unbind_ok (I9.unmarked I.ok.hd) hN hi hn fun s10 I10 => ⟨_, H9, I10, q9⟩
    | ret v => obtain ⟨_, _, _, _, _, z⟩ := h9; exact z.elim
    | brk => obtain ⟨_, _, _, z⟩ := h9; exact z.elim
    | cont => obtain ⟨_, _, _, z⟩ := h9; exact z.elim
end
/-- THE RULE for a def that may raise -/
theorem Fun.okE {P : Program} {w : World} {K : PySem.W.Frag} {mg : Str → Option Value} {base : Heap} {x qual : Str} {st : Stmt} {f : Addr} {fd : FuncData} {N ps : List Str} {k : Nat} {sp : Sp} (F : Fun K x qual st f fd) (S : FnScope N ps (defScope st)) (len : ∀ vs H Q E, sp vs H Q E → vs.length = ps.length)
    (hbody : ∀ (cdv : Value) (A : Around) (outer : List Env) (s : Shared) (H : Hp) (vs : List V) (Q : VK) (E : XK), Room k (A.deeper (envOfC qual (defScope st) s.heap.objs.size f cdv)) → sp vs H Q E →
      ∃ t, PSs (cxOf (CXe P w) P w K mg base N qual (defScope st) f cdv A outer s H E) (defBody st) t ∧ t { nx := fun _ H' => Q .non H', rt := Q } (start N vs) H) : FnOk P w K mg base (CXe P w) (k + 1) f fd ps sp := by
  obtain ⟨oc, od, kV, doc, pm, an, cdv, ct, osl, rfl, lk, hcd⟩ := F.ex
  exact fn_of lk hcd S len fun A outer s H vs Q E hr hsp => hbody cdv A outer s H vs Q E hr hsp
end L2
namespace L2
open PySem PySem.Spec PyProof.Rows
section
variable {X : Cx}
theorem ints_get {its : List Value} {ns : List Int} (i : IntsAre its ns) : ∀ (j : Nat) v, its[j]? = some v → ∃ t, v = Value.int (ns.getD j 0) t := by
  induction i with
  | nil => intro j v h; simp at h
  | cons n t i ih =>
    intro j v h
    cases j with
    | zero => simp at h; exact ⟨t, h.symm⟩
    | succ j =>
      obtain ⟨t', e⟩ := ih j v (by simpa using h)
      exact ⟨t', by simpa using e⟩
/-- sum(xs), xs a list of numbers -/
theorem call_sum (hc : X.calm = true) : CallR X (.builtin "sum") (fun xs H Q => ∃ (p : Addr) (ns : List Int), xs = [.ref p] ∧ SqL X.K H p (ns.map V.int) ∧ Q (.int ns.sum) H) := by
  intro pins s σ H xs us Q I r h
  obtain ⟨p, ns, rfl, hp, q⟩ := h
  obtain ⟨u, rfl, ru⟩ := vals1 r
  cases ru
  obtain ⟨its, rv, pl, _⟩ := I.list hp
  have i1 : IntsAre its ns := intsAre_of rv
  have lp : p < s.heap.objs.size := by obtain ⟨_, e, _⟩ := pl.isList; exact Heap.lt_size e
  refine call_sum_walkG (wpAny_pyIter_list pl.isList ?_)
  refine ⟨s.heap.objs.size, _, _, _, _, _, fun j => ns.getD j 0, rfl, Walks.list (A := X.A.in1) (I.ok.hd hc) s.heap.objs.size p (Nat.ne_of_lt lp) its.toArray, ⟨⟨_, Heap.get?_push_size _ rfl, rfl, rfl⟩, pl.isList.at fun o e => Heap.get?_push_of_some _ e⟩, fun b hb => ?_, fun j v hj => ints_get i1 j v (by simpa using hj), fun h' tk t' kk => ?_⟩
  · have hb' : b = s.heap.objs.size ∨ b = p := by simpa using hb
    rcases hb' with rfl | rfl
    · rw [Heap.size_push]; exact Nat.lt_succ_self _
    · rw [Heap.size_push]; exact Nat.lt_succ_of_lt lp
  · refine ⟨.int ns.sum, H, I.kept (t' := tk) fun b o e => kk b o (fun z => ?_) (Heap.get?_push_of_some _ e), ⟨t', ?_⟩, q⟩
    · have z' : b = s.heap.objs.size := by simpa using z
      exact absurd (Heap.lt_size e) (by rw [z']; exact Nat.lt_irrefl _)
    · have l1 : its.toArray.size = ns.length := by rw [List.size_toArray]; exact i1.length
      rw [preSum_getD, l1, List.take_of_length_le (Nat.le_refl _)]
end
/-- a callee that raises nothing here -/
theorem passE {P : Program} {w : World} {X : Cx} : Passes (CXe P w) X E0 := fun _ _ _ _ _ _ _ h => by
  obtain ⟨_, _, _, _, _, _, _, _, _, _, _, _, _, _, z⟩ := h
  exact z.elim
end L2
/-! ### own rules over the layer, 4: texts; tests that grow with what is wanted of them -/
namespace L2
open PySem PySem.Spec PyProof.Rows
section
variable {X : Cx}
def rLeS : R2 := fun x y H Q => ∃ i j, x = .str i ∧ y = .str j ∧ Q (.bl (!decide (j.cps.toList < i.cps.toList))) H
theorem op_le_str : OpR X (compareOp .LtE) rLeS := by
  intro pins s σ H x y v u Q I rx ry h
  obtain ⟨i, j, rfl, rfl, q⟩ := h
  obtain ⟨t, rfl⟩ := rx
  obtain ⟨t', rfl⟩ := ry
  exact PySem.P.le_str (fin_bl I q rfl)
/-- z[i:j] of a text -/
def rSlS : V → Option Int → Option Int → Hp → VK → Prop := fun x lo hi H Q => ∃ z i j, x = .str z ∧ lo = some i ∧ hi = some j ∧ z.length ≤ sizeLine ∧ Q (.str (Txt.slice z (some i) (some j))) H
theorem sl_str : SlR X rSlS := by
  intro pins s σ H x v vl vu lo hi sl Q I rx hs pl pu h
  obtain ⟨z, i, j, rfl, rfl, rfl, hz, q⟩ := h
  obtain ⟨t, rfl⟩ := rx
  cases pl with
  | int _ ti =>
    cases pu with
    | int _ tj =>
      refine ⟨"str", _, PySem.F.slot_str_getitem.lookup, typeIs_str _ _ _, wpAny_getItem_str_slice (l := some (i, ti)) (u := some (j, tj)) (st := none) hs rfl
        (post_val_or_str ⟨Nat.le_trans (Txt.slice_le z _ _) hz, fun t' k => ?_⟩)⟩
      exact ⟨.str (Txt.slice z (some i) (some j)), H, I.tok _, ⟨_, rfl⟩, q⟩
theorem op_mul_str : OpR X (binaryOp .Mult) (fun x y H Q => ∃ z n, x = .str z ∧ y = .int n ∧ MulOk z n ∧ Q (.str (Txt.mul z n)) H) := by
  intro pins s σ H x y v u Q I rx ry h
  obtain ⟨z, n, rfl, rfl, hm, q⟩ := h
  obtain ⟨t, rfl⟩ := rx
  obtain ⟨t', rfl⟩ := ry
  exact SB.mul hm fun t' k => ⟨.str (Txt.mul z n), H, I.tok _, ⟨_, rfl⟩, q⟩
theorem mt_zfill : MtR X "str.zfill" (fun x vs H Q => ∃ z i, x = .str z ∧ vs = [.int i] ∧ PadOk i = true ∧ Q (.str (Txt.zfill z i)) H) := by
  intro pins s σ H x xs v us Q I rx rs h
  obtain ⟨z, i, rfl, rfl, hp, q⟩ := h
  obtain ⟨t, rfl⟩ := rx
  obtain ⟨u, rfl, ru⟩ := vals1 rs
  obtain ⟨t', rfl⟩ := ru
  exact SC.zfill hp fun t' k => ⟨.str (Txt.zfill z i), H, I.tok _, ⟨_, rfl⟩, q⟩
/-- two lists of the same texts are equal -/
theorem op_eqLS (hu : X.A.units < cLine) : OpR X (compareOp .Eq) (fun x y H Q => ∃ (a b : Addr) (ws : List Str), x = .ref a ∧ y = .ref b ∧ SqL X.K H a (ws.map V.str) ∧ SqL X.K H b (ws.map V.str) ∧ Q (.bl true) H) := by
  intro pins s σ H x y v u Q I rx ry h
  obtain ⟨a, b, ws, rfl, rfl, ha, hb, q⟩ := h
  cases rx
  cases ry
  obtain ⟨its, r1, p1, _⟩ := I.list ha
  obtain ⟨its2, r2, p2, _⟩ := I.list hb
  have l1 := r1.length
  have l2 := r2.length
  refine SeqAt.eq_listAt (e := fun _ => true) p1.isList p2.isList (by simp only [List.size_toArray]; omega) hu (fun j h1 h2 => ?_) ?_
  · have hj : j < ws.length := by
      rw [List.size_toArray] at h1
      rw [List.length_map] at l1
      omega
    obtain ⟨u1, e1, q1⟩ := r1.get (i := j) (x := .str ws[j]) (by simp [hj])
    obtain ⟨u2, e2, q2⟩ := r2.get (i := j) (x := .str ws[j]) (by simp [hj])
    obtain ⟨t1, rfl⟩ := q1
    obtain ⟨t2, rfl⟩ := q2
    have f1 : its.toArray[j] = Value.str ws[j] t1 := by
      have := (List.getElem?_eq_some_iff.mp e1).2
      simpa using this
    have f2 : its2.toArray[j] = Value.str ws[j] t2 := by
      have := (List.getElem?_eq_some_iff.mp e2).2
      simpa using this
    rw [f1, f2]
    have := SeqAt.EqAt.str_str (A := X.A.in1) (s := s) ws[j] t1 ws[j] t2
    rw [beq_self_eq_true] at this
    exact this
  · refine fin_bl I q ?_
    simp
end
/-! what a reading wants may grow -/
def MonE (t : TE) : Prop := ∀ σ H Q Q', (∀ v H1, Q v H1 → Q' v H1) → t σ H Q → t σ H Q'
def MonT (t : TT) : Prop := ∀ σ H Q Q', (∀ b H1, Q b H1 → Q' b H1) → t σ H Q → t σ H Q'
def MonA (t : TA) : Prop := ∀ σ H Q Q', (∀ v H1, Q v H1 → Q' v H1) → t σ H Q → t σ H Q'
def MonR (r : R2) : Prop := ∀ x y H Q Q', (∀ v H1, Q v H1 → Q' v H1) → r x y H Q → r x y H Q'
def MonS (sp : Sp) : Prop := ∀ vs H Q Q' E, (∀ v H1, Q v H1 → Q' v H1) → sp vs H Q E → sp vs H Q' E
def MonB (r : List V → Hp → VK → Prop) : Prop := ∀ xs H Q Q', (∀ v H1, Q v H1 → Q' v H1) → r xs H Q → r xs H Q'
theorem mon_var (i : Nat) : MonE (tVar i) := fun _ _ _ _ h ⟨v, e, q⟩ => ⟨v, e, h _ _ q⟩
theorem mon_c (v : V) : MonE (tC v) := fun _ H _ _ h q => h v H q
theorem mon_op {r : R2} {ta tb : TE} (hr : MonR r) (ha : MonE ta) (hb : MonE tb) : MonE (tOp r ta tb) :=
  fun σ H _ _ h q => ha σ H _ _ (fun x H1 q1 => hb σ H1 _ _ (fun y H2 q2 => hr x y H2 _ _ h q2) q1) q
theorem mon_rI0 {g : Int → Int → V} : MonR (rI0 g) := fun _ _ _ _ _ h ⟨i, j, e1, e2, q⟩ => ⟨i, j, e1, e2, h _ _ q⟩
theorem mon_rI {C : Int → Int → Prop} {g : Int → Int → V} : MonR (rI C g) := fun _ _ _ _ _ h ⟨i, j, e1, e2, c, q⟩ => ⟨i, j, e1, e2, c, h _ _ q⟩
theorem mon_rEq : MonR rEq := fun _ _ _ _ _ h ⟨e, q⟩ => ⟨e, h _ _ q⟩
theorem mon_rNe : MonR rNe := fun _ _ _ _ _ h ⟨e, q⟩ => ⟨e, h _ _ q⟩
theorem mon_rIxS : MonR rIxS := fun _ _ _ _ _ h ⟨z, i, c, e1, e2, e3, e4, q⟩ => ⟨z, i, c, e1, e2, e3, e4, h _ _ q⟩
theorem mon_rIxL {K : PySem.W.Frag} : MonR (rIxL K) := fun _ _ _ _ _ h ⟨z, i, c, e, e1, e2, e3, e4, q⟩ => ⟨z, i, c, e, e1, e2, e3, e4, h _ _ q⟩
theorem mon_rIxT {K : PySem.W.Frag} : MonR (rIxT K) := fun _ _ _ _ _ h ⟨z, i, c, e, e1, e2, e3, e4, q⟩ => ⟨z, i, c, e, e1, e2, e3, e4, h _ _ q⟩
theorem mon_test {t : TE} (h : MonE t) : MonT (tTest t) := fun σ H _ _ hq q => h σ H _ _ (fun _ _ ⟨k, e, q'⟩ => ⟨k, e, hq _ _ q'⟩) q
theorem mon_tB {t : TE} (h : MonE t) : MonT (tB t) := fun σ H _ _ hq q => h σ H _ _ (fun _ _ ⟨k, e, q'⟩ => ⟨k, e, hq _ _ q'⟩) q
theorem mon_and {t u : TT} (ht : MonT t) (hu : MonT u) : MonT (tAnd t u) := fun σ H _ _ hq q => ht σ H _ _ (fun c H1 q1 => by
  cases c with
  | true => rw [if_pos rfl] at q1 ⊢; exact hu σ H1 _ _ hq q1
  | false => rw [if_neg Bool.false_ne_true] at q1 ⊢; exact hq _ _ q1) q
theorem mon_not {t : TT} (ht : MonT t) : MonT (tNot t) := fun σ H _ _ hq q => ht σ H _ _ (fun _ _ q1 => hq _ _ q1) q
theorem mon_nil : MonA tNil := fun _ _ _ _ h q => h _ _ q
theorem mon_cons {te : TE} {t : TA} (he : MonE te) (ht : MonA t) : MonA (tCons te t) := fun σ H _ _ h q => he σ H _ _ (fun _ H1 q1 => ht σ H1 _ _ (fun _ _ q2 => h _ _ q2) q1) q
theorem mon_call {sp : Sp} {dvs : List V} {E : XK} {t : TA} (hs : MonS sp) (ht : MonA t) : MonE (tCall sp dvs E t) := fun σ H _ _ h q => ht σ H _ _ (fun vs H1 q1 => hs _ H1 _ _ E h q1) q
theorem mon_cb {r : List V → Hp → VK → Prop} {t : TA} (hr : MonB r) (ht : MonA t) : MonE (tCB r t) := fun σ H _ _ h q => ht σ H _ _ (fun vs H1 q1 => hr _ H1 _ _ h q1) q
theorem mon_lenS : MonB (fun xs H Q => ∃ z, xs = [.str z] ∧ z.length ≤ sizeLine ∧ Q (.int z.length) H) := fun _ _ _ _ h ⟨z, e, l, q⟩ => ⟨z, e, l, h _ _ q⟩
theorem mon_lenQ {K : PySem.W.Frag} : MonB (fun xs H Q => ∃ p ys, xs = [.ref p] ∧ (SqL K H p ys ∨ SqT K H p ys) ∧ Q (.int ys.length) H) := fun _ _ _ _ h ⟨z, ys, e, l, q⟩ => ⟨z, ys, e, l, h _ _ q⟩
end L2
/-! ### own rules over the layer, 5: data (None, numbers, texts, tuples of such), == and != of them, of lists of them -/
namespace L2
open PySem PySem.Spec PyProof.Rows
inductive Dt where
  | non | int (i : Int) | str (x : Str) | tup (ds : List Dt)
mutual
def Dt.beq : Dt → Dt → Bool
  | .non, .non => true
  | .int i, .int j => i == j
  | .str x, .str y => x == y
  | .tup a, .tup b => Dt.beqs a b
  | _, _ => false
def Dt.beqs : List Dt → List Dt → Bool
  | [], [] => true
  | x :: xs, y :: ys => Dt.beq x y && Dt.beqs xs ys
  | _, _ => false
end
mutual
def Dt.hgt : Dt → Nat
  | .tup ds => Dt.hgts ds + 1
  | _ => 0
def Dt.hgts : List Dt → Nat
  | [] => 0
  | d :: r => max (Dt.hgt d) (Dt.hgts r)
end
mutual
def DatAt (K : PySem.W.Frag) (H : Hp) : V → Dt → Prop
  | v, .non => v = .non
  | v, .int i => v = .int i
  | v, .str x => v = .str x
  | v, .tup ds => ∃ r vs, v = .ref r ∧ SqT K H r vs ∧ DatsAt K H vs ds
def DatsAt (K : PySem.W.Frag) (H : Hp) : List V → List Dt → Prop
  | [], [] => True
  | v :: vs, d :: ds => DatAt K H v d ∧ DatsAt K H vs ds
  | _, _ => False
end
mutual
theorem Dt.beq_iff : ∀ (x y : Dt), Dt.beq x y = true ↔ x = y
  | .non, y => by cases y <;> simp [Dt.beq]
  | .int i, y => by cases y <;> simp [Dt.beq]
  | .str i, y => by cases y <;> simp [Dt.beq]
  | .tup a, y => by
    cases y with
    | tup b =>
      have := Dt.beqs_iff a b
      simp [Dt.beq, this]
    | _ => simp [Dt.beq]
theorem Dt.beqs_iff : ∀ (x y : List Dt), Dt.beqs x y = true ↔ x = y
  | [], y => by cases y <;> simp [Dt.beqs]
  | a :: r, y => by
    cases y with
    | nil => simp [Dt.beqs]
    | cons b t =>
      have h1 := Dt.beq_iff a b
      have h2 := Dt.beqs_iff r t
      simp [Dt.beqs, h1, h2]
end
theorem Dt.beq_self (x : Dt) : Dt.beq x x = true := (Dt.beq_iff x x).mpr rfl
theorem Dt.beqs_self (x : List Dt) : Dt.beqs x x = true := (Dt.beqs_iff x x).mpr rfl
theorem Dt.beq_ne {x y : Dt} (h : x ≠ y) : Dt.beq x y = false := by
  cases e : Dt.beq x y with
  | false => rfl
  | true => exact absurd ((Dt.beq_iff x y).mp e) h
theorem Dt.beqs_ne {x y : List Dt} (h : x ≠ y) : Dt.beqs x y = false := by
  cases e : Dt.beqs x y with
  | false => rfl
  | true => exact absurd ((Dt.beqs_iff x y).mp e) h
theorem Dt.hgt_mem : ∀ {ds : List Dt} {d : Dt}, d ∈ ds → d.hgt ≤ Dt.hgts ds
  | e :: r, d, h => by
    have e1 : Dt.hgts (e :: r) = max (Dt.hgt e) (Dt.hgts r) := by simp [Dt.hgts]
    rw [e1]
    rcases List.mem_cons.mp h with z | z
    · rw [z]; omega
    · have := Dt.hgt_mem z
      omega
section
variable {K : PySem.W.Frag} {H H' : Hp}
theorem DatAt.non : DatAt K H .non .non := by simp [DatAt]
theorem DatAt.int (i : Int) : DatAt K H (.int i) (.int i) := by simp [DatAt]
theorem DatAt.str (i : Str) : DatAt K H (.str i) (.str i) := by simp [DatAt]
theorem DatAt.tup {r : Addr} {vs : List V} {ds : List Dt} (h : SqT K H r vs) (k : DatsAt K H vs ds) : DatAt K H (.ref r) (.tup ds) := by
  simp only [DatAt]
  exact ⟨r, vs, rfl, h, k⟩
theorem DatsAt.nil : DatsAt K H [] [] := by simp [DatsAt]
theorem DatsAt.cons {v : V} {d : Dt} {vs : List V} {ds : List Dt} (h : DatAt K H v d) (k : DatsAt K H vs ds) : DatsAt K H (v :: vs) (d :: ds) := by
  simp only [DatsAt]
  exact ⟨h, k⟩
theorem DatAt.un {v : V} {ds : List Dt} (h : DatAt K H v (.tup ds)) : ∃ r vs, v = .ref r ∧ SqT K H r vs ∧ DatsAt K H vs ds := by
  simp only [DatAt] at h
  exact h
theorem DatsAt.un {vs : List V} {d : Dt} {ds : List Dt} (h : DatsAt K H vs (d :: ds)) : ∃ v r, vs = v :: r ∧ DatAt K H v d ∧ DatsAt K H r ds := by
  cases vs with
  | nil => simp [DatsAt] at h
  | cons v r =>
    simp only [DatsAt] at h
    exact ⟨v, r, rfl, h.1, h.2⟩
theorem DatsAt.un0 {vs : List V} (h : DatsAt K H vs []) : vs = [] := by
  cases vs with
  | nil => rfl
  | cons v r => simp [DatsAt] at h
mutual
theorem DatAt.same (e : Same H H') : ∀ {v : V} {d : Dt}, DatAt K H v d → DatAt K H' v d
  | v, .non, h => by simpa [DatAt] using h
  | v, .int i, h => by simpa [DatAt] using h
  | v, .str i, h => by simpa [DatAt] using h
  | v, .tup ds, h => by
    obtain ⟨r, vs, rfl, h1, h2⟩ := h.un
    exact .tup (e.tup h1) (DatsAt.same e h2)
theorem DatsAt.same (e : Same H H') : ∀ {vs : List V} {ds : List Dt}, DatsAt K H vs ds → DatsAt K H' vs ds
  | vs, [], h => by
    rw [h.un0]
    exact .nil
  | vs, d :: ds, h => by
    obtain ⟨v, r, rfl, h1, h2⟩ := h.un
    exact .cons (DatAt.same e h1) (DatsAt.same e h2)
end
theorem DatsAt.length : ∀ {vs : List V} {ds : List Dt}, DatsAt K H vs ds → vs.length = ds.length
  | vs, [], h => by rw [h.un0]; rfl
  | vs, d :: ds, h => by
    obtain ⟨v, r, rfl, _, h2⟩ := h.un
    simp [DatsAt.length h2]
theorem DatsAt.get : ∀ {vs : List V} {ds : List Dt} {i : Nat} {d : Dt}, DatsAt K H vs ds → ds[i]? = some d → ∃ v, vs[i]? = some v ∧ DatAt K H v d
  | vs, [], i, d, h, e => by simp at e
  | vs, c :: ds, i, d, h, e => by
    obtain ⟨v, r, rfl, h1, h2⟩ := h.un
    cases i with
    | zero =>
      have e' : c = d := by simpa using e
      subst e'
      exact ⟨v, rfl, h1⟩
    | succ i =>
      obtain ⟨u, e1, e2⟩ := DatsAt.get (i := i) (d := d) h2 (by simpa using e)
      exact ⟨u, by simpa using e1, e2⟩
theorem DatsAt.get' {vs : List V} {ds : List Dt} {i : Nat} {v : V} (h : DatsAt K H vs ds) (e : vs[i]? = some v) : ∃ d, ds[i]? = some d ∧ DatAt K H v d := by
  have hl := h.length
  have hi : i < ds.length := by
    have := (List.getElem?_eq_some_iff.mp e).1
    omega
  obtain ⟨u, e1, e2⟩ := h.get (List.getElem?_eq_getElem hi)
  rw [e] at e1
  cases e1
  exact ⟨_, List.getElem?_eq_getElem hi, e2⟩
theorem DatsAt.append : ∀ {vs ws : List V} {ds es : List Dt}, DatsAt K H vs ds → DatsAt K H ws es → DatsAt K H (vs ++ ws) (ds ++ es)
  | vs, ws, [], es, h, k => by
    rw [h.un0]
    exact k
  | vs, ws, d :: ds, es, h, k => by
    obtain ⟨v, r, rfl, h1, h2⟩ := h.un
    exact .cons h1 (DatsAt.append h2 k)
theorem DatsAt.take : ∀ {vs : List V} {ds : List Dt} (n : Nat), DatsAt K H vs ds → DatsAt K H (vs.take n) (ds.take n)
  | vs, ds, 0, _ => .nil
  | vs, [], n + 1, h => by
    rw [h.un0]
    exact .nil
  | vs, d :: ds, n + 1, h => by
    obtain ⟨v, r, rfl, h1, h2⟩ := h.un
    exact .cons h1 (DatsAt.take n h2)
theorem DatsAt.drop : ∀ {vs : List V} {ds : List Dt} (n : Nat), DatsAt K H vs ds → DatsAt K H (vs.drop n) (ds.drop n)
  | vs, ds, 0, h => h
  | vs, [], n + 1, h => by
    rw [h.un0]
    exact .nil
  | vs, d :: ds, n + 1, h => by
    obtain ⟨v, r, rfl, h1, h2⟩ := h.un
    exact DatsAt.drop n h2
end
theorem Dt.all_beqs : ∀ (a b : List Dt), ((List.range (min a.length b.length)).all (fun j => Dt.beq (a.getD j .non) (b.getD j .non)) && a.length == b.length) = Dt.beqs a b
  | [], [] => by simp [Dt.beqs]
  | [], _ :: _ => by simp [Dt.beqs]
  | _ :: _, [] => by simp [Dt.beqs]
  | x :: a, y :: b => by
    have ih := Dt.all_beqs a b
    have e : min (x :: a).length (y :: b).length = min a.length b.length + 1 := by simp
    rw [e, List.range_succ_eq_map]
    simp only [List.all_cons, List.all_map, Dt.beqs, List.length_cons]
    rw [← ih, Bool.and_assoc]
    congr 1
    congr 1
    rw [Bool.eq_iff_iff]
    simp
section
variable {X : Cx} {pins : List (Addr × Obj)} {σ : St} {H : Hp} {s : Shared}
mutual
theorem DatAt.inj (I : Inv X pins σ H s) : ∀ {v : V} {d e : Dt}, DatAt X.K H v d → DatAt X.K H v e → d = e
  | v, .non, e, h, k => by
    have h' : v = .non := by simpa [DatAt] using h
    subst h'
    cases e <;> simp [DatAt] at k ⊢
  | v, .int i, e, h, k => by
    have h' : v = .int i := by simpa [DatAt] using h
    subst h'
    cases e <;> simp [DatAt] at k ⊢
    exact k
  | v, .str i, e, h, k => by
    have h' : v = .str i := by simpa [DatAt] using h
    subst h'
    cases e <;> simp [DatAt] at k ⊢
    exact k
  | v, .tup ds, e, h, k => by
    obtain ⟨r, vs, rfl, h1, h2⟩ := h.un
    cases e with
    | tup es =>
      obtain ⟨r', ws, e', k1, k2⟩ := k.un
      cases e'
      have := I.tuple_inj h1 k1
      subst this
      rw [DatsAt.inj I h2 k2]
    | _ => simp [DatAt] at k
theorem DatsAt.inj (I : Inv X pins σ H s) : ∀ {vs : List V} {ds es : List Dt}, DatsAt X.K H vs ds → DatsAt X.K H vs es → ds = es
  | vs, [], es, h, k => by
    have := h.un0
    subst this
    cases es with
    | nil => rfl
    | cons _ _ => simp [DatsAt] at k
  | vs, d :: ds, es, h, k => by
    obtain ⟨v, r, rfl, h1, h2⟩ := h.un
    cases es with
    | nil => simp [DatsAt] at k
    | cons e es =>
      simp only [DatsAt] at k
      rw [DatAt.inj I h1 k.1, DatsAt.inj I h2 k.2]
end
theorem getD_of {α : Type} {xs : List α} {i : Nat} {x d : α} (h : xs[i]? = some x) : xs.getD i d = x := by
  rw [List.getD_eq_getElem?_getD, h]
  rfl
/-- what is told of the items -/
theorem items_eq {A : Around} {vs ws : List V} {ds es : List Dt} {its its2 : List Value} (h : DatsAt X.K H vs ds) (k : DatsAt X.K H ws es) (r1 : Vals vs its) (r2 : Vals ws its2)
    (ih : ∀ (d e : Dt) (x y : V) (u v : Value), d ∈ ds → DatAt X.K H x d → DatAt X.K H y e → RelV x u → RelV y v → SeqAt.EqAt A s u v (Dt.beq d e)) (j : Nat) (h1 : j < its.toArray.size) (h2 : j < its2.toArray.size) :
    SeqAt.EqAt A s its.toArray[j] its2.toArray[j] (Dt.beq (ds.getD j .non) (es.getD j .non)) := by
  have l1 := r1.length
  have l2 := r2.length
  have m1 := h.length
  have m2 := k.length
  rw [List.size_toArray] at h1 h2
  have g1 : ds[j]? = some ds[j] := List.getElem?_eq_getElem (by omega)
  have g2 : es[j]? = some es[j] := List.getElem?_eq_getElem (by omega)
  obtain ⟨x, ex, hx⟩ := h.get g1
  obtain ⟨y, ey, hy⟩ := k.get g2
  obtain ⟨u, eu, ru⟩ := r1.get ex
  obtain ⟨v, ev, rv⟩ := r2.get ey
  have f1 : its.toArray[j] = u := by
    have := (List.getElem?_eq_some_iff.mp eu).2
    simpa using this
  have f2 : its2.toArray[j] = v := by
    have := (List.getElem?_eq_some_iff.mp ev).2
    simpa using this
  rw [f1, f2, getD_of g1, getD_of g2]
  exact ih _ _ x y u v (List.getElem_mem _) hx hy ru rv
theorem tuple_all {vs ws : List V} {ds es : List Dt} {its its2 : List Value} (h : DatsAt X.K H vs ds) (k : DatsAt X.K H ws es) (r1 : Vals vs its) (r2 : Vals ws its2) :
    ((List.range (min its.toArray.size its2.toArray.size)).all (fun j => Dt.beq (ds.getD j .non) (es.getD j .non)) && its.toArray.size == its2.toArray.size) = Dt.beqs ds es := by
  have l1 := r1.length
  have l2 := r2.length
  have m1 := h.length
  have m2 := k.length
  rw [← Dt.all_beqs, List.size_toArray, List.size_toArray, ← l1, ← l2, m1, m2]
theorem eqAt_dat (I : Inv X pins σ H s) : ∀ (n : Nat) (A : Around) (d e : Dt) (x y : V) (u v : Value), d.hgt ≤ n → A.units + n < cLine → DatAt X.K H x d → DatAt X.K H y e → RelV x u → RelV y v → SeqAt.EqAt A s u v (Dt.beq d e) := by
  intro n
  induction n with
  | zero => 
    intro A d e x y u v hd hu hx hy ru rv
    have hu' : A.units < cLine := by omega
    cases d with
    | non =>
      have hx' : x = .non := by simpa [DatAt] using hx
      subst hx'
      cases (show u = Value.none from ru)
      cases e with
      | non =>
        have hy' : y = .non := by simpa [DatAt] using hy
        subst hy'
        cases (show v = Value.none from rv)
        exact SeqAt.EqAt.same _
      | int j =>
        have hy' : y = .int j := by simpa [DatAt] using hy
        subst hy'
        obtain ⟨t, rfl⟩ := (show ∃ t, v = Value.int j t from rv)
        exact SeqAt.EqAt.none_int _ _
      | str j =>
        have hy' : y = .str j := by simpa [DatAt] using hy
        subst hy'
        obtain ⟨t, rfl⟩ := (show ∃ t, v = Value.str j t from rv)
        exact SeqAt.EqAt.none_str _ _
      | tup es =>
        obtain ⟨r, ws, rfl, k1, k2⟩ := hy.un
        cases (show v = Value.ref r from rv)
        obtain ⟨its, _, p, _⟩ := I.tuple k1
        exact SeqAt.EqAt.none_tuple p hu'
    | int i =>
      have hx' : x = .int i := by simpa [DatAt] using hx
      subst hx'
      obtain ⟨t, rfl⟩ := (show ∃ t, u = Value.int i t from ru)
      cases e with
      | non =>
        have hy' : y = .non := by simpa [DatAt] using hy
        subst hy'
        cases (show v = Value.none from rv)
        exact SeqAt.EqAt.int_none _ _
      | int j =>
        have hy' : y = .int j := by simpa [DatAt] using hy
        subst hy'
        obtain ⟨t, rfl⟩ := (show ∃ t, v = Value.int j t from rv)
        exact SeqAt.EqAt.int_int _ _ _ _
      | str j =>
        have hy' : y = .str j := by simpa [DatAt] using hy
        subst hy'
        obtain ⟨t, rfl⟩ := (show ∃ t, v = Value.str j t from rv)
        exact SeqAt.EqAt.int_str _ _ _ _
      | tup es =>
        obtain ⟨r, ws, rfl, k1, k2⟩ := hy.un
        cases (show v = Value.ref r from rv)
        obtain ⟨its, _, p, _⟩ := I.tuple k1
        exact SeqAt.EqAt.int_tuple _ _ p hu'
    | str i =>
      have hx' : x = .str i := by simpa [DatAt] using hx
      subst hx'
      obtain ⟨t, rfl⟩ := (show ∃ t, u = Value.str i t from ru)
      cases e with
      | non =>
        have hy' : y = .non := by simpa [DatAt] using hy
        subst hy'
        cases (show v = Value.none from rv)
        exact SeqAt.EqAt.str_none _ _
      | int j =>
        have hy' : y = .int j := by simpa [DatAt] using hy
        subst hy'
        obtain ⟨t, rfl⟩ := (show ∃ t, v = Value.int j t from rv)
        exact SeqAt.EqAt.str_int _ _ _ _
      | str j =>
        have hy' : y = .str j := by simpa [DatAt] using hy
        subst hy'
        obtain ⟨t, rfl⟩ := (show ∃ t, v = Value.str j t from rv)
        exact SeqAt.EqAt.str_str _ _ _ _
      | tup es =>
        obtain ⟨r, ws, rfl, k1, k2⟩ := hy.un
        cases (show v = Value.ref r from rv)
        obtain ⟨its, _, p, _⟩ := I.tuple k1
        exact SeqAt.EqAt.str_tuple _ _ p hu'
    | tup ds => simp [Dt.hgt] at hd
  | succ n ih =>
    intro A d e x y u v hd hu hx hy ru rv
    have hu' : A.units < cLine := by omega
    by_cases hflat : d.hgt ≤ n
    · exact ih A d e x y u v hflat (by omega) hx hy ru rv
    · cases d with
      | tup ds =>
        have hds : Dt.hgts ds ≤ n := by simpa [Dt.hgt] using hd
        obtain ⟨a, vs, rfl, h1, h2⟩ := hx.un
        cases (show u = Value.ref a from ru)
        obtain ⟨its, r1, p1, _⟩ := I.tuple h1
        cases e with
        | non =>
          have hy' : y = .non := by simpa [DatAt] using hy
          subst hy'
          cases (show v = Value.none from rv)
          exact SeqAt.EqAt.tuple_none p1 hu'
        | int j =>
          have hy' : y = .int j := by simpa [DatAt] using hy
          subst hy'
          obtain ⟨t, rfl⟩ := (show ∃ t, v = Value.int j t from rv)
          exact SeqAt.EqAt.tuple_int _ _ p1 hu'
        | str j =>
          have hy' : y = .str j := by simpa [DatAt] using hy
          subst hy'
          obtain ⟨t, rfl⟩ := (show ∃ t, v = Value.str j t from rv)
          exact SeqAt.EqAt.tuple_str _ _ p1 hu'
        | tup es =>
          obtain ⟨b, ws, rfl, k1, k2⟩ := hy.un
          cases (show v = Value.ref b from rv)
          obtain ⟨its2, r2, p2, _⟩ := I.tuple k1
          by_cases hab : a = b
          · subst hab
            have e1 : Dt.tup ds = Dt.tup es := DatAt.inj I hx hy
            rw [e1, Dt.beq_self]
            exact SeqAt.EqAt.same _
          · have e2 : Dt.beq (.tup ds) (.tup es) = Dt.beqs ds es := by simp [Dt.beq]
            rw [e2, ← tuple_all h2 k2 r1 r2]
            refine SeqAt.EqAt.of_refs hab (SeqAt.RcAt.tuples p1 p2 hu' fun j j1 j2 => items_eq h2 k2 r1 r2 (fun d e x y u v hm q1 q2 q3 q4 => ?_) j j1 j2)
            exact ih A.in1 d e x y u v (Nat.le_trans (Dt.hgt_mem hm) hds) (by show A.units + 1 + n < cLine; omega) q1 q2 q3 q4
      | _ => exact absurd (Nat.zero_le n) (by simpa [Dt.hgt] using hflat)
/-- the rule of a comparison of data, at the top -/
def rEqD (K : PySem.W.Frag) : R2 := fun x y H Q => ∃ d e, DatAt K H x d ∧ DatAt K H y e ∧ d.hgt ≤ 30 ∧ Q (.bl (Dt.beq d e)) H
def rNeD (K : PySem.W.Frag) : R2 := fun x y H Q => ∃ d e, DatAt K H x d ∧ DatAt K H y e ∧ d.hgt ≤ 30 ∧ Q (.bl (!Dt.beq d e)) H
theorem op_eqD (hu : X.A.units + 64 < cLine) : OpR X (compareOp .Eq) (rEqD X.K) := by
  intro pins s σ H x y u v Q I ru rv h
  obtain ⟨d, e, hx, hy, hd, q⟩ := h
  have hu' : X.A.units < cLine := by omega
  have fin : ∀ {k : Bool}, SeqAt.RcAt X.A s u v k → k = Dt.beq d e → wpAny (model X.prog X.w) X.A (compareOp .Eq u v) (EP X pins σ Q) X.xe s := fun {k} r ek => by
    subst ek
    exact r _ _ _ _ (fin_bl I q rfl)
  cases d with
  | non =>
    have hx' : x = .non := by simpa [DatAt] using hx
    subst hx'
    cases (show u = Value.none from ru)
    cases e with
    | non =>
      have hy' : y = .non := by simpa [DatAt] using hy
      subst hy'
      cases (show v = Value.none from rv)
      exact fin SeqAt.RcAt.none_none rfl
    | int j =>
      have hy' : y = .int j := by simpa [DatAt] using hy
      subst hy'
      obtain ⟨t, rfl⟩ := (show ∃ t, v = Value.int j t from rv)
      exact fin (SeqAt.RcAt.none_int _ _) rfl
    | str j =>
      have hy' : y = .str j := by simpa [DatAt] using hy
      subst hy'
      obtain ⟨t, rfl⟩ := (show ∃ t, v = Value.str j t from rv)
      exact fin (SeqAt.RcAt.none_str _ _) rfl
    | tup es =>
      obtain ⟨r, ws, rfl, k1, k2⟩ := hy.un
      cases (show v = Value.ref r from rv)
      obtain ⟨its, _, p, _⟩ := I.tuple k1
      exact fin (SeqAt.RcAt.none_tuple p hu') rfl
  | int i =>
    have hx' : x = .int i := by simpa [DatAt] using hx
    subst hx'
    obtain ⟨t, rfl⟩ := (show ∃ t, u = Value.int i t from ru)
    cases e with
    | non =>
      have hy' : y = .non := by simpa [DatAt] using hy
      subst hy'
      cases (show v = Value.none from rv)
      exact fin (SeqAt.RcAt.int_none _ _) rfl
    | int j =>
      have hy' : y = .int j := by simpa [DatAt] using hy
      subst hy'
      obtain ⟨t, rfl⟩ := (show ∃ t, v = Value.int j t from rv)
      exact fin (SeqAt.RcAt.int_int _ _ _ _) rfl
    | str j =>
      have hy' : y = .str j := by simpa [DatAt] using hy
      subst hy'
      obtain ⟨t, rfl⟩ := (show ∃ t, v = Value.str j t from rv)
      exact fin (SeqAt.RcAt.int_str _ _ _ _) rfl
    | tup es =>
      obtain ⟨r, ws, rfl, k1, k2⟩ := hy.un
      cases (show v = Value.ref r from rv)
      obtain ⟨its, _, p, _⟩ := I.tuple k1
      exact fin (SeqAt.RcAt.int_tuple _ _ p hu') rfl
  | str i =>
    have hx' : x = .str i := by simpa [DatAt] using hx
    subst hx'
    obtain ⟨t, rfl⟩ := (show ∃ t, u = Value.str i t from ru)
    cases e with
    | non =>
      have hy' : y = .non := by simpa [DatAt] using hy
      subst hy'
      cases (show v = Value.none from rv)
      exact fin (SeqAt.RcAt.str_none _ _) rfl
    | int j =>
      have hy' : y = .int j := by simpa [DatAt] using hy
      subst hy'
      obtain ⟨t, rfl⟩ := (show ∃ t, v = Value.int j t from rv)
      exact fin (SeqAt.RcAt.str_int _ _ _ _) rfl
    | str j =>
      have hy' : y = .str j := by simpa [DatAt] using hy
      subst hy'
      obtain ⟨t, rfl⟩ := (show ∃ t, v = Value.str j t from rv)
      exact fin (SeqAt.RcAt.str_str _ _ _ _) rfl
    | tup es =>
      obtain ⟨r, ws, rfl, k1, k2⟩ := hy.un
      cases (show v = Value.ref r from rv)
      obtain ⟨its, _, p, _⟩ := I.tuple k1
      exact fin (SeqAt.RcAt.str_tuple _ _ p hu') rfl
  | tup ds =>
    obtain ⟨a, vs, rfl, h1, h2⟩ := hx.un
    cases (show u = Value.ref a from ru)
    obtain ⟨its, r1, p1, _⟩ := I.tuple h1
    cases e with
    | non =>
      have hy' : y = .non := by simpa [DatAt] using hy
      subst hy'
      cases (show v = Value.none from rv)
      exact fin (SeqAt.RcAt.tuple_none p1 hu') rfl
    | int j =>
      have hy' : y = .int j := by simpa [DatAt] using hy
      subst hy'
      obtain ⟨t, rfl⟩ := (show ∃ t, v = Value.int j t from rv)
      exact fin (SeqAt.RcAt.tuple_int _ _ p1 hu') rfl
    | str j =>
      have hy' : y = .str j := by simpa [DatAt] using hy
      subst hy'
      obtain ⟨t, rfl⟩ := (show ∃ t, v = Value.str j t from rv)
      exact fin (SeqAt.RcAt.tuple_str _ _ p1 hu') rfl
    | tup es =>
      obtain ⟨b, ws, rfl, k1, k2⟩ := hy.un
      cases (show v = Value.ref b from rv)
      obtain ⟨its2, r2, p2, _⟩ := I.tuple k1
      refine fin (SeqAt.RcAt.tuples p1 p2 hu' fun j j1 j2 => items_eq h2 k2 r1 r2 (fun d e x y u v hm q1 q2 q3 q4 => ?_) j j1 j2) ((tuple_all h2 k2 r1 r2).trans (by simp [Dt.beq]))
      exact eqAt_dat I 30 X.A.in1 d e x y u v (Nat.le_trans (Dt.hgt_mem hm) (by simp [Dt.hgt] at hd; omega)) (by show X.A.units + 1 + 30 < cLine; omega) q1 q2 q3 q4
theorem op_neD (hu : X.A.units + 64 < cLine) : OpR X (compareOp .NotEq) (rNeD X.K) := by
  intro pins s σ H x y u v Q I ru rv h
  obtain ⟨d, e, hx, hy, hd, q⟩ := h
  have hu' : X.A.units < cLine := by omega
  have fin : ∀ {k : Bool}, SeqAt.RcNeAt X.A s u v k → k = !Dt.beq d e → wpAny (model X.prog X.w) X.A (compareOp .NotEq u v) (EP X pins σ Q) X.xe s := fun {k} r ek => by
    subst ek
    exact r _ _ _ _ (fin_bl I q rfl)
  cases d with
  | non =>
    have hx' : x = .non := by simpa [DatAt] using hx
    subst hx'
    cases (show u = Value.none from ru)
    cases e with
    | non =>
      have hy' : y = .non := by simpa [DatAt] using hy
      subst hy'
      cases (show v = Value.none from rv)
      exact fin SeqAt.RcNeAt.none_none rfl
    | int j =>
      have hy' : y = .int j := by simpa [DatAt] using hy
      subst hy'
      obtain ⟨t, rfl⟩ := (show ∃ t, v = Value.int j t from rv)
      exact fin (SeqAt.RcNeAt.none_int _ _) rfl
    | str j =>
      have hy' : y = .str j := by simpa [DatAt] using hy
      subst hy'
      obtain ⟨t, rfl⟩ := (show ∃ t, v = Value.str j t from rv)
      exact fin (SeqAt.RcNeAt.none_str _ _) rfl
    | tup es =>
      obtain ⟨r, ws, rfl, k1, k2⟩ := hy.un
      cases (show v = Value.ref r from rv)
      obtain ⟨its, _, p, _⟩ := I.tuple k1
      exact fin (SeqAt.RcNeAt.none_tuple p hu') rfl
  | int i =>
    have hx' : x = .int i := by simpa [DatAt] using hx
    subst hx'
    obtain ⟨t, rfl⟩ := (show ∃ t, u = Value.int i t from ru)
    cases e with
    | non =>
      have hy' : y = .non := by simpa [DatAt] using hy
      subst hy'
      cases (show v = Value.none from rv)
      exact fin (SeqAt.RcNeAt.int_none _ _) rfl
    | int j =>
      have hy' : y = .int j := by simpa [DatAt] using hy
      subst hy'
      obtain ⟨t, rfl⟩ := (show ∃ t, v = Value.int j t from rv)
      exact fin (SeqAt.RcNeAt.int_int _ _ _ _) rfl
    | str j =>
      have hy' : y = .str j := by simpa [DatAt] using hy
      subst hy'
      obtain ⟨t, rfl⟩ := (show ∃ t, v = Value.str j t from rv)
      exact fin (SeqAt.RcNeAt.int_str _ _ _ _) rfl
    | tup es =>
      obtain ⟨r, ws, rfl, k1, k2⟩ := hy.un
      cases (show v = Value.ref r from rv)
      obtain ⟨its, _, p, _⟩ := I.tuple k1
      exact fin (SeqAt.RcNeAt.int_tuple _ _ p hu') rfl
  | str i =>
    have hx' : x = .str i := by simpa [DatAt] using hx
    subst hx'
    obtain ⟨t, rfl⟩ := (show ∃ t, u = Value.str i t from ru)
    cases e with
    | non =>
      have hy' : y = .non := by simpa [DatAt] using hy
      subst hy'
      cases (show v = Value.none from rv)
      exact fin (SeqAt.RcNeAt.str_none _ _) rfl
    | int j =>
      have hy' : y = .int j := by simpa [DatAt] using hy
      subst hy'
      obtain ⟨t, rfl⟩ := (show ∃ t, v = Value.int j t from rv)
      exact fin (SeqAt.RcNeAt.str_int _ _ _ _) rfl
    | str j =>
      have hy' : y = .str j := by simpa [DatAt] using hy
      subst hy'
      obtain ⟨t, rfl⟩ := (show ∃ t, v = Value.str j t from rv)
      exact fin (SeqAt.RcNeAt.str_str _ _ _ _) rfl
    | tup es =>
      obtain ⟨r, ws, rfl, k1, k2⟩ := hy.un
      cases (show v = Value.ref r from rv)
      obtain ⟨its, _, p, _⟩ := I.tuple k1
      exact fin (SeqAt.RcNeAt.str_tuple _ _ p hu') rfl
  | tup ds =>
    obtain ⟨a, vs, rfl, h1, h2⟩ := hx.un
    cases (show u = Value.ref a from ru)
    obtain ⟨its, r1, p1, _⟩ := I.tuple h1
    cases e with
    | non =>
      have hy' : y = .non := by simpa [DatAt] using hy
      subst hy'
      cases (show v = Value.none from rv)
      exact fin (SeqAt.RcNeAt.tuple_none p1 hu') rfl
    | int j =>
      have hy' : y = .int j := by simpa [DatAt] using hy
      subst hy'
      obtain ⟨t, rfl⟩ := (show ∃ t, v = Value.int j t from rv)
      exact fin (SeqAt.RcNeAt.tuple_int _ _ p1 hu') rfl
    | str j =>
      have hy' : y = .str j := by simpa [DatAt] using hy
      subst hy'
      obtain ⟨t, rfl⟩ := (show ∃ t, v = Value.str j t from rv)
      exact fin (SeqAt.RcNeAt.tuple_str _ _ p1 hu') rfl
    | tup es =>
      obtain ⟨b, ws, rfl, k1, k2⟩ := hy.un
      cases (show v = Value.ref b from rv)
      obtain ⟨its2, r2, p2, _⟩ := I.tuple k1
      refine fin (SeqAt.RcNeAt.tuples p1 p2 hu' fun j j1 j2 => items_eq h2 k2 r1 r2 (fun d e x y u v hm q1 q2 q3 q4 => ?_) j j1 j2) (congrArg not ((tuple_all h2 k2 r1 r2).trans (by simp [Dt.beq])))
      exact eqAt_dat I 30 X.A.in1 d e x y u v (Nat.le_trans (Dt.hgt_mem hm) (by simp [Dt.hgt] at hd; omega)) (by show X.A.units + 1 + 30 < cLine; omega) q1 q2 q3 q4

theorem list_all {vs ws : List V} {ds es : List Dt} {its its2 : List Value} (h : DatsAt X.K H vs ds) (k : DatsAt X.K H ws es) (r1 : Vals vs its) (r2 : Vals ws its2) (hsz : its.toArray.size = its2.toArray.size) :
    (List.range its.toArray.size).all (fun j => Dt.beq (ds.getD j .non) (es.getD j .non)) = Dt.beqs ds es := by
  have e := tuple_all h k r1 r2
  rw [hsz, Nat.min_self, beq_self_eq_true, Bool.and_true] at e
  rw [hsz]
  exact e
theorem list_len {vs ws : List V} {ds es : List Dt} {its its2 : List Value} (h : DatsAt X.K H vs ds) (k : DatsAt X.K H ws es) (r1 : Vals vs its) (r2 : Vals ws its2) (hsz : its.toArray.size ≠ its2.toArray.size) : Dt.beqs ds es = false := by
  refine Dt.beqs_ne fun z => hsz ?_
  have l1 := r1.length
  have l2 := r2.length
  have m1 := h.length
  have m2 := k.length
  rw [z] at m1
  rw [List.size_toArray, List.size_toArray]
  omega
/-- == and != of two lists of data -/
def rEqL (K : PySem.W.Frag) : R2 := fun x y H Q => ∃ a b vs ws ds es, x = .ref a ∧ y = .ref b ∧ SqL K H a vs ∧ SqL K H b ws ∧ DatsAt K H vs ds ∧ DatsAt K H ws es ∧ Dt.hgts ds ≤ 30 ∧ Q (.bl (Dt.beqs ds es)) H
def rNeL (K : PySem.W.Frag) : R2 := fun x y H Q => ∃ a b vs ws ds es, x = .ref a ∧ y = .ref b ∧ SqL K H a vs ∧ SqL K H b ws ∧ DatsAt K H vs ds ∧ DatsAt K H ws es ∧ Dt.hgts ds ≤ 30 ∧ Q (.bl (!Dt.beqs ds es)) H
theorem op_eqL (hu : X.A.units + 64 < cLine) : OpR X (compareOp .Eq) (rEqL X.K) := by
  intro pins s σ H x y u v Q I ru rv h
  obtain ⟨a, b, vs, ws, ds, es, rfl, rfl, ha, hb, h2, k2, hd, q⟩ := h
  have hu' : X.A.units < cLine := by omega
  cases (show u = Value.ref a from ru)
  cases (show v = Value.ref b from rv)
  obtain ⟨its, r1, p1, _⟩ := I.list ha
  obtain ⟨its2, r2, p2, _⟩ := I.list hb
  by_cases hsz : its.toArray.size = its2.toArray.size
  · have r := SeqAt.RcAt.lists p1.isList p2.isList hsz hu' fun j j1 j2 => items_eq h2 k2 r1 r2 (fun d e x y u v hm q1 q2 q3 q4 =>
      eqAt_dat I 30 X.A.in1 d e x y u v (Nat.le_trans (Dt.hgt_mem hm) hd) (by show X.A.units + 1 + 30 < cLine; omega) q1 q2 q3 q4) j j1 j2
    rw [list_all h2 k2 r1 r2 hsz] at r
    exact r _ _ _ _ (fin_bl I q rfl)
  · have r := SeqAt.RcAt.lists_lengths p1.isList p2.isList (by simpa using hsz) hu'
    rw [list_len h2 k2 r1 r2 hsz] at q
    exact r _ _ _ _ (fin_bl I q rfl)
theorem op_neL (hu : X.A.units + 64 < cLine) : OpR X (compareOp .NotEq) (rNeL X.K) := by
  intro pins s σ H x y u v Q I ru rv h
  obtain ⟨a, b, vs, ws, ds, es, rfl, rfl, ha, hb, h2, k2, hd, q⟩ := h
  have hu' : X.A.units < cLine := by omega
  cases (show u = Value.ref a from ru)
  cases (show v = Value.ref b from rv)
  obtain ⟨its, r1, p1, _⟩ := I.list ha
  obtain ⟨its2, r2, p2, _⟩ := I.list hb
  by_cases hsz : its.toArray.size = its2.toArray.size
  · have r := SeqAt.RcNeAt.lists p1.isList p2.isList hsz hu' fun j j1 j2 => items_eq h2 k2 r1 r2 (fun d e x y u v hm q1 q2 q3 q4 =>
      eqAt_dat I 30 X.A.in1 d e x y u v (Nat.le_trans (Dt.hgt_mem hm) hd) (by show X.A.units + 1 + 30 < cLine; omega) q1 q2 q3 q4) j j1 j2
    rw [list_all h2 k2 r1 r2 hsz] at r
    exact r _ _ _ _ (fin_bl I q rfl)
  · have r := SeqAt.RcNeAt.lists_lengths p1.isList p2.isList (by simpa using hsz) hu'
    rw [list_len h2 k2 r1 r2 hsz] at q
    exact r _ _ _ _ (fin_bl I q rfl)
/-- isinstance of a tuple, also of one that stands in the text -/
theorem call_isiT : CallR X (.builtin "isinstance") (fun xs H Q => ∃ a vs n b, xs = [.ref a, .ty n] ∧ SqT X.K H a vs ∧ PySem.W.kitOne X.K (.type "tuple") (.type n) = some b ∧ Q (.bl b) H) := by
  intro pins s σ H xs us Q I r h
  obtain ⟨a, vs, n, b, rfl, ht, e, q⟩ := h
  obtain ⟨u, w', rfl, r1, r2⟩ := vals2 r
  cases (show u = Value.ref a from r1)
  cases (show w' = Value.type n from r2)
  obtain ⟨its, _, ⟨o, h1, h2, _⟩, _⟩ := I.tuple ht
  exact PySem.W.kia_one PySem.W.kitx_tuple I.kIn ⟨o, h1, h2⟩ e (fun z => nomatch z) fun tk => ⟨.bl b, H, I.tok tk, rfl, q⟩
end
end L2
/-! ### own rules over the layer, 6: sorted(..) of a list of pairs (text, number) -/
namespace L2
open PySem PySem.Spec PySem.W PyProof.Rows
/-- every question of the tree lies below N, every end of it satisfies P -/
def Tr {α : Type} (N : Nat) (P : α → Prop) : KasT α → Prop
  | .ret a => P a
  | .ask i j k => i < N ∧ j < N ∧ ∀ b, Tr N P (k b)
theorem Tr.bind {α β : Type} {N : Nat} {P : α → Prop} {R : β → Prop} {f : α → KasT β} : ∀ {t : KasT α}, Tr N P t → (∀ a, P a → Tr N R (f a)) → Tr N R (t.bind f)
  | .ret a, h, k => k a h
  | .ask _ _ _, h, k => ⟨h.1, h.2.1, fun b => Tr.bind (h.2.2 b) k⟩
theorem Tr.wp {α : Type} {N : Nat} {P : α → Prop} {cmp : Nat → Nat → (Bool → Shared → Prop) → Shared → Prop} {s : Shared} {Q : α → Shared → Prop} (lt : Nat → Nat → Bool)
    (hc : ∀ i j (C : Bool → Shared → Prop), i < N → j < N → C (lt i j) s → cmp i j C s) (hq : ∀ a, P a → Q a s) : ∀ {t : KasT α}, Tr N P t → t.kasWp cmp Q s
  | .ret a, h => hq a h
  | .ask i j _, h => hc i j _ h.1 h.2.1 (Tr.wp lt hc hq (h.2.2 _))
/-- a row of the places 0, 1, .. N - 1, each once -/
def Pl (N : Nat) (p : Array Nat) : Prop := p.Perm (List.range N).toArray
theorem Pl.below {N : Nat} {p : Array Nat} (hN : 0 < N) (h : Pl N p) (k : Nat) : p.getD k 0 < N := by
  by_cases hk : k < p.size
  · have e : p.getD k 0 = p[k] := by simp [Array.getD, hk]
    have m : p[k] ∈ (List.range N).toArray := h.mem_iff.mp (Array.getElem_mem hk)
    rw [e]
    simpa using m
  · have e : p.getD k 0 = 0 := by simp [Array.getD, hk]
    rw [e]
    exact hN
theorem Pl.rev {N : Nat} {p : Array Nat} (h : Pl N p) (i j : Nat) : Pl N (kas_rev p i j) := (mirror_perm p i j _).trans h
theorem Pl.bub {N : Nat} {p : Array Nat} (h : Pl N p) (i j : Nat) : Pl N (bubble p i j) := (bubble_perm p i j).trans h
section
variable {N : Nat} (hN : 0 < N)
include hN
theorem tr_asc {p : Array Nat} (h : Pl N p) : ∀ f n, Tr N (fun _ => True) (kas_asc p f n)
  | 0, _ => trivial
  | f + 1, n => ⟨h.below hN _, h.below hN _, fun b => by
    cases b with
    | true => exact trivial
    | false => exact tr_asc h f (n + 1)⟩
theorem tr_desc : ∀ f (p : Array Nat) n q, Pl N p → Tr N (fun r => Pl N r.1) (kas_desc f p n q)
  | 0, _, _, _, h => h
  | f + 1, p, n, q, h => ⟨h.below hN _, h.below hN _, fun b => by
    cases b with
    | true =>
      show Tr N _ (if q > 0 then _ else _)
      split
      · exact tr_desc f _ _ _ (h.rev _ _)
      · exact tr_desc f _ _ _ h
    | false =>
      refine ⟨h.below hN _, h.below hN _, fun b => ?_⟩
      cases b with
      | true => exact h
      | false => exact tr_desc f _ _ _ h⟩
theorem tr_tail {p : Array Nat} (h : Pl N p) (n m : Nat) : Tr N (fun r => Pl N r.2) (kas_tail3 n m p) := (tr_asc hN (h.rev _ _) _ _).bind fun _ _ => h.rev _ _
theorem tr_part {p : Array Nat} (h : Pl N p) (n m : Nat) : Tr N (fun r => Pl N r.2) (kas_descPart n m p) := (tr_desc hN _ _ _ _ h).bind fun r hr => by
  split
  · exact tr_tail hN (hr.rev _ _) _ _
  · exact tr_tail hN hr _ _
theorem tr_count {p : Array Nat} (h : Pl N p) (m : Nat) : Tr N (fun r => Pl N r.2) (kas_count m p) := (tr_asc hN h _ _).bind fun n _ => by
  split
  · exact h
  · split
    · refine ⟨h.below hN _, h.below hN _, fun b => ?_⟩
      cases b with
      | true => exact h
      | false => exact tr_part hN (h.rev _ _) _ _
    · exact tr_part hN h _ _
theorem tr_place {p : Array Nat} (h : Pl N p) (k : Nat) : ∀ f l r, Tr N (fun _ => True) (kas_place p k f l r)
  | 0, _, _ => trivial
  | f + 1, l, r => by
    show Tr N _ (if l ≥ r then _ else _)
    split
    · exact trivial
    · refine ⟨h.below hN _, h.below hN _, fun b => ?_⟩
      cases b with
      | true => exact tr_place h k f _ _
      | false => exact tr_place h k f _ _
theorem tr_bin : ∀ f (p : Array Nat) k, Pl N p → Tr N (Pl N) (kas_bin f p k)
  | 0, _, _, h => h
  | f + 1, p, k, h => (tr_place hN h k _ _ _).bind fun _ _ => tr_bin f _ _ (h.bub _ _)
theorem tr_sort : Tr N (Pl N) (kas_sort N) := (tr_count hN (show Pl N _ from Array.Perm.refl _) N).bind fun r hr => by
  split
  · exact tr_bin hN _ _ _ hr
  · exact hr
end
section
variable {prog : Program} {w : World} {A : Around} {E : Value → Shared → Prop} {s : Shared}
/-- the list at a is sorted where it stands; all else stays -/
theorem lsort {a : Addr} {us : List Value} {n : Nat} {R : PySem.Fin → Shared → Prop} (stands : s.heap.get? a = some (seqObj "list" us.toArray n)) (few : us.length < 64) (lt : Nat → Nat → Bool) (κ : SortKind)
    (kind : ∀ z : Shared, (∀ b o, b ≠ a → s.heap.get? b = some o → z.heap.get? b = some o) → 2 ≤ us.length → ∀ Q : SortKind → Shared → Prop, Q κ z → wpAny (model prog w) A (keyKind' us.toArray) Q (fun _ _ => False) z)
    (ask : ∀ z : Shared, (∀ b o, b ≠ a → s.heap.get? b = some o → z.heap.get? b = some o) → ∀ i j (C : Bool → Shared → Prop), i < us.length → j < us.length → C (lt i j) z → kas_ask prog w A κ us i j C z)
    (done : ∀ (p : Array Nat) (g : Heap) (c : Nat), Pl us.length p → (∀ b o, b ≠ a → s.heap.get? b = some o → g.get? b = some o) → g.get? a = some (seqObj "list" (p.toList.map fun i => us.getD i Value.none).toArray c) →
      R (.done (.ret .none)) { s with heap := g }) : wpAny (model prog w) A (Builtin.«list.sort» ⟨[.ref a], []⟩) R E s := by
  have lta : a < s.heap.objs.size := Heap.lt_size stands
  obtain ⟨c1, st1⟩ : ∃ c1, (s.heap.update a (Obj.mapSeq fun _ => (#[] : Array Value))).get? a = some (seqObj "list" #[] c1) := ⟨_, get?_update_seq stands fun _ => #[]⟩
  generalize hg : ((s.heap.update a (Obj.mapSeq fun _ => (#[] : Array Value))).push (seqObj "tuple" us.toArray 0)).push (seqObj "list" #[] 0) = g1
  have stays : ∀ b o, b ≠ a → s.heap.get? b = some o → g1.get? b = some o := fun b o hb e => by
    rw [← hg]
    exact Heap.get?_push_of_some _ (Heap.get?_push_of_some _ ((Heap.SameBut.update s.heap a _).2 b hb |>.trans e))
  have st2 : g1.get? a = some (seqObj "list" #[] c1) := by
    rw [← hg]
    exact Heap.get?_push_of_some _ (Heap.get?_push_of_some _ st1)
  have ends : ∀ (p : Array Nat), Pl us.length p → ∀ Q : Unit → Shared → Prop, (∀ g c, (∀ b o, b ≠ a → s.heap.get? b = some o → g.get? b = some o) → g.get? a = some (seqObj "list" (p.toList.map fun i => us.getD i Value.none).toArray c) → Q () { s with heap := g }) →
      wpAny (model prog w) A (Builtin.List.listUpdate (.ref a) fun _ => (p.toList.map fun i => us.getD i Value.none).toArray) Q E { s with heap := g1 } := fun p hp Q hQ => by
    refine listUpdate_at (s := { s with heap := g1 }) st2 rfl (hQ _ _ (fun b o hb e => ((Heap.SameBut.update g1 a _).2 b hb).trans (stays b o hb e)) (get?_update_seq st2 fun _ => _)) (Nat.zero_le _) ?_
    have hs : p.size = us.length := by simpa using hp.size_eq
    rw [List.size_toArray, List.length_map, Array.length_toList, hs, sizeLine_eq]
    omega
  rw [list_sort_plain]
  refine wpAny_bind (listItems_at stands rfl ?_)
  refine wpAny_bind (listUpdate_at stands rfl ?_ (by rw [List.size_toArray, sizeLine_eq]; omega) (Nat.zero_le _))
  refine wpAny_bind (seqEpoch_at st1 rfl (wpAny_bind (wpAny_newTuple (wpAny_bind (wpAny_newList ?_ (Nat.zero_le _))) (by show us.length ≤ _; rw [sizeLine_eq]; omega))))
  refine wpAny_holding ?_
  show wpAny (model prog w) A _ R E { s with heap := ((s.heap.update a (Obj.mapSeq fun _ => (#[] : Array Value))).push (seqObj "tuple" us.toArray 0)).push (seqObj "list" #[] 0) }
  rw [hg]
  dsimp only
  by_cases h2 : us.toArray.size < 2
  · rw [if_pos h2, if_pos h2]
    refine wpAny_bind (wpAny_pure ?_)
    rw [StateT.run_pure]
    refine wpAny_bind (wpAny_pure ?_)
    dsimp only
    refine wpAny_bind (seqEpoch_at st2 rfl ?_)
    have e1 : (arrOf (SortSt.mk' general' (us.toArray.zip us.toArray) #[] 7 none)).map (·.2) = ((List.range us.length).toArray.toList.map fun i => us.getD i Value.none).toArray := by
      show (us.toArray.zip us.toArray).map (·.2) = _
      apply Array.toList_inj.mp
      refine List.ext_getElem (by simp) fun i k1 k2 => ?_
      have k3 : i < us.length := by simpa using k1
      simp [List.getD_eq_getElem?_getD, k3]
    rw [e1]
    refine wpAny_bind (ends _ (Array.Perm.refl _) _ fun g c k1 k2 => ?_)
    simp only [bne_self_eq_false, Bool.false_eq_true, if_false]
    exact wpAny_pure (done _ g c (Array.Perm.refl _) k1 k2)
  · rw [if_neg h2, if_neg h2]
    have h2' : 2 ≤ us.length := by rw [List.size_toArray] at h2; omega
    refine wpAny_bind (wpAny_mono (kind { s with heap := g1 } stays h2' (fun k z => k = κ ∧ z = { s with heap := g1 }) ⟨rfl, rfl⟩) (fun k z hk => ?_) fun _ _ x => x.elim)
    obtain ⟨rfl, rfl⟩ := hk
    have tree : (kas_sort us.length).kasWp (kas_ask prog w A k us) (fun p z => Pl us.length p ∧ z = { s with heap := g1 }) { s with heap := g1 } :=
      (tr_sort (by omega)).wp lt (ask { s with heap := g1 } stays) fun p hp => ⟨hp, rfl⟩
    refine wpAny_bind (wpAny_mono (kat_run (E := E) (Q := fun st z => ∃ p : Array Nat, arrOf st = p.map (kas_item (us.toArray.zip us.toArray)) ∧ failedOf st = none ∧ Pl us.length p ∧ z = { s with heap := g1 }) rfl h2' few
      (fun p st z _ q1 q2 q3 => ⟨p, q1, q2, q3⟩) tree) ?_ fun _ _ x => x)
    rintro ⟨⟨⟩, st⟩ z ⟨p, q1, q2, q3, rfl⟩
    dsimp only
    refine wpAny_bind (seqEpoch_at st2 rfl ?_)
    rw [kat_snds rfl q1]
    refine wpAny_bind (ends p q3 _ fun g c k1 k2 => ?_)
    rw [q2]
    simp only [bne_self_eq_false, Bool.false_eq_true, if_false]
    exact wpAny_pure (done p g c q3 k1 k2)
/-- sorted(xs): a new list of the items, in another order -/
theorem sorted_wp {l : Addr} {us : List Value} {R : Value → Shared → Prop} (hl : s.heap.IsList l us.toArray) (few : us.length < 64) (lt : Nat → Nat → Bool) (κ : SortKind)
    (kind : ∀ z : Shared, (∀ b o, s.heap.get? b = some o → z.heap.get? b = some o) → 2 ≤ us.length → ∀ Q : SortKind → Shared → Prop, Q κ z → wpAny (model prog w) A.in1.in1 (keyKind' us.toArray) Q (fun _ _ => False) z)
    (ask : ∀ z : Shared, (∀ b o, s.heap.get? b = some o → z.heap.get? b = some o) → ∀ i j (C : Bool → Shared → Prop), i < us.length → j < us.length → C (lt i j) z → kas_ask prog w A.in1.in1 κ us i j C z)
    (done : ∀ (D : Addr) (p : Array Nat) (g : Heap) (c : Nat), s.heap.objs.size ≤ D → Pl us.length p → (∀ b o, s.heap.get? b = some o → g.get? b = some o) → g.get? D = some (seqObj "list" (p.toList.map fun i => us.getD i Value.none).toArray c) →
      R (.ref D) { s with heap := g }) : wpAny (model prog w) A (call (.builtin "sorted") [.ref l]) R E s := by
  have line : us.length ≤ sizeLine := by rw [sizeLine_eq]; omega
  refine Calls.call_function_entry kind_sorted plain_sorted entry_sorted (args_sorted1 _) ?_
  unfold Builtin.«sorted»
  refine wpAny_bind (m := checkCount "sorted" 1 1 _) (wpAny_pure (wpAny_bind (collect_list hl ?_ line)))
  refine wpAny_bind (wpAny_newList ?_ line)
  have sz1 : ((s.heap.push (seqObj "list" #[] 0)).update s.heap.objs.size (Obj.mapSeq (· ++ us.toArray))).objs.size = s.heap.objs.size + 1 := by
    rw [Heap.size_update]
    exact size_push' _ _
  generalize hg : (s.heap.push (seqObj "list" #[] 0)).update s.heap.objs.size (Obj.mapSeq (· ++ us.toArray)) = g0 at sz1
  have kept : ∀ b o, s.heap.get? b = some o → (g0.push (seqObj "list" us.toArray 0)).get? b = some o := fun b o e => by
    have hb : b < s.heap.objs.size := Heap.lt_size e
    refine Heap.get?_push_of_some _ ?_
    rw [← hg]
    exact ((Heap.SameBut.update _ s.heap.objs.size _).2 b (Nat.ne_of_lt hb)).trans (Heap.get?_push_of_some _ e)
  have stands : (g0.push (seqObj "list" us.toArray 0)).get? (s.heap.objs.size + 1) = some (seqObj "list" us.toArray 0) := by
    rw [← sz1]
    exact Heap.get?_push_size _ rfl
  have off : ∀ b o, s.heap.get? b = some o → b ≠ s.heap.objs.size + 1 := fun b o e => Nat.ne_of_lt (Nat.lt_succ_of_lt (Heap.lt_size e))
  show wpAny _ _ _ _ _ { s with heap := g0.push (seqObj "list" us.toArray 0) }
  rw [sz1]
  refine wpAny_bind (wpAny_holding (wpAny_call_entry slot_list_sort ⟨_, stands, rfl⟩ entry_list_sort ?body (args_list_sort _)))
  case body =>
    refine lsort (s := { s with heap := g0.push (seqObj "list" us.toArray 0) }) stands few lt κ (fun z hz h2 Q q => kind z (fun b o e => hz b o (off b o e) (kept b o e)) h2 Q q) (fun z hz => ask z fun b o e => hz b o (off b o e) (kept b o e)) fun p g c k1 k2 k3 => ?_
    exact ⟨_, rfl, wpAny_pure ⟨_, rfl, done _ p g c (Nat.le_succ _) k1 (fun b o e => k2 b o (off b o e) (kept b o e)) k3⟩⟩
end
end L2
/-! ### own rules over the layer, 7: sorted of pairs, as a call -/
namespace L2
open PySem PySem.Spec PySem.W PyProof.Rows
def pairD (f : Str × Int) : Dt := .tup [.str f.1, .int f.2]
def pairLt (f g : Str × Int) : Bool := if f.1 == g.1 then (if f.2 == g.2 then false else decide (f.2 < g.2)) else decide (f.1.cps.toList < g.1.cps.toList)
section
variable {X : Cx} {pins : List (Addr × Obj)} {σ : L2.St} {H : Hp} {s : Shared}
theorem pair_at (I : Inv X pins σ H s) {v : V} {u : Value} {f : Str × Int} (h : DatAt X.K H v (pairD f)) (r : RelV v u) :
    ∃ a t t' o n, u = Value.ref a ∧ s.heap.get? a = some o ∧ o.cls = .type "tuple" ∧ o.data = .seq #[Value.str f.1 t, Value.int f.2 t'] n := by
  obtain ⟨a, ws, rfl, h1, h2⟩ := h.un
  obtain ⟨v1, r1, rfl, q1, h3⟩ := h2.un
  obtain ⟨v2, r2, rfl, q2, h4⟩ := h3.un
  have e3 := h4.un0
  subst e3
  have e1 : v1 = .str f.1 := by simpa [DatAt] using q1
  have e2 : v2 = .int f.2 := by simpa [DatAt] using q2
  subst e1 e2
  obtain ⟨its, rv, ⟨o, e, c, n, d⟩, _⟩ := I.tuple h1
  cases (show u = Value.ref a from r)
  obtain ⟨x, y, rfl, rx, ry⟩ := vals2 rv
  obtain ⟨t, rfl⟩ := (show ∃ t, x = Value.str f.1 t from rx)
  obtain ⟨t', rfl⟩ := (show ∃ t, y = Value.int f.2 t from ry)
  exact ⟨a, t, t', o, n, rfl, e, c, d⟩
theorem pairs_tups (I : Inv X pins σ H s) {z : Heap} (kept : ∀ b o, s.heap.get? b = some o → z.get? b = some o) : ∀ (ps : List (Str × Int)) (vs : List V) (us : List Value), DatsAt X.K H vs (ps.map pairD) → Vals vs us →
    ∃ fs, KatTups z us fs ∧ fs.length = us.length ∧ ∀ f ∈ fs, ∃ x t, f = Value.str x t
  | [], vs, us, h, r => by
    have e := h.un0
    subst e
    cases r
    exact ⟨[], .nil, rfl, fun f hf => nomatch hf⟩
  | p :: ps, vs, us, h, r => by
    obtain ⟨v, w', rfl, h1, h2⟩ := DatsAt.un (d := pairD p) (ds := ps.map pairD) h
    cases r with
    | cons r1 r2 =>
      obtain ⟨a, t, t', o, n, rfl, e1, e2, e3⟩ := pair_at I h1 r1
      obtain ⟨fs, k1, k2, k3⟩ := pairs_tups I kept ps _ _ h2 r2
      refine ⟨Value.str p.1 t :: fs, .cons (kept _ _ e1) e2 e3 rfl k1, by simp [k2], fun f hf => ?_⟩
      rcases List.mem_cons.mp hf with q | q
      · exact ⟨_, _, q⟩
      · exact k3 f q
theorem call_sortedP : CallR X (.builtin "sorted") (fun xs H Q => ∃ a vs, ∃ ps : List (Str × Int), xs = [.ref a] ∧ SqL X.K H a vs ∧ DatsAt X.K H vs (ps.map pairD) ∧ vs.length < 64 ∧
    ∀ D (p : List Nat), p.Perm (List.range vs.length) → H D = none → Q (.ref D) (upd H D (.lst (p.map fun i => vs.getD i .non)))) := by
  intro pins s σ H xs us Q I r h
  obtain ⟨a, vs, ps, rfl, hl, hd, few, q⟩ := h
  obtain ⟨u, rfl, ru⟩ := vals1 r
  cases (show u = Value.ref a from ru)
  obtain ⟨its, rv, pl, hz⟩ := I.list hl
  have len1 := rv.length
  have len2 := hd.length
  rw [List.length_map] at len2
  refine sorted_wp (lt := fun i j => pairLt (ps.getD i ("", 0)) (ps.getD j ("", 0))) (κ := tuples' ((Value.type "str") != (Value.type "tuple"))) pl.isList (by omega) (fun z kept h2 Q' hq => ?_) (fun z kept i j C hi hj hC => ?_) fun D p g c hD hp kept at_ => ?_
  · obtain ⟨fs, k1, k2, k3⟩ := pairs_tups I kept ps vs its hd rv
    refine kat_kind (T := Value.type "str") k1 (by omega) (fun v hv => ?_) (by decide +kernel) hq
    obtain ⟨x, t, rfl⟩ := k3 v hv
    exact .now
  · have gi : ∀ {k : Nat}, k < its.length → ∃ a t t' o n, its.getD k Value.none = Value.ref a ∧ z.heap.get? a = some o ∧ o.data = .seq #[Value.str (ps.getD k ("", 0)).1 t, Value.int (ps.getD k ("", 0)).2 t'] n := fun {k} hk => by
      have e1 : (ps.map pairD)[k]? = some (pairD (ps.getD k ("", 0))) := by
        have hk' : k < ps.length := by omega
        simp [List.getD_eq_getElem?_getD, hk']
      obtain ⟨v, ev, hv⟩ := hd.get e1
      obtain ⟨u, eu, ru⟩ := rv.get ev
      obtain ⟨a, t, t', o, n, rfl, f1, _, f3⟩ := pair_at I hv ru
      exact ⟨a, t, t', o, n, getD_of eu, kept _ _ f1, f3⟩
    obtain ⟨a1, t1, t1', o1, n1, e1, g1, d1⟩ := gi hi
    obtain ⟨a2, t2, t2', o2, n2, e2, g2, d2⟩ := gi hj
    show wpAny _ _ (keyLt' _ (its.getD i Value.none) (its.getD j Value.none)) C _ z
    rw [e1, e2]
    generalize ps.getD i ("", 0) = f at d1 hC
    generalize ps.getD j ("", 0) = g at d2 hC
    refine kat_lt g1 d1 g2 d2 ?_
    show KatLex _ _ _ _ _ C [(Value.str f.1 t1, Value.str g.1 t2), (Value.int f.2 t1', Value.int g.2 t2')] 0 z
    refine kat_cons (SeqAt.EqAt.str_str _ _ _ _ _ _ _ _ (kat_go (fun b1 => kat_yes ?_) fun b1 => kat_no ?_))
    · refine kat_cons (SeqAt.EqAt.int_int _ _ _ _ _ _ _ _ (kat_go (fun b2 => kat_yes (kat_nil ?_)) fun b2 => kat_no ?_))
      · have e3 : pairLt f g = false := by
          unfold pairLt
          rw [if_pos b1, if_pos b2]
        rw [e3] at hC
        exact hC
      · have e3 : pairLt f g = decide (f.2 < g.2) := by
          unfold pairLt
          rw [if_pos b1, if_neg (by rw [b2]; exact Bool.false_ne_true)]
        rw [e3] at hC
        exact kat_one _ _ (lt_int hC)
    · have e3 : pairLt f g = decide (f.1.cps.toList < g.1.cps.toList) := by
        unfold pairLt
        rw [if_neg (by rw [b1]; exact Bool.false_ne_true)]
      rw [e3] at hC
      exact oneLt_str hC
  · have hp' : p.toList.Perm (List.range vs.length) := by
      have := Array.perm_iff_toList_perm.mp hp
      rw [len1]
      simpa using this
    refine ⟨.ref D, _, I.laid (t' := s.toks) (o := .lst (p.toList.map fun i => vs.getD i .non)) kept hD ?_, rfl, q D p.toList hp' (I.hok.fresh hD)⟩
    refine ⟨?_, _, c, ?_, at_⟩
    · rw [List.length_map, hp'.length_eq, List.length_range]
      exact hz
    · have all : ∀ i ∈ p.toList, i < vs.length := fun i hi => List.mem_range.mp (hp'.mem_iff.mp hi)
      generalize p.toList = l at all
      clear hp hp' at_
      induction l with
      | nil => exact .nil
      | cons i l ih =>
        have hi := all i (List.mem_cons_self ..)
        obtain ⟨u, eu, ru⟩ := rv.get (i := i) (x := vs[i]) (List.getElem?_eq_getElem hi)
        refine .cons ?_ (ih fun k hk => all k (List.mem_cons_of_mem _ hk))
        show RelV (vs.getD i .non) (its.getD i Value.none)
        rw [getD_of eu, getD_of (List.getElem?_eq_getElem hi)]
        exact ru
end
/-- the items of a list, in another order -/
theorem DatsAt.pick {K : PySem.W.Frag} {H : Hp} {vs : List V} {ds : List Dt} {d0 : Dt} (h : DatsAt K H vs ds) : ∀ (l : List Nat), (∀ i ∈ l, i < vs.length) → DatsAt K H (l.map fun i => vs.getD i .non) (l.map fun i => ds.getD i d0)
  | [], _ => .nil
  | i :: l, a => by
    have hi := a i (List.mem_cons_self ..)
    have hl := h.length
    obtain ⟨v, ev, hv⟩ := h.get (i := i) (d := ds[i]) (List.getElem?_eq_getElem (by omega))
    refine .cons ?_ (DatsAt.pick h l fun k hk => a k (List.mem_cons_of_mem _ hk))
    show DatAt K H (vs.getD i .non) (ds.getD i d0)
    rw [getD_of ev, getD_of (List.getElem?_eq_getElem (show i < ds.length by omega))]
    exact hv
end L2
/-! ### own rules over the layer, 8: a loop over zip of two tuples -/
namespace L2
open PySem PySem.Spec PyProof.Rows
/-- an iterator of its own at i, over what stands at l -/
structure Feed (i l : Addr) (P : Nat → Heap → Prop) (f : Nat → Option Value) : Prop where
  obj : ∀ k h, P k h → ∃ o, h.get? i = some o ∧ ∀ v, o.data ≠ .cell v
  keep : ∀ k (h g : Heap), P k h → (∀ b o, b = i ∨ b = l → h.get? b = some o → g.get? b = some o) → P k g
  item : ∀ {prog : Program} {w : World} {A : Around} {E : Value → Shared → Prop} {s : Shared} {k : Nat} {x : Value} {Q : Value → Shared → Prop}, P k s.heap → f k = some x →
    (∀ g, P (k + 1) g → Heap.SameBut i s.heap g → Q x { s with heap := g }) → wpAny (model prog w) A (Builtin.SmallTypes.nextOf (.ref i)) Q E s
  stop : ∀ {prog : Program} {w : World} {A : Around} {E : Value → Shared → Prop} {s : Shared} {k : Nat} {Q : Value → Shared → Prop}, A.handled = none → P k s.heap → f k = none →
    (∀ g e, Heap.ExtBut i s.heap g → (∃ o, g.get? e = some o ∧ o.cls = .type "StopIteration") → E (.ref e) { s with heap := g }) → wpAny (model prog w) A (Builtin.SmallTypes.nextOf (.ref i)) Q E s
section
variable {prog : Program} {w : World} {A : Around} {E : Value → Shared → Prop} {s : Shared}
/-- a tuple's own iterator is such a one -/
theorem feed_tuple {i l : Addr} (hil : l ≠ i) (xs : Array Value) : Feed i l (fun k h => h.IsTupleIter i l k ∧ h.IsTuple l xs) (fun k => xs[k]?) where
  obj := fun k h p => by
    obtain ⟨⟨o, e, _, d⟩, _⟩ := p
    exact ⟨o, e, fun v z => by rw [d] at z; cases z⟩
  keep := fun k h g p q => ⟨p.1.at fun o e => q i o (.inl rfl) e, by
    obtain ⟨o, e, r⟩ := p.2
    exact ⟨o, q l o (.inr rfl) e, r⟩⟩
  item := by
    intro prog w A E s k x Q p hx hQ
    obtain ⟨⟨oi, ei, ci, di⟩, ⟨ol, el, cl, nl, dl⟩⟩ := id p
    unfold Builtin.SmallTypes.nextOf
    refine wpAny_bind (wpAny_callSpecial?_slot (name := Str.ofString "__next__") p.1.typeIs PySem.F.slot_tuple_iterator_next (wpAny_call_entry PySem.F.slot_tuple_iterator_next p.1.typeIs PySem.F.entry_tuple_iterator_next ?_ (PySem.F.args_tuple_iterator_next_1 _)))
    show wpAny _ _ (field (.ref i) 0 >>= _) _ _ s
    refine wpAny_bind (wpAny_field ei di (x := .ref l) rfl ?_)
    show wpAny _ _ (if (Value.ref l == Value.none) = true then _ else _) _ _ s
    rw [if_neg (show ¬ ((Value.ref l == Value.none) = true) from Bool.false_ne_true)]
    show wpAny _ _ (field (.ref i) 1 >>= _) _ _ s
    refine wpAny_bind (wpAny_field ei di (x := .int k 0) rfl ?_)
    show wpAny _ _ (seqItems? (.ref l) >>= _) _ _ s
    refine wpAny_bind (wpAny_seqItems el dl ?_)
    have hx' : xs[k]? = some x := hx
    simp only [Int.toNat_natCast, hx']
    refine wpAny_bind (wpAny_setField ei di (by simp) (wpAny_pure ⟨x, rfl, wpAny_pure (hQ _ ⟨?_, ?_⟩ (Heap.SameBut.update ..))⟩))
    · exact ⟨_, Heap.get?_update_self _ ei (Obj.isFreed_of_fields (Obj.data_mapFields di _)), (Obj.cls_mapFields ..).trans ci, by rw [Obj.data_mapFields di]; simp [rawInt]⟩
    · exact ⟨ol, ((Heap.SameBut.update ..).2 l hil).trans el, cl, nl, dl⟩
  stop := by
    intro prog w A E s k Q hh p hx hE
    obtain ⟨⟨oi, ei, ci, di⟩, ⟨ol, el, cl, nl, dl⟩⟩ := id p
    unfold Builtin.SmallTypes.nextOf
    refine wpAny_bind (wpAny_callSpecial?_slot (name := Str.ofString "__next__") p.1.typeIs PySem.F.slot_tuple_iterator_next (wpAny_call_entry PySem.F.slot_tuple_iterator_next p.1.typeIs PySem.F.entry_tuple_iterator_next ?_ (PySem.F.args_tuple_iterator_next_1 _)))
    show wpAny _ _ (field (.ref i) 0 >>= _) _ _ s
    refine wpAny_bind (wpAny_field ei di (x := .ref l) rfl ?_)
    show wpAny _ _ (if (Value.ref l == Value.none) = true then _ else _) _ _ s
    rw [if_neg (show ¬ ((Value.ref l == Value.none) = true) from Bool.false_ne_true)]
    show wpAny _ _ (field (.ref i) 1 >>= _) _ _ s
    refine wpAny_bind (wpAny_field ei di (x := .int k 0) rfl ?_)
    show wpAny _ _ (seqItems? (.ref l) >>= _) _ _ s
    refine wpAny_bind (wpAny_seqItems el dl ?_)
    have hx' : xs[k]? = none := hx
    simp only [Int.toNat_natCast, hx']
    refine wpAny_bind (wpAny_rule (wpAny_bind (wpAny_setField ei di (by simp) ?_)))
    show wpAny _ _ (newExc (.type "StopIteration") [] >>= _) _ _ _
    refine wpAny_bind ?_
    simp only [newExc, newTuple]
    refine wpAny_bind (wpAny_newObj_type ?_ (by size_fits))
    refine wpAny_bind (m := firstArgMember _ _) (wpAny_of_eq (a := Value.none) (by first | rfl | (simp only [firstArgMember]; rfl)) (wpAny_newObj_type ?_ (by size_fits)))
    simp only [raiseNew]
    refine wpAny_bind (wpAny_handled ?_)
    first | rw [show A.in1.handled = none from hh] | rw [hh]
    refine wpAny_bind (wpAny_pure (wpAny_throw ?_))
    exact hE _ _ (((Heap.SameBut.update ..).extBut.push _).push _) ⟨_, Heap.get?_push_size _ rfl, rfl⟩
variable {z TI TO i1 i2 l1 l2 : Addr} {P1 P2 : Nat → Heap → Prop} {f1 f2 : Nat → Option Value} {k1 k2 : Nat} {x y a b : Value}
/-- one more pair of the two -/
theorem zipF_item {Q : Option Value → Shared → Prop} (F1 : Feed i1 l1 P1 f1) (F2 : Feed i2 l2 P2 f2) (D : ZipApart z TI TO i1 i2 l1 l2) (hz : IsZip s.heap z TI TO .none) (hI : IsPair s.heap TI (.ref i1) (.ref i2)) (hO : IsPair s.heap TO a b)
    (p1 : P1 k1 s.heap) (p2 : P2 k2 s.heap) (hx : f1 k1 = some x) (hy : f2 k2 = some y)
    (hQ : ∀ g, IsZip g z TI TO (rawInt s.heap.objs.size) → IsPair g TO x y → P1 (k1 + 1) g → P2 (k2 + 1) g → IsPair g s.heap.objs.size x y →
      (∀ c o, c ≠ z → c ≠ TO → c ≠ i1 → c ≠ i2 → s.heap.get? c = some o → g.get? c = some o) → Q (some (.ref s.heap.objs.size)) { s with heap := g }) :
    wpAny (model prog w) A (pyNext (.ref z)) Q E s := by
  have ty : s.TypeIs (.ref z) "zip" := ⟨_, hz, rfl⟩
  unfold pyNext
  refine wpAny_bind (wpAny_attempt (wpAny_callSpecial?_slot (name := Str.ofString "__next__") ty PySem.F.slot_zip_next (wpAny_call_entry PySem.F.slot_zip_next ty PySem.F.entry_zip_next ?_ (PySem.F.args_zip_next_1 _))))
  show wpAny _ _ (field (.ref z) 2 >>= _) _ _ _
  refine wpAny_bind (wpAny_field hz rfl (x := .bool false) rfl ?_)
  show wpAny _ _ (field (.ref z) 3 >>= _) _ _ _
  refine wpAny_bind (wpAny_field hz rfl (x := .ref TI) rfl (wpAny_bind (wpAny_seqItems hI rfl ?_)))
  show wpAny _ _ (Builtin.SmallTypes.ownedTupleIsFree (.ref z) >>= _) _ _ _
  refine wpAny_bind ?_
  unfold Builtin.SmallTypes.ownedTupleIsFree
  refine wpAny_bind (wpAny_field hz rfl (x := .none) rfl (wpAny_pure ?_))
  simp only [if_true]
  refine wpAny_bind (wpAny_rule (wpAny_bind (wpAny_field hz rfl (x := .ref TO) rfl ?_)))
  refine wpAny_bind (wpAny_setField_rec hz (by simp) fun g1 z1 b1 => ?_)
  replace z1 : IsZip g1 z TI TO .ellipsis := z1
  refine wpAny_bind ?_
  simp only [List.zipIdx_cons, List.zipIdx_nil, List.forIn_cons, List.forIn_nil]
  refine wpAny_bind (wpAny_bind (wpAny_onRaise ?_))
  show wpAny _ _ (Builtin.SmallTypes.nextOf (.ref i1) >>= _) _ _ _
  have q1 : P1 k1 g1 := F1.keep _ _ _ p1 fun c o hc e => b1.extBut _ _ (by rcases hc with rfl | rfl; exact D.i1z; exact D.l1z) e
  refine wpAny_bind (F1.item q1 hx fun g2 r1 b2 => wpAny_pure ?_)
  have O2 : IsPair g2 TO a b := b2.extBut _ _ D.TOi1 (b1.extBut _ _ D.TOz hO)
  refine wpAny_bind (wpAny_seqItems O2 rfl (wpAny_bind (wpAny_updateSeq_pair O2 fun g3 O3 b3 => ?_)))
  replace O3 : IsPair g3 TO x b := O3
  refine wpAny_bind (wpAny_letGo (wpAny_pure (wpAny_bind (wpAny_bind (wpAny_onRaise ?_)))))
  show wpAny _ _ (Builtin.SmallTypes.nextOf (.ref i2) >>= _) _ _ _
  have q2 : P2 k2 g3 := F2.keep _ _ _ p2 fun c o hc e => b3.extBut _ _ (by rcases hc with rfl | rfl; exact D.TOi2.symm; exact D.l2TO) (b2.extBut _ _ (by rcases hc with rfl | rfl; exact D.i12.symm; exact D.l2i1) (b1.extBut _ _ (by rcases hc with rfl | rfl; exact D.i2z; exact D.l2z) e))
  refine wpAny_bind (F2.item q2 hy fun g4 r2 b4 => wpAny_pure ?_)
  have O4 : IsPair g4 TO x b := b4.extBut _ _ D.TOi2 O3
  refine wpAny_bind (wpAny_seqItems O4 rfl (wpAny_bind (wpAny_updateSeq_pair O4 fun g5 O5 b5 => ?_)))
  replace O5 : IsPair g5 TO x y := O5
  refine wpAny_bind (wpAny_letGo (wpAny_pure (wpAny_pure (wpAny_bind (wpAny_seqItems O5 rfl (wpAny_bind (wpAny_newTuple ?_)))))))
  have sz : g5.objs.size = s.heap.objs.size := by rw [b5.1, b4.1, b3.1, b2.1, b1.1]
  have z5 : IsZip g5 z TI TO .ellipsis := b5.extBut _ _ D.TOz.symm (b4.extBut _ _ D.i2z.symm (b3.extBut _ _ D.TOz.symm (b2.extBut _ _ D.i1z.symm z1)))
  have all5 : ∀ c o, c ≠ z → c ≠ TO → c ≠ i1 → c ≠ i2 → s.heap.get? c = some o → g5.get? c = some o := fun c o n1 n2 n3 n4 e =>
    b5.extBut _ _ n2 (b4.extBut _ _ n4 (b3.extBut _ _ n2 (b2.extBut _ _ n3 (b1.extBut _ _ n1 e))))
  have s1 : P1 (k1 + 1) g5 := F1.keep _ _ _ r1 fun c o hc e => b5.extBut _ _ (by rcases hc with rfl | rfl; exact D.TOi1.symm; exact D.l1TO) (b4.extBut _ _ (by rcases hc with rfl | rfl; exact D.i12; exact D.l1i2) (b3.extBut _ _ (by rcases hc with rfl | rfl; exact D.TOi1.symm; exact D.l1TO) e))
  have s2 : P2 (k2 + 1) g5 := F2.keep _ _ _ r2 fun c o hc e => b5.extBut _ _ (by rcases hc with rfl | rfl; exact D.TOi2.symm; exact D.l2TO) e
  have ltz : z < g5.objs.size := Heap.lt_size z5
  show wpAny _ _ (Builtin.SmallTypes.ownedTupleHandOut (.ref z) (.ref g5.objs.size) >>= _) _ _ _
  refine wpAny_bind ?_
  unfold Builtin.SmallTypes.ownedTupleHandOut
  have z6 : IsZip (g5.push { cls := .type "tuple", data := .seq #[x, y] }) z TI TO .ellipsis := Heap.get?_push_of_some _ z5
  refine wpAny_bind (wpAny_setField_rec z6 (by simp) fun g7 z7 b7 => ?_)
  replace z7 : IsZip g7 z TI TO (rawInt g5.objs.size) := z7
  refine wpAny_setField_rec z7 (by simp) fun g8 z8 b8 => ?_
  replace z8 : IsZip g8 z TI TO (rawInt g5.objs.size) := z8
  have up : ∀ c o, c ≠ z → g5.get? c = some o → g8.get? c = some o := fun c o n e => b8.extBut _ _ n (b7.extBut _ _ n (Heap.get?_push_of_some _ e))
  have T8 : IsPair g8 g5.objs.size x y := b8.extBut _ _ (Nat.ne_of_gt ltz) (b7.extBut _ _ (Nat.ne_of_gt ltz) (Heap.get?_push_size _ rfl))
  rw [sz] at z8 T8
  refine wpAny_pure ⟨_, rfl, wpAny_pure ?_⟩
  show Q (some (.ref g5.objs.size)) _
  rw [sz]
  exact hQ g8 z8 (up _ _ D.TOz O5) (F1.keep _ _ _ s1 fun c o hc e => up c o (by rcases hc with rfl | rfl; exact D.i1z; exact D.l1z) e) (F2.keep _ _ _ s2 fun c o hc e => up c o (by rcases hc with rfl | rfl; exact D.i2z; exact D.l2z) e) T8
    fun c o n1 n2 n3 n4 e => up c o n1 (all5 c o n1 n2 n3 n4 e)
/-- one of the two is at its end -/
theorem zipF_end {Q : Option Value → Shared → Prop} (hh : A.handled = none) (F1 : Feed i1 l1 P1 f1) (F2 : Feed i2 l2 P2 f2) (D : ZipApart z TI TO i1 i2 l1 l2) (hz : IsZip s.heap z TI TO .none) (hI : IsPair s.heap TI (.ref i1) (.ref i2)) (hO : IsPair s.heap TO a b)
    (p1 : P1 k1 s.heap) (p2 : P2 k2 s.heap) (ends : f1 k1 = none ∨ f2 k2 = none)
    (hQ : ∀ g, (∀ c o, c ≠ z → c ≠ TO → c ≠ i1 → c ≠ i2 → s.heap.get? c = some o → g.get? c = some o) → Q none { s with heap := g }) : wpAny (model prog w) A (pyNext (.ref z)) Q E s := by
  have ty : s.TypeIs (.ref z) "zip" := ⟨_, hz, rfl⟩
  have last : ∀ (g : Heap) (e : Addr), (∀ c o, c ≠ z → c ≠ TO → c ≠ i1 → c ≠ i2 → s.heap.get? c = some o → g.get? c = some o) → (∃ o, g.get? e = some o ∧ o.cls = .type "StopIteration") →
      wpAny (model prog w) A (do let b ← isInstance (.ref e) (.type "StopIteration"); if b = true then pure none else throw (.ref e)) Q E { s with heap := g } := fun g e k1 k2 => by
    obtain ⟨o, ho, hc⟩ := k2
    refine wpAny_bind (wpAny_isInstance (T := "StopIteration") (b := true) ⟨o, ho, hc⟩ isSubtype_stop ?_)
    exact wpAny_pure (hQ g k1)
  unfold pyNext
  refine wpAny_bind (wpAny_attempt (wpAny_callSpecial?_slot (name := Str.ofString "__next__") ty PySem.F.slot_zip_next (wpAny_call_entry PySem.F.slot_zip_next ty PySem.F.entry_zip_next ?_ (PySem.F.args_zip_next_1 _))))
  show wpAny _ _ (field (.ref z) 2 >>= _) _ _ _
  refine wpAny_bind (wpAny_field hz rfl (x := .bool false) rfl ?_)
  show wpAny _ _ (field (.ref z) 3 >>= _) _ _ _
  refine wpAny_bind (wpAny_field hz rfl (x := .ref TI) rfl (wpAny_bind (wpAny_seqItems hI rfl ?_)))
  show wpAny _ _ (Builtin.SmallTypes.ownedTupleIsFree (.ref z) >>= _) _ _ _
  refine wpAny_bind ?_
  unfold Builtin.SmallTypes.ownedTupleIsFree
  refine wpAny_bind (wpAny_field hz rfl (x := .none) rfl (wpAny_pure ?_))
  simp only [if_true]
  refine wpAny_bind (wpAny_rule (wpAny_bind (wpAny_field hz rfl (x := .ref TO) rfl ?_)))
  refine wpAny_bind (wpAny_setField_rec hz (by simp) fun g1 z1 b1 => ?_)
  replace z1 : IsZip g1 z TI TO .ellipsis := z1
  refine wpAny_bind ?_
  simp only [List.zipIdx_cons, List.zipIdx_nil, List.forIn_cons, List.forIn_nil]
  refine wpAny_bind (wpAny_bind (wpAny_onRaise ?_))
  show wpAny _ _ (Builtin.SmallTypes.nextOf (.ref i1) >>= _) _ _ _
  have q1 : P1 k1 g1 := F1.keep _ _ _ p1 fun c o hc e => b1.extBut _ _ (by rcases hc with rfl | rfl; exact D.i1z; exact D.l1z) e
  cases hx : f1 k1 with
  | none =>
    refine wpAny_bind (F1.stop hh q1 hx fun g2 e b2 he => ?_)
    obtain ⟨oe, hoe, hce⟩ := he
    have z2 : IsZip g2 z TI TO .ellipsis := b2 _ _ D.i1z.symm z1
    have ez : e ≠ z := fun q => by subst q; rw [z2] at hoe; cases hoe; simp at hce
    exact wpAny_setField_rec z2 (by simp) fun g3 _ b3 => last g3 e (fun c o n1 _ n3 _ q => b3.extBut _ _ n1 (b2 _ _ n3 (b1.extBut _ _ n1 q))) ⟨oe, b3.extBut _ _ ez hoe, hce⟩
  | some x =>
    have hy : f2 k2 = none := by
      rcases ends with q | q
      · rw [hx] at q; cases q
      · exact q
    refine wpAny_bind (F1.item q1 hx fun g2 r1 b2 => wpAny_pure ?_)
    have O2 : IsPair g2 TO a b := b2.extBut _ _ D.TOi1 (b1.extBut _ _ D.TOz hO)
    refine wpAny_bind (wpAny_seqItems O2 rfl (wpAny_bind (wpAny_updateSeq_pair O2 fun g3 O3 b3 => ?_)))
    refine wpAny_bind (wpAny_letGo (wpAny_pure (wpAny_bind (wpAny_bind (wpAny_onRaise ?_)))))
    show wpAny _ _ (Builtin.SmallTypes.nextOf (.ref i2) >>= _) _ _ _
    have q2 : P2 k2 g3 := F2.keep _ _ _ p2 fun c o hc e => b3.extBut _ _ (by rcases hc with rfl | rfl; exact D.TOi2.symm; exact D.l2TO) (b2.extBut _ _ (by rcases hc with rfl | rfl; exact D.i12.symm; exact D.l2i1) (b1.extBut _ _ (by rcases hc with rfl | rfl; exact D.i2z; exact D.l2z) e))
    refine wpAny_bind (F2.stop hh q2 hy fun g4 e b4 he => ?_)
    obtain ⟨oe, hoe, hce⟩ := he
    have z4 : IsZip g4 z TI TO .ellipsis := b4 _ _ D.i2z.symm (b3.extBut _ _ D.TOz.symm (b2.extBut _ _ D.i1z.symm z1))
    have ez : e ≠ z := fun q => by subst q; rw [z4] at hoe; cases hoe; simp at hce
    exact wpAny_setField_rec z4 (by simp) fun g5 _ b5 => last g5 e (fun c o n1 n2 n3 n4 q => b5.extBut _ _ n1 (b4 _ _ n4 (b3.extBut _ _ n2 (b2.extBut _ _ n3 (b1.extBut _ _ n1 q))))) ⟨oe, b5.extBut _ _ ez hoe, hce⟩
end
end L2
/-! ### own rules over the layer, 9: zip of two tuples, the loop -/
namespace L2
open PySem PySem.Spec PyProof.Rows
abbrev zA (h : Heap) (l : Addr) : Heap := h.push { cls := .type "tuple_iterator", data := .fields #[.ref l, .int 0 0] }
abbrev zB (h : Heap) (l m : Addr) : Heap := zA (zA h l) m
abbrev zC (h : Heap) (l m : Addr) : Heap := (zB h l m).push { cls := .type "tuple", data := .seq #[.ref h.objs.size, .ref (zA h l).objs.size] }
abbrev zD (h : Heap) (l m : Addr) : Heap := (zC h l m).push { cls := .type "tuple", data := .seq #[.none, .none] }
abbrev zE (h : Heap) (l m : Addr) : Heap := (zD h l m).push { cls := .type "zip", data := .fields #[.none, .bool false, .bool false, .ref (zB h l m).objs.size, .ref (zC h l m).objs.size] }
theorem meets_zipT (l m : Addr) (xs ys : Array Value) :
    Meets (Builtin.«zip.__new__» ⟨[.type "zip", .ref l, .ref m], []⟩) (fun _ R s => s.heap.IsTuple l xs ∧ s.heap.IsTuple m ys ∧ R (.ok (.ret (.ref (zD s.heap l m).objs.size))) { s with heap := zE s.heap l m }) :=
  .of_wp fun prog w A R s h => by
    obtain ⟨hp, g, d, tk, os⟩ := s; obtain ⟨t1, t2, h⟩ := h
    have hsub := sub_zip
    have T1 : Heap.IsTuple (Shared.heap ⟨hp, g, d, tk, os⟩) l xs := t1
    have T2 : Heap.IsTuple (Shared.heap ⟨hp.push { cls := .type "tuple_iterator", data := .fields #[.ref l, .int 0 0] }, g, d, tk, os⟩) m ys := Heap.IsTuple.push t2 _
    wp_walk using wpAny_pyIter_tuple T1, wpAny_pyIter_tuple T2
    exact ⟨_, rfl, h⟩
theorem call_zipT {prog : Program} {w : World} {A : Around} {E : Value → Shared → Prop} {s : Shared} {l m : Addr} {xs ys : Array Value} {Q : Value → Shared → Prop} (t1 : s.heap.IsTuple l xs) (t2 : s.heap.IsTuple m ys)
    (h : ∀ g, IsZip g (s.heap.objs.size + 4) (s.heap.objs.size + 2) (s.heap.objs.size + 3) .none → IsPair g (s.heap.objs.size + 2) (.ref s.heap.objs.size) (.ref (s.heap.objs.size + 1)) →
      IsPair g (s.heap.objs.size + 3) .none .none → g.IsTupleIter s.heap.objs.size l 0 → g.IsTupleIter (s.heap.objs.size + 1) m 0 → (∀ c o, s.heap.get? c = some o → g.get? c = some o) → Q (.ref (s.heap.objs.size + 4)) { s with heap := g }) :
    wpAny (model prog w) A (call (.type "zip") [.ref l, .ref m]) Q E s := by
  refine callType_new PySem.F.called_zip (by decide) (PySem.F.typeCall_zip_2 _ _) (PySem.F.newCall_zip_2 _ _) (fun obj => PySem.F.args_object_init_3 obj _ _) PySem.F.entry_zip_new (meets_zipT l m xs ys) ⟨t1, t2, ?_⟩
  have n1 : (zA s.heap l).objs.size = s.heap.objs.size + 1 := Heap.size_push ..
  have n2 : (zB s.heap l m).objs.size = s.heap.objs.size + 2 := by rw [Heap.size_push, n1]
  have n3 : (zC s.heap l m).objs.size = s.heap.objs.size + 3 := by rw [Heap.size_push, n2]
  have n4 : (zD s.heap l m).objs.size = s.heap.objs.size + 4 := by rw [Heap.size_push, n3]
  have w5 : (zE s.heap l m).get? (zD s.heap l m).objs.size = some _ := Heap.get?_push_size _ rfl
  have w4 : (zE s.heap l m).get? (zC s.heap l m).objs.size = some _ := Heap.get?_push_of_some _ (Heap.get?_push_size _ rfl)
  have w3 : (zE s.heap l m).get? (zB s.heap l m).objs.size = some _ := Heap.get?_push_of_some _ (Heap.get?_push_of_some _ (Heap.get?_push_size _ rfl))
  have w2 : (zE s.heap l m).get? (zA s.heap l).objs.size = some _ := Heap.get?_push_of_some _ (Heap.get?_push_of_some _ (Heap.get?_push_of_some _ (Heap.get?_push_size _ rfl)))
  have w1 : (zE s.heap l m).get? s.heap.objs.size = some _ := Heap.get?_push_of_some _ (Heap.get?_push_of_some _ (Heap.get?_push_of_some _ (Heap.get?_push_of_some _ (Heap.get?_push_size _ rfl))))
  show _ ∧ _
  rw [n2, n3, n4] at w5
  rw [n1, n2] at w3
  rw [n3] at w4
  rw [n1] at w2
  rw [n4]
  exact ⟨⟨_, w5, rfl⟩, h _ w5 w3 w4 ⟨_, w1, rfl, rfl⟩ ⟨_, w2, rfl, rfl⟩ fun c o q =>
    Heap.get?_push_of_some _ (Heap.get?_push_of_some _ (Heap.get?_push_of_some _ (Heap.get?_push_of_some _ (Heap.get?_push_of_some _ q))))⟩
/-- the pairs of the tuples at a and b -/
def ItzT (K : PySem.W.Frag) (a b : Addr) : It :=
  ⟨fun i H => ∃ xs ys x y, SqT K H a xs ∧ SqT K H b ys ∧ xs[i]? = some x ∧ ys[i]? = some y,
   fun i H v H' => ∃ p, v = .ref p ∧ H p = none ∧ ∀ xs ys x y, SqT K H a xs → SqT K H b ys → xs[i]? = some x → ys[i]? = some y → H' = upd H p (.tup [x, y]),
   fun i H => ∃ xs ys, SqT K H a xs ∧ SqT K H b ys ∧ (xs.length ≤ i ∨ ys.length ≤ i)⟩
theorem turn_zipT {P : Program} {w : World} {K : PySem.W.Frag} {elts : List Expr} {kk : Nat} {pos : Pos} (a b z TI TO i1 i2 : Addr) (D : ZipApart z TI TO i1 i2 a b) :
    Turn P w K (.Tuple elts kk pos) (ItzT K a b) [z, TI, TO, i1, i2] z (fun i h => IsZip h z TI TO .none ∧ IsPair h TI (.ref i1) (.ref i2) ∧ (∃ x y, IsPair h TO x y) ∧ h.IsTupleIter i1 a i ∧ h.IsTupleIter i2 b i) where
  mem := by simp
  obj := fun i h st c hc => by
    obtain ⟨hz, hTI, ⟨x, y, hTO⟩, ⟨o1, e1, c1, d1⟩, ⟨o2, e2, c2, d2⟩⟩ := st
    have hc' : c = z ∨ c = TI ∨ c = TO ∨ c = i1 ∨ c = i2 := by simpa using hc
    rcases hc' with rfl | rfl | rfl | rfl | rfl
    · exact ⟨_, hz, fun v q => by have q' : Data.fields _ = Data.cell v := q; cases q'⟩
    · exact ⟨_, hTI, fun v q => by have q' : Data.seq _ _ = Data.cell v := q; cases q'⟩
    · exact ⟨_, hTO, fun v q => by have q' : Data.seq _ _ = Data.cell v := q; cases q'⟩
    · exact ⟨_, e1, fun v q => by rw [d1] at q; cases q⟩
    · exact ⟨_, e2, fun v q => by rw [d2] at q; cases q⟩
  keep := fun i h h' st k => by
    obtain ⟨hz, hTI, ⟨x, y, hTO⟩, h1, h2⟩ := st
    exact ⟨k z (by simp) _ hz, k TI (by simp) _ hTI, ⟨x, y, k TO (by simp) _ hTO⟩, h1.at fun o e => k i1 (by simp) o e, h2.at fun o e => k i2 (by simp) o e⟩
  item := by
    intro X hP hw hK hc i pins s σ H E I hf st hg
    subst hP hw hK
    obtain ⟨xs, ys, x, y, hq1, hq2, hx, hy⟩ := hg
    obtain ⟨its, rv, p1, hz1⟩ := I.tuple hq1
    obtain ⟨its2, rv2, p2, hz2⟩ := I.tuple hq2
    obtain ⟨u, hu, ru⟩ := rv.get hx
    obtain ⟨v, hv, rvv⟩ := rv2.get hy
    obtain ⟨hz, hTI, ⟨ta, tb, hTO⟩, h1, h2⟩ := st
    refine zipF_item (feed_tuple D.l1i1 its.toArray) (feed_tuple D.l2i2 its2.toArray) D hz hTI hTO ⟨h1, p1⟩ ⟨h2, p2⟩ (x := u) (y := v) (by simpa using hu) (by simpa using hv) fun h' a1 a2 a3 a4 a5 hk => ?_
    refine ⟨_, rfl, wpAny_letOwnedTupleGo_zip a1 fun h'' hz'' sb => ?_⟩
    have nz : s.heap.objs.size ≠ z := Nat.ne_of_gt (Heap.lt_size hz)
    have hk2 : ∀ c o, c ∉ [z, TI, TO, i1, i2] → s.heap.get? c = some o → h''.get? c = some o := fun c o hc e => by
      simp only [List.mem_cons, List.not_mem_nil, or_false, not_or] at hc
      exact sb.extBut c o hc.1 (hk c o hc.1 hc.2.2.1 hc.2.2.2.1 hc.2.2.2.2 e)
    refine ⟨.ref s.heap.objs.size, upd H s.heap.objs.size (.tup [x, y]), I.turnedLaid (t' := s.toks) hk2 hf (Nat.le_refl _) ⟨two_le, [u, v], .cons ru (.cons rvv .nil), ⟨_, sb.extBut _ _ nz a5, rfl, _, rfl⟩⟩, rfl,
      ⟨_, rfl, I.hok.fresh (Nat.le_refl _), fun xs' ys' x' y' e1 e2 e3 e4 => ?_⟩, ⟨hz'', sb.extBut _ _ D.TIz (hk _ _ D.TIz D.TITO D.TIi1 D.TIi2 hTI), ⟨_, _, sb.extBut _ _ D.TOz a2⟩, a3.1.extBut sb.extBut D.i1z, a4.1.extBut sb.extBut D.i2z⟩, fun c hc => ?_⟩
    · rw [I.tuple_inj e1 hq1, hx] at e3
      rw [I.tuple_inj e2 hq2, hy] at e4
      cases e3
      cases e4
      rfl
    · obtain ⟨o, e, _⟩ : ∃ o, s.heap.get? c = some o ∧ True := by
        have hc' : c = z ∨ c = TI ∨ c = TO ∨ c = i1 ∨ c = i2 := by simpa using hc
        obtain ⟨o1, e1, _⟩ := h1
        obtain ⟨o2, e2, _⟩ := h2
        rcases hc' with rfl | rfl | rfl | rfl | rfl
        · exact ⟨_, hz, trivial⟩
        · exact ⟨_, hTI, trivial⟩
        · exact ⟨_, hTO, trivial⟩
        · exact ⟨_, e1, trivial⟩
        · exact ⟨_, e2, trivial⟩
      rw [upd_ne (Nat.ne_of_lt (Heap.lt_size e))]
      exact (hf c hc).1
  done := by
    intro X hP hw hK hc i pins s σ H E I hf st hg
    subst hP hw hK
    obtain ⟨xs, ys, hq1, hq2, hend⟩ := hg
    obtain ⟨its, rv, p1, hz1⟩ := I.tuple hq1
    obtain ⟨its2, rv2, p2, hz2⟩ := I.tuple hq2
    obtain ⟨hz, hTI, ⟨ta, tb, hTO⟩, h1, h2⟩ := st
    have l1 := rv.length
    have l2 := rv2.length
    refine zipF_end (I.ok.hd hc) (feed_tuple D.l1i1 its.toArray) (feed_tuple D.l2i2 its2.toArray) D hz hTI hTO ⟨h1, p1⟩ ⟨h2, p2⟩ ?_ fun h' hk => ⟨rfl, I.turnedAll (t' := s.toks) (ch := [z, TI, TO, i1, i2]) (fun c o hc e => ?_) hf⟩
    · rcases hend with q | q
      · exact .inl (by simp; omega)
      · exact .inr (by simp; omega)
    · simp only [List.mem_cons, List.not_mem_nil, or_false, not_or] at hc
      exact hk c o hc.1 hc.2.2.1 hc.2.2.2.1 hc.2.2.2.2 e
  self := fun _ _ _ _ _ st h => wpAny_pyIter_zip st.1 h
section
variable {X : Cx} {elts : List Expr} {kk : Nat} {tpos : Pos}
def iZipT (K : PySem.W.Frag) (ta : TA) : TI := fun σ H R => ta σ H fun vs H1 => ∃ a b, vs = [.ref a, .ref b] ∧ (∃ xs, SqT K H1 a xs) ∧ (∃ ys, SqT K H1 b ys) ∧ R (ItzT K a b) H1
theorem pi_zipT {e1 e2 : Expr} {ta : TA} {p pos : Pos} (hg : Gl X "zip") (hm : X.mg "zip" = none) (ha : PA X [e1, e2] ta)
    (hs : starEach [e1, e2] X.env = [(false, eval e1 X.env), (false, eval e2 X.env)] := by rfl) (hs2 : starEach [e2] X.env = [(false, eval e2 X.env)] := by rfl) : PI X (.Tuple elts kk tpos) (.Call (.Name "zip" p) [e1, e2] [] pos) (iZipT X.K ta) := by
  intro pins s σ H R I h
  refine Call_ (ld_blt I hg hm Boot.«zip» (PyProof.Rows.callWith_type1 (thn (ha pos pins s σ H _ I h) fun us s1 ⟨vs, H1, I1, r1, q1⟩ => ?_) (by rw [hs, hs2]) (by rw [hs2]; rfl)))
  obtain ⟨a, b, e, ⟨xs, hx⟩, ⟨ys, hy⟩, q⟩ := q1
  subst e
  cases r1 with
  | cons r rr =>
    cases rr with
    | cons r' rr =>
      cases rr
      cases r
      cases r'
      obtain ⟨its, rv, p1, hz1⟩ := I1.tuple hx
      obtain ⟨its2, rv2, p2, hz2⟩ := I1.tuple hy
      have l1 : a < s1.heap.objs.size := by obtain ⟨_, e, _⟩ := p1; exact Heap.lt_size e
      have l2 : b < s1.heap.objs.size := by obtain ⟨_, e, _⟩ := p2; exact Heap.lt_size e
      refine call_zipT p1 p2 fun h' hz hTI hTO hi1 hi2 hk => ?_
      refine wpAny_pyIter_zip hz ?_
      refine ⟨s1.heap.objs.size + 4, [s1.heap.objs.size + 4, s1.heap.objs.size + 2, s1.heap.objs.size + 3, s1.heap.objs.size, s1.heap.objs.size + 1], _, _, H1, rfl, I1.kept (t' := s1.toks) hk, turn_zipT a b _ _ _ _ _ (zipApart_new l1 l2), ⟨hz, hTI, ⟨_, _, hTO⟩, hi1, hi2⟩, fun c hc => ?_, q⟩
      have hc' : s1.heap.objs.size ≤ c := by
        simp only [List.mem_cons, List.not_mem_nil, or_false] at hc
        rcases hc with e | e | e | e | e <;> rw [e] <;> first | exact Nat.le_refl _ | exact Nat.le_add_right _ _
      exact I1.fpOk hc' (I1.hok.fresh hc')
end
/-- over the pairs of two tuples that the body leaves as they are -/
theorem for_zipT {K : PySem.W.Frag} {a b : Addr} {xs ys : List V} {g : TG} {tb : TS} {D : Ends} {σ : L2.St} {H : Hp} (Pv : Nat → L2.St → Hp → Prop) (h0 : Pv 0 σ H) (hl : ∀ i σ H, i ≤ min xs.length ys.length → Pv i σ H → SqT K H a xs ∧ SqT K H b ys)
    (hs : ∀ i x y σ H p, xs[i]? = some x → ys[i]? = some y → Pv i σ H → H p = none → g (.ref p) σ (upd H p (.tup [x, y])) fun σ2 H2 => tb { D with nx := Pv (i + 1), ct := Pv (i + 1), bk := D.nx } σ2 H2)
    (hd : ∀ σ H, Pv (min xs.length ys.length) σ H → D.nx σ H) :
    ∃ W : Nat → Nat → L2.St → Hp → Prop, (∃ m, W 0 m σ H) ∧ ∀ i m σ H, W i m σ H →
      ((ItzT K a b).stop i H ∧ D.nx σ H) ∨ ((ItzT K a b).go i H ∧ ∃ N : L2.St → Hp → Prop, (∀ σ' H', N σ' H' → ∃ m', m' < m ∧ W (i + 1) m' σ' H') ∧ ∀ x H', (ItzT K a b).yld i H x H' → g x σ H' fun σ2 H2 => tb { D with nx := N, ct := N, bk := D.nx } σ2 H2) := by
  refine ⟨fun i m σ H => m = min xs.length ys.length - i ∧ i ≤ min xs.length ys.length ∧ Pv i σ H, ⟨min xs.length ys.length, by simp, Nat.zero_le _, h0⟩, ?_⟩
  rintro i m σ H ⟨rfl, hi, p⟩
  obtain ⟨q1, q2⟩ := hl i σ H hi p
  by_cases hlt : i < min xs.length ys.length
  · have h1 : i < xs.length := by omega
    have h2 : i < ys.length := by omega
    refine .inr ⟨⟨xs, ys, xs[i], ys[i], q1, q2, by simp [h1], by simp [h2]⟩, Pv (i + 1), fun σ' H' p' => ⟨min xs.length ys.length - (i + 1), by omega, rfl, hlt, p'⟩, fun v H' y => ?_⟩
    obtain ⟨t, rfl, ht, y⟩ := y
    have e := y xs ys xs[i] ys[i] q1 q2 (by simp [h1]) (by simp [h2])
    subst e
    exact hs i xs[i] ys[i] σ H t (by simp [h1]) (by simp [h2]) p ht
  · have e : i = min xs.length ys.length := by omega
    subst e
    exact .inl ⟨⟨xs, ys, q1, q2, by omega⟩, hd σ H p⟩
end L2
/-! ### own rules over the layer, 10: comprehensions over a list; a name taken from around; lists of data -/
namespace L2
open PySem PySem.Spec PyProof.Rows
/-- over a list that stays -/
theorem comp_list {K : PySem.W.Frag} {a D : Addr} {xs : List V} {g : TG} {tt : TT} {te : TE} {Q : VK} {H : Hp} {σ0 : L2.St} (Pv : Nat → L2.St → List V → Hp → Prop) (p0 : Pv 0 σ0 [] H)
    (hl : ∀ i σ ys H', i ≤ xs.length → Pv i σ ys H' → SqL K H' a xs ∧ H' D = some (.lst ys) ∧ ys.length < sizeLine)
    (hs : ∀ i x σ ys H', xs[i]? = some x → Pv i σ ys H' → ∀ N : L2.St → List V → Hp → Prop, (∀ σ ys H, Pv (i + 1) σ ys H → N σ ys H) →
      g x σ H' fun σ4 H4 => tt σ4 H4 fun b H5 => if b = true then te σ4 H5 fun v H6 => H6 D = some (.lst ys) ∧ N σ4 (ys ++ [v]) (upd H6 D (.lst (ys ++ [v]))) else N σ4 ys H5)
    (hd : ∀ σ ys H', Pv xs.length σ ys H' → Q (.ref D) H') : CompW (Itl K a) g tt te σ0 Q D H := by
  refine ⟨fun i m σ ys H => m = xs.length - i ∧ i ≤ xs.length ∧ Pv i σ ys H, ⟨xs.length, by simp, Nat.zero_le _, p0⟩, ?_⟩
  rintro i m σ ys H2 ⟨rfl, hi, p⟩
  obtain ⟨q1, q2, q3⟩ := hl i σ ys H2 hi p
  refine ⟨q2, q3, ?_⟩
  by_cases hlt : i < xs.length
  · refine .inr ⟨⟨xs, xs[i], q1, by simp [hlt]⟩, fun x H3 y => ?_⟩
    obtain ⟨e, y⟩ := y
    subst e
    exact hs i x σ ys _ (y xs q1) p (fun σ ys H => ∃ m', m' < xs.length - i ∧ m' = xs.length - (i + 1) ∧ i + 1 ≤ xs.length ∧ Pv (i + 1) σ ys H) fun σ ys H z => ⟨_, by omega, rfl, hlt, z⟩
  · have e : i = xs.length := by omega
    subst e
    exact .inl ⟨⟨xs, q1, Nat.le_refl _⟩, hd σ ys H2 p⟩
/-- one cell of the frame around is taken -/
theorem caps1 {X : Cx} {scope : Scope} {Nc : List Str} {x : Str} {c : Addr} (i j : Nat) (ns : List (Str × NameKind)) (hrel : (relabel scope X.env).names = ns) (hclos : closureFor scope X.env = pure [(x, c)]) (hk : scope.kind = .function)
    (hnc : ∀ y ∈ scope.names, y.2 ≠ .cell) (hnm : ∀ y ∈ scope.names, y.2 = .local → scope.names.lookup y.1 = some .local) (hcell : X.env.cells.lookup x = some c)
    (honly : ∀ y ∈ ns, y.2 = .cell ∨ y.2 = .free → y.1 = x) (hin : ns.lookup x = some .cell) (hkind : X.env.kindOf x = some .cell) (hNc : Nc[i]? = some x) (hj : X.N[j]? = some x) :
    Caps X scope [(x, c)] Nc (fun σ => (List.replicate Nc.length none).set i (σ.getD j none)) where
  clos := hclos
  kind := hk
  nocell := hnc
  names := hnm
  cells := fun y d e => by
    rw [List.lookup_cons] at e
    split at e
    · rename_i q
      have q' : y = x := by simpa using q
      cases e
      rw [q']
      exact hcell
    · cases e
  has := fun y h => by
    rw [hrel] at h
    have e : y = x := by
      rcases h with h | h
      · exact honly _ (PySem.mem_of_lookup h) (.inl rfl)
      · exact honly _ (PySem.mem_of_lookup h) (.inr rfl)
    subst e
    exact ⟨c, by simp [List.lookup_cons]⟩
  len := fun σ => by simp
  cap := fun σ k y v e1 e2 _ => by
    have hki : k = i := by
      by_cases q : k = i
      · exact q
      · rw [List.getElem?_set_ne (Ne.symm q), List.getElem?_replicate] at e2
        split at e2 <;> cases e2
    subst hki
    rw [hNc] at e1
    cases e1
    have hlt : k < Nc.length := (List.getElem?_eq_some_iff.mp hNc).1
    rw [List.getElem?_set_self (by simpa using hlt)] at e2
    refine ⟨.inl (by rw [hrel]; exact hin), .inl hkind, j, hj, ?_, .inr (.inl hkind)⟩
    have e3 : σ.getD j none = some v := Option.some.inj e2
    rw [List.getD_eq_getElem?_getD] at e3
    cases q : σ[j]? with
    | none => rw [q] at e3; cases e3
    | some o =>
      rw [q] at e3
      have e4 : o = some v := e3
      rw [e4]
/-! lists whose items are data -/
def LsM (K : PySem.W.Frag) (H : Hp) (a : Addr) (ds : List Dt) : Prop := ∃ vs, H a = some (.lst vs) ∧ DatsAt K H vs ds
theorem LsM.same {K : PySem.W.Frag} {H H' : Hp} {a : Addr} {ds : List Dt} (h : LsM K H a ds) (e : Same H H') : LsM K H' a ds := by
  obtain ⟨vs, h1, h2⟩ := h
  exact ⟨vs, e _ _ h1, h2.same e⟩
section
variable {K : PySem.W.Frag} {H : Hp} {a : Addr} {xs ys : List V}
/-- a list is written: what is a tuple stays -/
theorem sqT_upd {r : Addr} {vs : List V} (ha : H a = some (.lst xs)) (h : SqT K H r vs) : SqT K (upd H a (.lst ys)) r vs := by
  rcases h with (h | ⟨o, h⟩) | h
  · exact .inl (.inl (by rw [upd_ne (ne_of h ha (by intro z; cases z))]; exact h))
  · exact .inl (.inr ⟨o, by rw [upd_ne (ne_of h ha (by intro z; cases z))]; exact h⟩)
  · exact .inr h
mutual
theorem DatAt.updL (ha : H a = some (.lst xs)) : ∀ {v : V} {d : Dt}, DatAt K H v d → DatAt K (upd H a (.lst ys)) v d
  | v, .non, h => by simpa [DatAt] using h
  | v, .int i, h => by simpa [DatAt] using h
  | v, .str i, h => by simpa [DatAt] using h
  | v, .tup ds, h => by
    obtain ⟨r, vs, rfl, h1, h2⟩ := h.un
    exact .tup (sqT_upd ha h1) (DatsAt.updL ha h2)
theorem DatsAt.updL (ha : H a = some (.lst xs)) : ∀ {vs : List V} {ds : List Dt}, DatsAt K H vs ds → DatsAt K (upd H a (.lst ys)) vs ds
  | vs, [], h => by
    rw [h.un0]
    exact .nil
  | vs, d :: ds, h => by
    obtain ⟨v, r, rfl, h1, h2⟩ := h.un
    exact .cons (DatAt.updL ha h1) (DatsAt.updL ha h2)
end
theorem LsM.updL {b : Addr} {ds : List Dt} (ha : H a = some (.lst xs)) (hb : b ≠ a) (h : LsM K H b ds) : LsM K (upd H a (.lst ys)) b ds := by
  obtain ⟨vs, h1, h2⟩ := h
  exact ⟨vs, by rw [upd_ne hb]; exact h1, h2.updL ha⟩
end
end L2
/-! ### tables as data: outcomes, fractions, rows; what the promises of the tables' defs speak of -/
namespace L2
open PySem PySem.Spec PyProof.Rows FW
def frD (p : Int × Int) : Dt := .tup [.int p.1, .int p.2]
def prD (p : Dt × Dt) : Dt := .tup [p.1, p.2]
def rowD (r : Dt × Int) : Dt := .tup [r.1, .int r.2]
def parD (S : Int) (r : Dt × Int) : Dt := prD (r.1, frD (low r.2 S))
/-- an outcome -/
inductive Oc : Dt → Prop
  | non : Oc .non
  | int (n : Int) : Oc (.int n)
  | recd (fs : List (Str × Int)) : Oc (.tup (fs.map pairD))
def tyD : Dt → String
  | .non => "NoneType"
  | .int _ => "int"
  | .str _ => "str"
  | .tup _ => "tuple"
theorem hgt_pairs : ∀ fs : List (Str × Int), Dt.hgts (fs.map pairD) ≤ 1
  | [] => by simp [Dt.hgts]
  | f :: fs => by
    have := hgt_pairs fs
    simp only [List.map_cons, Dt.hgts, pairD, Dt.hgt]
    omega
theorem Oc.hgt {d : Dt} (h : Oc d) : d.hgt ≤ 2 := by
  cases h with
  | non => simp [Dt.hgt]
  | int n => simp [Dt.hgt]
  | recd fs =>
    have := hgt_pairs fs
    simp only [Dt.hgt]
    omega
theorem hgt_frD (p : Int × Int) : (frD p).hgt ≤ 1 := by simp [frD, Dt.hgt, Dt.hgts]
theorem hgt_prD (p : Dt × Dt) : (prD p).hgt ≤ max p.1.hgt p.2.hgt + 1 := by
  simp [prD, Dt.hgt, Dt.hgts]
theorem frD_inj {p q : Int × Int} (h : frD p = frD q) : p = q := by
  have h' : ([.int p.1, .int p.2] : List Dt) = [.int q.1, .int q.2] := Dt.tup.inj h
  simp at h'
  exact Prod.ext h'.1 h'.2
section
variable {K : PySem.W.Frag} {H : Hp}
theorem DatsAt.two {vs : List V} {d e : Dt} (h : DatsAt K H vs [d, e]) : ∃ v u, vs = [v, u] ∧ DatAt K H v d ∧ DatAt K H u e := by
  obtain ⟨v, r, rfl, h1, h2⟩ := h.un
  obtain ⟨u, r2, rfl, h3, h4⟩ := h2.un
  have := h4.un0
  subst this
  exact ⟨v, u, rfl, h1, h3⟩
theorem DatAt.int_eq {v : V} {n : Int} (h : DatAt K H v (.int n)) : v = .int n := by simpa [DatAt] using h
theorem DatAt.str_eq {v : V} {n : Str} (h : DatAt K H v (.str n)) : v = .str n := by simpa [DatAt] using h
theorem DatAt.non_eq {v : V} (h : DatAt K H v .non) : v = .non := by simpa [DatAt] using h
theorem DatAt.fr {v : V} {p : Int × Int} (h : DatAt K H v (frD p)) : ∃ r, v = .ref r ∧ SqT K H r [.int p.1, .int p.2] := by
  obtain ⟨r, vs, rfl, h1, h2⟩ := DatAt.un (ds := [.int p.1, .int p.2]) h
  obtain ⟨a, b, rfl, h3, h4⟩ := h2.two
  rw [h3.int_eq, h4.int_eq] at h1
  exact ⟨r, rfl, h1⟩
theorem datAt_fr {r : Addr} {p : Int × Int} (h : SqT K H r [.int p.1, .int p.2]) : DatAt K H (.ref r) (frD p) := .tup h (.cons (.int _) (.cons (.int _) .nil))
theorem DatAt.pr {v : V} {p : Dt × Dt} (h : DatAt K H v (prD p)) : ∃ r a b, v = .ref r ∧ SqT K H r [a, b] ∧ DatAt K H a p.1 ∧ DatAt K H b p.2 := by
  obtain ⟨r, vs, rfl, h1, h2⟩ := DatAt.un (ds := [p.1, p.2]) h
  obtain ⟨a, b, rfl, h3, h4⟩ := h2.two
  exact ⟨r, a, b, rfl, h1, h3, h4⟩
theorem datAt_pr {r : Addr} {a b : V} {p : Dt × Dt} (h : SqT K H r [a, b]) (h1 : DatAt K H a p.1) (h2 : DatAt K H b p.2) : DatAt K H (.ref r) (prD p) := .tup h (.cons h1 (.cons h2 .nil))
theorem DatAt.row {v : V} {p : Dt × Int} (h : DatAt K H v (rowD p)) : ∃ r a, v = .ref r ∧ SqT K H r [a, .int p.2] ∧ DatAt K H a p.1 := by
  obtain ⟨r, vs, rfl, h1, h2⟩ := DatAt.un (ds := [p.1, .int p.2]) h
  obtain ⟨a, b, rfl, h3, h4⟩ := h2.two
  rw [h4.int_eq] at h1
  exact ⟨r, a, rfl, h1, h3⟩
theorem datAt_row {r : Addr} {a : V} {p : Dt × Int} (h : SqT K H r [a, .int p.2]) (h1 : DatAt K H a p.1) : DatAt K H (.ref r) (rowD p) := .tup h (.cons h1 (.cons (.int _) .nil))
end
/-- isinstance of data -/
theorem call_isiD {X : Cx} : CallR X (.builtin "isinstance") (fun xs H Q => ∃ v d n b, xs = [v, .ty n] ∧ DatAt X.K H v d ∧ PySem.W.kitOne X.K (.type (tyD d)) (.type n) = some b ∧ Q (.bl b) H) := by
  intro pins s σ H xs us Q I r h
  obtain ⟨v, d, n, b, rfl, hv, e, q⟩ := h
  cases d with
  | non =>
    have := hv.non_eq
    subst this
    exact call_isi pins s σ H _ us Q I r ⟨_, _, _, _, rfl, .non, e, q⟩
  | int i =>
    have := hv.int_eq
    subst this
    exact call_isi pins s σ H _ us Q I r ⟨_, _, _, _, rfl, .int i, e, q⟩
  | str i =>
    have := hv.str_eq
    subst this
    exact call_isi pins s σ H _ us Q I r ⟨_, _, _, _, rfl, .str i, e, q⟩
  | tup ds =>
    obtain ⟨r', vs, rfl, h1, h2⟩ := hv.un
    exact call_isiT pins s σ H _ us Q I r ⟨r', vs, n, b, rfl, h1, e, q⟩
/-! sums over one bottom -/
def sumW (rows : List (Dt × Int)) : Int := (rows.map (·.2)).sum
theorem sumW_nil : sumW [] = 0 := rfl
theorem sumW_cons (r : Dt × Int) (rows : List (Dt × Int)) : sumW (r :: rows) = r.2 + sumW rows := rfl
theorem sumW_append (a b : List (Dt × Int)) : sumW (a ++ b) = sumW a + sumW b := by
  unfold sumW
  rw [List.map_append, List.sum_append]
theorem sumW_snoc (rows : List (Dt × Int)) (r : Dt × Int) : sumW (rows ++ [r]) = sumW rows + r.2 := by
  rw [sumW_append]
  show _ + (r.2 + 0) = _
  omega
theorem sumW_nn : ∀ {rows : List (Dt × Int)}, (∀ r ∈ rows, 0 ≤ r.2) → 0 ≤ sumW rows
  | [], _ => Int.le_refl 0
  | r :: rows, h => by
    have h1 := h r (List.mem_cons_self ..)
    have h2 := sumW_nn fun q hq => h q (List.mem_cons_of_mem _ hq)
    rw [sumW_cons]
    omega
theorem sumW_take {rows : List (Dt × Int)} (h : ∀ r ∈ rows, 0 ≤ r.2) (i : Nat) : 0 ≤ sumW (rows.take i) ∧ sumW (rows.take i) ≤ sumW rows := by
  have e : sumW rows = sumW (rows.take i) + sumW (rows.drop i) := by
    rw [← sumW_append, List.take_append_drop]
  have h1 := sumW_nn (rows := rows.take i) fun r hr => h r (List.mem_of_mem_take hr)
  have h2 := sumW_nn (rows := rows.drop i) fun r hr => h r (List.mem_of_mem_drop hr)
  omega
theorem sumW_mem : ∀ {rows : List (Dt × Int)}, (∀ r ∈ rows, 0 ≤ r.2) → ∀ r ∈ rows, r.2 ≤ sumW rows
  | q :: rows, h, r, hr => by
    have h1 := h q (List.mem_cons_self ..)
    have h2 := sumW_nn fun q hq => h q (List.mem_cons_of_mem _ hq)
    rw [sumW_cons]
    rcases List.mem_cons.mp hr with z | z
    · rw [z]; omega
    · have := sumW_mem (fun q hq => h q (List.mem_cons_of_mem _ hq)) r z
      omega
/-- rows over the bottom S, none below 0, all of them small enough -/
structure Sc (S : Int) (rows : List (Dt × Int)) : Prop where
  pos : 0 < S
  big : S ≤ 10 ^ 60
  nn : ∀ r ∈ rows, 0 ≤ r.2
  top : sumW rows ≤ 10 ^ 60
theorem sm60 {x : Int} (h0 : 0 ≤ x) (h : x ≤ 10 ^ 60) : Sm x := by
  have e : x.natAbs ≤ 10 ^ 60 := by omega
  exact Nat.lt_of_le_of_lt e (by decide)
theorem isQ_low {W S : Int} (h : 0 < S) : IsQ (low W S) W S := ⟨low_Low h, low_eq⟩
theorem plus_low {W w S : Int} (h : 0 < S) : plusM (low W S).1 (low W S).2 (low w S).1 (low w S).2 = low (W + w) S := ((isQ_low h).plus (isQ_low h)).low h
theorem low_zero {S : Int} (h : 0 < S) : low 0 S = (0, 1) := ((IsQ.zero (S := S)).low h).symm
theorem low_one {S : Int} (h : 0 < S) : low S S = (1, 1) := by
  have l : Low 1 1 := ⟨by decide, by decide⟩
  exact (low_of l h (by rw [Int.mul_comm])).symm
theorem low_is_zero {W S : Int} (h : 0 < S) (e : low W S = (0, 1)) : W = 0 := by
  have q := low_eq (t := W) (b := S)
  rw [e] at q
  simpa using q.symm
theorem low_sm {W S : Int} (h0 : 0 ≤ W) (h : W ≤ 10 ^ 60) (p : 0 < S) (q : S ≤ 10 ^ 60) : Sm (low W S).1 ∧ Sm (low W S).2 :=
  ⟨(sm60 h0 h).le (low_abs W S).1, (sm60 (by omega) q).le (low_abs W S).2⟩
theorem low_nn {W S : Int} (h0 : 0 ≤ W) (p : 0 < S) : 0 ≤ (low W S).1 := by
  have l := low_Low (t := W) p
  have e := low_eq (t := W) (b := S)
  rcases Int.lt_or_le (low W S).1 0 with q | q
  · have h1 : (low W S).1 * S < 0 := Int.mul_neg_of_neg_of_pos q p
    have h2 : 0 ≤ W * (low W S).2 := Int.mul_nonneg h0 (Int.le_of_lt l.pos)
    omega
  · exact q
/-- a share by the sum of them -/
theorem over_low {w W S : Int} (hS : 0 < S) (hW : 0 < W) : low ((low w S).1 * (low W S).2) ((low w S).2 * (low W S).1) = low w W := by
  have l1 := low_Low (t := w) hS
  have l2 := low_Low (t := W) hS
  have e1 := low_eq (t := w) (b := S)
  have e2 := low_eq (t := W) (b := S)
  have l3 := low_Low (t := w) hW
  have e3 := low_eq (t := w) (b := W)
  have c0 : 0 < (low W S).1 := by
    have h := low_nn (Int.le_of_lt hW) hS
    rcases Int.lt_or_le 0 (low W S).1 with q | q
    · exact q
    · have z : (low W S).1 = 0 := by omega
      rw [z, Int.zero_mul] at e2
      have := Int.mul_pos hW l2.pos
      omega
  generalize (low w S).1 = a at *
  generalize (low w S).2 = b at *
  generalize (low W S).1 = c at *
  generalize (low W S).2 = d at *
  refine (low_of l3 (Int.mul_pos l1.pos c0) ?_).symm
  generalize (low w W).1 = x at *
  generalize (low w W).2 = y at *
  have k : (x * (b * c)) * (S * W) = ((a * d) * y) * (S * W) := by
    calc (x * (b * c)) * (S * W) = (x * W) * b * (c * S) := by simp only [Int.mul_assoc, Int.mul_left_comm, Int.mul_comm]
      _ = (w * y) * b * (W * d) := by rw [e3, e2]
      _ = (w * b) * d * y * W := by simp only [Int.mul_assoc, Int.mul_left_comm, Int.mul_comm]
      _ = (a * S) * d * y * W := by rw [e1]
      _ = ((a * d) * y) * (S * W) := by simp only [Int.mul_assoc, Int.mul_left_comm, Int.mul_comm]
  exact Int.eq_of_mul_eq_mul_right (by have := Int.mul_pos hS hW; omega) k
theorem low_top_pos {W S : Int} (hS : 0 < S) (hW : 0 < W) : 0 < (low W S).1 := by
  have h := low_nn (Int.le_of_lt hW) hS
  have e2 := low_eq (t := W) (b := S)
  have l2 := low_Low (t := W) hS
  rcases Int.lt_or_le 0 (low W S).1 with q | q
  · exact q
  · have z : (low W S).1 = 0 := by omega
    rw [z, Int.zero_mul] at e2
    have := Int.mul_pos hW l2.pos
    omega
/-- the rows of the law -/
structure Rw (rows : List (Dt × Int)) : Prop where
  oc : ∀ r ∈ rows, Oc r.1
  pos : ∀ r ∈ rows, 0 < r.2
theorem Rw.nn {rows : List (Dt × Int)} (h : Rw rows) : ∀ r ∈ rows, 0 ≤ r.2 := fun r hr => Int.le_of_lt (h.pos r hr)
theorem Rw.nil : Rw [] := ⟨(fun _ h => nomatch h), (fun _ h => nomatch h)⟩
theorem Rw.filter {rows : List (Dt × Int)} (h : Rw rows) (p : Dt × Int → Bool) : Rw (rows.filter p) :=
  ⟨fun r hr => h.oc r (List.mem_filter.mp hr).1, fun r hr => h.pos r (List.mem_filter.mp hr).1⟩
theorem take_snoc' {α : Type} {xs : List α} {i : Nat} {x : α} (h : xs[i]? = some x) : xs.take (i + 1) = xs.take i ++ [x] := by
  rw [List.take_add_one, h]
  rfl
theorem map_get {α β : Type} {f : α → β} {xs : List α} {i : Nat} {y : β} (h : (xs.map f)[i]? = some y) : ∃ x, xs[i]? = some x ∧ f x = y := by
  rw [List.getElem?_map] at h
  cases e : xs[i]? with
  | none => rw [e] at h; cases h
  | some x => rw [e] at h; exact ⟨x, rfl, Option.some.inj h⟩
end L2
namespace L2
open PySem PySem.Spec PyProof.Rows
/-! the same rules, the fragment named: within a comprehension -/
section
variable {X : Cx} {K : PySem.W.Frag}
theorem op_eqDK (hK : X.K = K) (hu : X.A.units + 64 < cLine) : OpR X (compareOp .Eq) (rEqD K) := by
  subst hK
  exact op_eqD hu
theorem op_neDK (hK : X.K = K) (hu : X.A.units + 64 < cLine) : OpR X (compareOp .NotEq) (rNeD K) := by
  subst hK
  exact op_neD hu
theorem ix_tupK (hK : X.K = K) : IxR X (rIxT K) := by
  subst hK
  exact ix_tup
theorem pg_tupK {es : List Expr} {kk n : Nat} {t : TGs} {pos : Pos} (hK : X.K = K) (hc : X.calm = true) (h : PGs X es t) (hn : (assignEach es X.env).length = n := by rfl) (hst : (assignEach es X.env).findIdx? (·.1) = none := by rfl) :
    PG X (.Tuple es kk pos) (gTup K n t) := by
  subst hK
  exact pg_tup hc h hn hst
end
end L2
/-! ### own rules over the layer, 20: whole *= e; a list taken apart; comprehensions over tuples and ranges; lists of lists -/
namespace L2
open PySem PySem.Spec PyProof.Rows
section
variable {X : Cx}
def ipMul : TIp := fun x y H Q => ∃ i j, x = .int i ∧ y = .int j ∧ IntMulOk i j ∧ Q (.int (i * j)) H
theorem ip_mul : PIp X .Mult ipMul := by
  intro pins s σ H x y v u Q I r1 r2 h
  obtain ⟨i, j, e1, e2, hm, q⟩ := h
  subst e1; subst e2
  obtain ⟨t, rfl⟩ := r1
  obtain ⟨t', rfl⟩ := r2
  exact PyProof.Rows.imul_int ⟨.int _, H, I.tok _, ⟨_, rfl⟩, q⟩ hm
theorem call_list_ofK {K : PySem.W.Frag} (hK : X.K = K) : CallR X (.type "list") (fun xs H Q => ∃ p ys, xs = [.ref p] ∧ (SqL K H p ys ∨ SqT K H p ys) ∧ ∀ l, H l = none → Q (.ref l) (upd H l (.lst ys))) := by
  subst hK
  exact call_list_of
/-- (a, b, ..) = a list of that length -/
def gLst (K : PySem.W.Frag) (n : Nat) (t : TGs) : TG := fun v σ H Q => ∃ a xs, v = .ref a ∧ SqL K H a xs ∧ xs.length = n ∧ t xs σ H Q
theorem pg_lst {es : List Expr} {k : Nat} {t : TGs} {n : Nat} {pos : Pos} (hc : X.calm = true) (h : PGs X es t)
    (hn : (assignEach es X.env).length = n := by rfl) (hst : (assignEach es X.env).findIdx? (·.1) = none := by rfl) : PG X (.Tuple es k pos) (gLst X.K n t) := by
  intro pins s σ H v u Q I r hw
  obtain ⟨a, xs, e1, hq, hl, hw⟩ := hw
  subst e1
  cases r
  obtain ⟨its, rv, p, hz⟩ := I.list hq
  have hlen := rv.length
  have e2 : (assignEach es X.env).length = its.toArray.size := by
    rw [hn, List.size_toArray]
    omega
  rw [assign_Tuple]
  refine wpAny_bind (wpAny_standAt ?_)
  unfold unpack
  rw [e2, hst]
  refine wpAny_bind (wpAny_holding (PySem.W.kun_itemsOf (I.ok.hd hc) p.isList fun h' hx => ?_))
  have I1 : Inv X pins σ H { s with heap := h' } := I.kept (t' := s.toks) fun b o e => hx b o (Nat.ne_of_lt (Heap.lt_size e)) e
  exact h pins _ σ H xs _ Q I1 (by simpa using rv) hw
end
/-- over a tuple -/
theorem comp_tup {K : PySem.W.Frag} {a D : Addr} {xs : List V} {g : TG} {tt : TT} {te : TE} {Q : VK} {H : Hp} {σ0 : L2.St} (Pv : Nat → L2.St → List V → Hp → Prop) (p0 : Pv 0 σ0 [] H)
    (hl : ∀ i σ ys H', i ≤ xs.length → Pv i σ ys H' → SqT K H' a xs ∧ H' D = some (.lst ys) ∧ ys.length < sizeLine)
    (hs : ∀ i x σ ys H', xs[i]? = some x → Pv i σ ys H' → ∀ N : L2.St → List V → Hp → Prop, (∀ σ ys H, Pv (i + 1) σ ys H → N σ ys H) →
      g x σ H' fun σ4 H4 => tt σ4 H4 fun b H5 => if b = true then te σ4 H5 fun v H6 => H6 D = some (.lst ys) ∧ N σ4 (ys ++ [v]) (upd H6 D (.lst (ys ++ [v]))) else N σ4 ys H5)
    (hd : ∀ σ ys H', Pv xs.length σ ys H' → Q (.ref D) H') : CompW (Itt K a) g tt te σ0 Q D H := by
  refine ⟨fun i m σ ys H => m = xs.length - i ∧ i ≤ xs.length ∧ Pv i σ ys H, ⟨xs.length, by simp, Nat.zero_le _, p0⟩, ?_⟩
  rintro i m σ ys H2 ⟨rfl, hi, p⟩
  obtain ⟨q1, q2, q3⟩ := hl i σ ys H2 hi p
  refine ⟨q2, q3, ?_⟩
  by_cases hlt : i < xs.length
  · refine .inr ⟨⟨xs, xs[i], q1, by simp [hlt]⟩, fun x H3 y => ?_⟩
    obtain ⟨e, y⟩ := y
    subst e
    exact hs i x σ ys _ (y xs q1) p (fun σ ys H => ∃ m', m' < xs.length - i ∧ m' = xs.length - (i + 1) ∧ i + 1 ≤ xs.length ∧ Pv (i + 1) σ ys H) fun σ ys H z => ⟨_, by omega, rfl, hlt, z⟩
  · have e : i = xs.length := by omega
    subst e
    exact .inl ⟨⟨xs, q1, Nat.le_refl _⟩, hd σ ys H2 p⟩
/-- over a range -/
theorem comp_range {lo : Int} {n : Nat} {D : Addr} {g : TG} {tt : TT} {te : TE} {Q : VK} {H : Hp} {σ0 : L2.St} (Pv : Nat → L2.St → List V → Hp → Prop) (p0 : Pv 0 σ0 [] H)
    (hl : ∀ i σ ys H', i ≤ n → Pv i σ ys H' → H' D = some (.lst ys) ∧ ys.length < sizeLine)
    (hs : ∀ i σ ys H', i < n → Pv i σ ys H' → ∀ N : L2.St → List V → Hp → Prop, (∀ σ ys H, Pv (i + 1) σ ys H → N σ ys H) →
      g (.int (lo + i)) σ H' fun σ4 H4 => tt σ4 H4 fun b H5 => if b = true then te σ4 H5 fun v H6 => H6 D = some (.lst ys) ∧ N σ4 (ys ++ [v]) (upd H6 D (.lst (ys ++ [v]))) else N σ4 ys H5)
    (hd : ∀ σ ys H', Pv n σ ys H' → Q (.ref D) H') : CompW (Itr lo n) g tt te σ0 Q D H := by
  refine ⟨fun i m σ ys H => m = n - i ∧ i ≤ n ∧ Pv i σ ys H, ⟨n, by simp, Nat.zero_le _, p0⟩, ?_⟩
  rintro i m σ ys H2 ⟨rfl, hi, p⟩
  obtain ⟨q2, q3⟩ := hl i σ ys H2 hi p
  refine ⟨q2, q3, ?_⟩
  by_cases hlt : i < n
  · refine .inr ⟨hlt, fun x H3 y => ?_⟩
    obtain ⟨e, y⟩ := y
    subst e y
    exact hs i σ ys _ hlt p (fun σ ys H => ∃ m', m' < n - i ∧ m' = n - (i + 1) ∧ i + 1 ≤ n ∧ Pv (i + 1) σ ys H) fun σ ys H z => ⟨_, by omega, rfl, hlt, z⟩
  · have e : i = n := by omega
    subst e
    exact .inl ⟨Nat.le_refl _, hd σ ys H2 p⟩
/-! all but one thing stays -/
def BtA (a : Addr) (H H' : Hp) : Prop := ∀ b o, b ≠ a → H b = some o → H' b = some o
/-- no tuple stands there -/
def NT (H : Hp) (a : Addr) : Prop := ∀ o, H a = some o → (∀ vs, o ≠ .tup vs) ∧ ∀ q vs, o ≠ .frz q (.tup vs)
section
variable {K : PySem.W.Frag} {H H' H2 : Hp} {a b : Addr} {xs : List V}
theorem NT.lst (h : H a = some (.lst xs)) : NT H a := fun o e => by
  rw [h] at e
  cases e
  exact ⟨(fun _ z => nomatch z), (fun _ _ z => nomatch z)⟩
theorem NT.ins {C dx : Addr} {fs : List (Str × V)} (h : H a = some (.ins C dx fs)) : NT H a := fun o e => by
  rw [h] at e
  cases e
  exact ⟨(fun _ z => nomatch z), (fun _ _ z => nomatch z)⟩
theorem BtA.refl : BtA a H H := fun _ _ _ h => h
theorem BtA.of (e : Same H H') : BtA a H H' := fun b o _ h => e b o h
theorem BtA.trans (e : BtA a H H') (f : BtA a H' H2) : BtA a H H2 := fun b o n h => f b o n (e b o n h)
theorem BtA.upd {o : HO} : BtA a H (L2.upd H a o) := fun b _ n h => by rw [upd_ne n]; exact h
theorem BtA.updF {o : HO} (hn : H b = none) : BtA a H (L2.upd H b o) := fun c _ _ h => by rw [upd_ne (ne_of_none h hn)]; exact h
theorem sqT_but {r : Addr} {vs : List V} (nt : NT H a) (e : BtA a H H') (h : SqT K H r vs) : SqT K H' r vs := by
  rcases h with (h | ⟨o, h⟩) | h
  · exact .inl (.inl (e _ _ (fun z => by subst z; exact (nt _ h).1 _ rfl) h))
  · exact .inl (.inr ⟨o, e _ _ (fun z => by subst z; exact (nt _ h).2 _ _ rfl) h⟩)
  · exact .inr h
mutual
theorem DatAt.but (nt : NT H a) (e : BtA a H H') : ∀ {v : V} {d : Dt}, DatAt K H v d → DatAt K H' v d
  | v, .non, h => by simpa [DatAt] using h
  | v, .int i, h => by simpa [DatAt] using h
  | v, .str i, h => by simpa [DatAt] using h
  | v, .tup ds, h => by
    obtain ⟨r, vs, rfl, h1, h2⟩ := h.un
    exact .tup (sqT_but nt e h1) (DatsAt.but nt e h2)
theorem DatsAt.but (nt : NT H a) (e : BtA a H H') : ∀ {vs : List V} {ds : List Dt}, DatsAt K H vs ds → DatsAt K H' vs ds
  | vs, [], h => by
    rw [h.un0]
    exact .nil
  | vs, d :: ds, h => by
    obtain ⟨v, r, rfl, h1, h2⟩ := h.un
    exact .cons (DatAt.but nt e h1) (DatsAt.but nt e h2)
end
theorem LsM.but {ds : List Dt} (h : LsM K H b ds) (nt : NT H a) (e : BtA a H H') (n : b ≠ a) : LsM K H' b ds := by
  obtain ⟨vs, h1, h2⟩ := h
  exact ⟨vs, e _ _ n h1, h2.but nt e⟩
/-! lists of lists of data: the inner lists with their addresses -/
structure LLM (K : PySem.W.Frag) (H : Hp) (a : Addr) (ps : List (Addr × List Dt)) : Prop where
  at_ : H a = some (.lst (ps.map fun p => V.ref p.1))
  it : ∀ p ∈ ps, LsM K H p.1 p.2
  ne : ∀ p ∈ ps, p.1 ≠ a
theorem LLM.same {ps : List (Addr × List Dt)} (h : LLM K H a ps) (e : Same H H') : LLM K H' a ps := ⟨e _ _ h.at_, fun p hp => (h.it p hp).same e, h.ne⟩
theorem LLM.but {ps : List (Addr × List Dt)} (h : LLM K H b ps) (nt : NT H a) (e : BtA a H H') (n : b ≠ a) (ni : ∀ p ∈ ps, p.1 ≠ a) : LLM K H' b ps :=
  ⟨e _ _ n h.at_, fun p hp => (h.it p hp).but nt e (ni p hp), h.ne⟩
theorem LLM.snoc {ps : List (Addr × List Dt)} {D : Addr} {ds : List Dt} (h : LLM K H a ps) (hD : LsM K H D ds) (ne : D ≠ a) : LLM K (L2.upd H a (.lst (ps.map (fun p => V.ref p.1) ++ [.ref D]))) a (ps ++ [(D, ds)]) := by
  refine ⟨?_, fun p hp => ?_, fun p hp => ?_⟩
  · rw [upd_same, List.map_append]
    rfl
  · rcases List.mem_append.mp hp with z | z
    · exact (h.it p z).but (.lst h.at_) .upd (h.ne p z)
    · cases List.mem_singleton.mp z
      exact hD.but (.lst h.at_) .upd ne
  · rcases List.mem_append.mp hp with z | z
    · exact h.ne p z
    · cases List.mem_singleton.mp z
      exact ne
end
section
variable {X : Cx} {pins : List (Addr × Obj)} {σ : St} {H : Hp} {s : Shared}
theorem eqAt_lists (I : Inv X pins σ H s) {A : Around} {p q : Addr} {ds : List Dt} (hu : A.units + 40 < cLine) (hp : LsM X.K H p ds) (hq : LsM X.K H q ds) (hh : Dt.hgts ds ≤ 30) : SeqAt.EqAt A s (.ref p) (.ref q) true := by
  by_cases hab : p = q
  · subst hab
    exact SeqAt.EqAt.same _
  · obtain ⟨vs, e1, h2⟩ := hp
    obtain ⟨ws, e2, k2⟩ := hq
    obtain ⟨its, r1, p1, _⟩ := I.list (SqL.of e1)
    obtain ⟨its2, r2, p2, _⟩ := I.list (SqL.of e2)
    have hsz : its.toArray.size = its2.toArray.size := by
      have l1 := r1.length
      have l2 := r2.length
      have m1 := h2.length
      have m2 := k2.length
      rw [List.size_toArray, List.size_toArray]
      omega
    have r := SeqAt.RcAt.lists (A := A) p1.isList p2.isList hsz (by omega) fun j j1 j2 => items_eq h2 k2 r1 r2 (fun d e x y u v hm q1 q2 q3 q4 =>
      eqAt_dat I 30 A.in1 d e x y u v (Nat.le_trans (Dt.hgt_mem hm) hh) (by show A.units + 1 + 30 < cLine; omega) q1 q2 q3 q4) j j1 j2
    rw [list_all h2 k2 r1 r2 hsz, Dt.beqs_self] at r
    exact SeqAt.EqAt.of_refs hab r
/-- != of two lists of lists that are alike -/
def rNeLL (K : PySem.W.Frag) : R2 := fun x y H Q => ∃ a b ps qs, x = .ref a ∧ y = .ref b ∧ LLM K H a ps ∧ LLM K H b qs ∧ ps.map (·.2) = qs.map (·.2) ∧ (∀ p ∈ ps, Dt.hgts p.2 ≤ 30) ∧ Q (.bl false) H
theorem op_neLL (hu : X.A.units + 64 < cLine) : OpR X (compareOp .NotEq) (rNeLL X.K) := by
  intro pins s σ H x y u v Q I ru rv h
  obtain ⟨a, b, ps, qs, rfl, rfl, ha, hb, he, hh, q⟩ := h
  cases (show u = Value.ref a from ru)
  cases (show v = Value.ref b from rv)
  obtain ⟨its, r1, p1, _⟩ := I.list (SqL.of ha.at_)
  obtain ⟨its2, r2, p2, _⟩ := I.list (SqL.of hb.at_)
  have l1 := r1.length
  have l2 := r2.length
  have le := congrArg List.length he
  rw [List.length_map] at l1 l2
  rw [List.length_map, List.length_map] at le
  have hsz : its.toArray.size = its2.toArray.size := by
    rw [List.size_toArray, List.size_toArray]
    omega
  have r := SeqAt.RcNeAt.lists (A := X.A) (e := fun _ => true) p1.isList p2.isList hsz (by omega) fun j j1 j2 => by
    rw [List.size_toArray] at j1 j2
    have g1 : ps[j]? = some ps[j] := List.getElem?_eq_getElem (by omega)
    have g2 : qs[j]? = some qs[j] := List.getElem?_eq_getElem (by omega)
    obtain ⟨u, eu, ru⟩ := r1.get (i := j) (x := .ref ps[j].1) (by rw [List.getElem?_map, g1]; rfl)
    obtain ⟨v, ev, rv⟩ := r2.get (i := j) (x := .ref qs[j].1) (by rw [List.getElem?_map, g2]; rfl)
    have f1 : its.toArray[j] = Value.ref ps[j].1 := by
      have := (List.getElem?_eq_some_iff.mp eu).2
      rw [← show u = Value.ref ps[j].1 from ru]
      simpa using this
    have f2 : its2.toArray[j] = Value.ref qs[j].1 := by
      have := (List.getElem?_eq_some_iff.mp ev).2
      rw [← show v = Value.ref qs[j].1 from rv]
      simpa using this
    rw [f1, f2]
    have ed : qs[j].2 = ps[j].2 := by
      have z := congrArg (fun l => l[j]?) he
      simp only [List.getElem?_map, g1, g2] at z
      exact (Option.some.inj z).symm
    exact eqAt_lists I (by show X.A.units + 1 + 40 < cLine; omega) (ha.it _ (List.getElem_mem _)) (by rw [← ed]; exact hb.it _ (List.getElem_mem _)) (hh _ (List.getElem_mem _))
  have ea : (List.range its.toArray.size).all (fun _ => true) = true := by simp
  rw [ea] at r
  exact r _ _ _ _ (fin_bl I q rfl)
end
end L2
namespace L2
open PySem PySem.Spec PyProof.Rows

/-! ### lists of pairs as tables -/
section
variable {κ : Type} [DecidableEq κ]
def valV (kvs : List (κ × V)) (k : κ) : Option V := (kvs.find? fun kv => decide (kv.1 = k)).map (·.2)
/-- in its place, or at the end -/
def putK (kvs : List (κ × V)) (k : κ) (v : V) : List (κ × V) :=
  if (kvs.any fun kv => decide (kv.1 = k)) = true then kvs.map (fun kv => if kv.1 = k then (kv.1, v) else kv) else kvs ++ [(k, v)]
def dropK (kvs : List (κ × V)) (k : κ) : List (κ × V) := kvs.filter fun kv => decide (kv.1 ≠ k)

theorem valV_nil {k : κ} : valV ([] : List (κ × V)) k = none := rfl
theorem valV_pos {p : κ × V} {r : List (κ × V)} {k : κ} (e : p.1 = k) : valV (p :: r) k = some p.2 := by simp [valV, List.find?_cons, e]
theorem valV_neg {p : κ × V} {r : List (κ × V)} {k : κ} (e : ¬ p.1 = k) : valV (p :: r) k = valV r k := by simp [valV, List.find?_cons, e]
theorem valV_any (k : κ) : ∀ kvs : List (κ × V), (kvs.any fun kv => decide (kv.1 = k)) = (valV kvs k).isSome
  | [] => rfl
  | p :: r => by
    rw [List.any_cons]
    by_cases e : p.1 = k
    · simp only [valV_pos e, decide_eq_true e, Bool.true_or, Option.isSome_some]
    · rw [valV_neg e, decide_eq_false e, Bool.false_or]; exact valV_any k r
theorem valV_map (k j : κ) (y : V) : ∀ kvs : List (κ × V), valV (kvs.map fun kv => if kv.1 = k then (kv.1, y) else kv) j = (valV kvs j).map fun x => if j = k then y else x
  | [] => rfl
  | p :: r => by
    have ih := valV_map k j y r
    rw [List.map_cons]
    by_cases h : p.1 = k
    · rw [if_pos h]
      by_cases e : p.1 = j
      · rw [valV_pos (p := (p.1, y)) e, valV_pos e, Option.map_some, if_pos (e.symm.trans h)]
      · rw [valV_neg (p := (p.1, y)) e, valV_neg e, ih]
    · rw [if_neg h]
      by_cases e : p.1 = j
      · rw [valV_pos (p := p) e, valV_pos e, Option.map_some, if_neg (fun z => h (e.trans z))]
      · rw [valV_neg (p := p) e, valV_neg e, ih]
theorem valV_snoc (k j : κ) (y : V) : ∀ kvs : List (κ × V), valV kvs k = none → valV (kvs ++ [(k, y)]) j = if j = k then some y else valV kvs j
  | [], _ => by
    by_cases e : k = j
    · rw [if_pos e.symm]; exact valV_pos (p := (k, y)) e
    · rw [if_neg (fun z => e z.symm)]; exact valV_neg (p := (k, y)) e
  | p :: r, hn => by
    rw [List.cons_append]
    have hk : ¬ p.1 = k := fun z => by rw [valV_pos z] at hn; cases hn
    rw [valV_neg hk] at hn
    have ih := valV_snoc k j y r hn
    by_cases e : p.1 = j
    · rw [valV_pos e, valV_pos e, if_neg (fun z => hk (e.trans z))]
    · rw [valV_neg e, valV_neg e, ih]
theorem valV_put (kvs : List (κ × V)) (k j : κ) (y : V) : valV (putK kvs k y) j = if j = k then some y else valV kvs j := by
  unfold putK
  by_cases a : (kvs.any fun kv => decide (kv.1 = k)) = true
  · rw [if_pos a, valV_map]
    rw [valV_any] at a
    by_cases e : j = k
    · obtain ⟨x, hx⟩ := Option.isSome_iff_exists.mp a
      rw [if_pos e, e, hx, Option.map_some, if_pos rfl]
    · rw [if_neg e]
      cases valV kvs j with
      | none => rfl
      | some x => rw [Option.map_some, if_neg e]
  · rw [if_neg a]
    refine valV_snoc k j y kvs ?_
    rw [valV_any] at a
    cases q : valV kvs k with
    | none => rfl
    | some x => rw [q] at a; exact (a rfl).elim
theorem length_putK (kvs : List (κ × V)) (k : κ) (v : V) : (putK kvs k v).length ≤ kvs.length + 1 := by
  unfold putK
  split
  · rw [List.length_map]; omega
  · rw [List.length_append, List.length_cons, List.length_nil]; omega
theorem putK_new {kvs : List (κ × V)} {k : κ} (v : V) (h : valV kvs k = none) : putK kvs k v = kvs ++ [(k, v)] := by
  unfold putK
  rw [valV_any, h]
  exact if_neg (by decide)

theorem RelO.isSome_eq {o : Option V} {u : Option Value} (r : RelO o u) : o.isSome = u.isSome := by
  cases o with
  | none => cases u with
    | none => rfl
    | some _ => exact (show False from r).elim
  | some _ => cases u with
    | none => exact (show False from r).elim
    | some _ => rfl
theorem RelO.getD {o : Option V} {u : Option Value} {d : V} {d' : Value} (r : RelO o u) (rd : RelV d d') : RelV (o.getD d) (u.getD d') := by
  cases o with
  | none => cases u with
    | none => exact rd
    | some _ => exact (show False from r).elim
  | some _ => cases u with
    | none => exact (show False from r).elim
    | some _ => exact r

/-- raw tables of the same keys -/
theorem KV.val {kvs : List (κ × V)} {vs : List (κ × Value)} (r : KV kvs vs) (k : κ) : RelO (valV kvs k) (valueAt vs k) := by
  unfold KV at r
  induction r with
  | nil => exact True.intro
  | @cons p q ps qs h t ih =>
    obtain ⟨h1, h2⟩ := h
    by_cases e : p.1 = k
    · have e' : q.1 = k := h1.symm.trans e
      have b : valueAt (q :: qs) k = some q.2 := by simp [valueAt, List.find?_cons, e']
      rw [valV_pos e, b]; exact h2
    · have e' : ¬ q.1 = k := fun z => e (h1.trans z)
      have b : valueAt (q :: qs) k = valueAt qs k := by simp [valueAt, List.find?_cons, e']
      rw [valV_neg e, b]; exact ih
theorem KV.any {kvs : List (κ × V)} {vs : List (κ × Value)} (r : KV kvs vs) (k : κ) : (kvs.any fun kv => decide (kv.1 = k)) = vs.any fun kv => decide (kv.1 = k) := by
  unfold KV at r
  induction r with
  | nil => rfl
  | cons h t ih => rw [List.any_cons, List.any_cons, ih, h.1]
theorem KV.repl {kvs : List (κ × V)} {vs : List (κ × Value)} (r : KV kvs vs) (k : κ) {y : V} {u : Value} (ry : RelV y u) :
    KV (kvs.map fun kv => if kv.1 = k then (kv.1, y) else kv) (vs.map fun kv => if kv.1 = k then (kv.1, u) else kv) := by
  unfold KV at r ⊢
  induction r with
  | nil => exact .nil
  | @cons p q ps qs h t ih =>
    rw [List.map_cons, List.map_cons]
    refine .cons ?_ ih
    obtain ⟨h1, h2⟩ := h
    by_cases e : p.1 = k
    · rw [if_pos e, if_pos (h1.symm.trans e)]; exact ⟨h1, ry⟩
    · rw [if_neg e, if_neg (fun z => e (h1.trans z))]; exact ⟨h1, h2⟩
theorem KV.put {kvs : List (κ × V)} {vs : List (κ × Value)} (r : KV kvs vs) (k : κ) {y : V} {u : Value} (ry : RelV y u) : KV (putK kvs k y) (stored vs k u) := by
  unfold putK stored
  rw [r.any k]
  by_cases e : (vs.any fun kv => decide (kv.1 = k)) = true
  · rw [if_pos e, if_pos e]; exact r.repl k ry
  · rw [if_neg e, if_neg e]; exact Paired.snoc r ⟨rfl, ry⟩
theorem KV.drop {kvs : List (κ × V)} {vs : List (κ × Value)} (r : KV kvs vs) (k : κ) : KV (dropK kvs k) (without vs k) := by
  unfold KV at r ⊢
  unfold dropK without
  induction r with
  | nil => exact .nil
  | @cons p q ps qs h t ih =>
    obtain ⟨h1, h2⟩ := h
    rw [List.filter_cons, List.filter_cons]
    by_cases e : p.1 = k
    · have a : ¬ decide (p.1 ≠ k) = true := by simp [e]
      have b : ¬ decide (q.1 ≠ k) = true := by simp [h1.symm.trans e]
      rw [if_neg a, if_neg b]; exact ih
    · have e' : ¬ q.1 = k := fun z => e (h1.trans z)
      have a : decide (p.1 ≠ k) = true := by simp [e]
      have b : decide (q.1 ≠ k) = true := by simp [e']
      rw [if_pos a, if_pos b]; exact .cons ⟨h1, h2⟩ ih
theorem KV.keys {kvs : List (κ × V)} {vs : List (κ × Value)} (r : KV kvs vs) : kvs.map (·.1) = vs.map (·.1) := by
  unfold KV at r
  induction r with
  | nil => rfl
  | cons h t ih => rw [List.map_cons, List.map_cons, ih, h.1]
theorem KV.length {kvs : List (κ × V)} {vs : List (κ × Value)} (r : KV kvs vs) : kvs.length = vs.length := Paired.length r
theorem dropK_le (kvs : List (κ × V)) (k : κ) : (dropK kvs k).length ≤ kvs.length := List.length_filter_le _ _
end


/-! ### a tracked dict, its keys ints and texts or tuples of these -/
theorem kV_is {P : Program} {w : World} {k : Key} {u : Value} (r : RelV (kV k) u) : (mixKind P w).is k u = true := by
  cases k with
  | inl i => obtain ⟨t, e⟩ := (show ∃ t, u = Value.int i t from r); subst e; exact mixKind_int P w i t
  | inr x => obtain ⟨t, e⟩ := (show ∃ t, u = Value.str x t from r); subst e; exact mixKind_str P w x t
theorem kV_inj {a b : Key} (e : kV a = kV b) : a = b := by
  cases a with
  | inl i => cases b with
    | inl j => have e' : V.int i = V.int j := e; injection e' with e'; rw [e']
    | inr y => exact nomatch (show V.int i = V.str y from e)
  | inr x => cases b with
    | inl j => exact nomatch (show V.str x = V.int j from e)
    | inr y => have e' : V.str x = V.str y := e; injection e' with e'; rw [e']
theorem kVs_inj : ∀ {a b : List Key}, a.map kV = b.map kV → a = b
  | [], [], _ => rfl
  | [], _ :: _, e => by simp at e
  | _ :: _, [], e => by simp at e
  | x :: xs, y :: ys, e => by
    rw [List.map_cons, List.map_cons] at e
    injection e with e1 e2
    rw [kV_inj e1, kVs_inj e2]
theorem items_are {P : Program} {w : World} : ∀ {ks : List Key} {us : List Value}, Vals (ks.map kV) us → ItemsAre (mixKind P w) ks us
  | [], _, r => by rw [List.map_nil] at r; cases r; exact .nil
  | k :: ks, _, r => by
    rw [List.map_cons] at r
    cases r with
    | cons h t => exact .cons (kV_is h) (items_are t)

/-- raw entries of a dict with tuple keys -/
abbrev KT (H : Hp) : List (List Key × V) → List (List Key × Addr × Value) → Prop := Paired fun p q => p.1 = q.1 ∧ H q.2.1 = some (.tup (p.1.map kV)) ∧ RelV p.2 q.2.2
theorem KT.val {H : Hp} {kvs : List (List Key × V)} {xs : List (List Key × Addr × Value)} (r : KT H kvs xs) (k : List Key) : RelO (valV kvs k) ((atKey xs k).map (·.2)) := by
  induction r with
  | nil => exact True.intro
  | @cons p q ps qs h t ih =>
    obtain ⟨h1, _, h2⟩ := h
    by_cases e : p.1 = k
    · have e' : q.1 = k := h1.symm.trans e
      have b : atKey (q :: qs) k = some q.2 := by simp [atKey, List.find?_cons, e']
      rw [valV_pos e, b]; exact h2
    · have e' : ¬ q.1 = k := fun z => e (h1.trans z)
      have b : atKey (q :: qs) k = atKey qs k := by simp [atKey, List.find?_cons, e']
      rw [valV_neg e, b]; exact ih
theorem KT.repl {H : Hp} {kvs : List (List Key × V)} {xs : List (List Key × Addr × Value)} (r : KT H kvs xs) (k : List Key) {y : V} {u : Value} (ry : RelV y u) :
    KT H (kvs.map fun kv => if kv.1 = k then (kv.1, y) else kv) (xs.map (putAt k u)) := by
  induction r with
  | nil => exact .nil
  | @cons p q ps qs h t ih =>
    rw [List.map_cons, List.map_cons]
    refine .cons ?_ ih
    obtain ⟨h1, h2, h3⟩ := h
    unfold putAt
    by_cases e : p.1 = k
    · rw [if_pos e, if_pos (h1.symm.trans e)]; exact ⟨h1, h2, ry⟩
    · rw [if_neg e, if_neg (fun z => e (h1.trans z))]; exact ⟨h1, h2, h3⟩
theorem KT.put {H : Hp} {kvs : List (List Key × V)} {xs : List (List Key × Addr × Value)} (r : KT H kvs xs) (k : List Key) {b : Addr} {y : V} {u : Value} (hb : H b = some (.tup (k.map kV))) (ry : RelV y u) :
    KT H (putK kvs k y) (storedH xs k b u) := by
  have e : (kvs.any fun kv => decide (kv.1 = k)) = (atKey xs k).isSome := by
    rw [valV_any, (r.val k).isSome_eq, Option.isSome_map]
  unfold putK storedH
  rw [e]
  by_cases q : (atKey xs k).isSome = true
  · rw [if_pos q, if_pos q]; exact r.repl k ry
  · rw [if_neg q, if_neg q]; exact Paired.snoc r ⟨rfl, hb, ry⟩
theorem KT.keeps {H H' : Hp} {kvs : List (List Key × V)} {xs : List (List Key × Addr × Value)} (r : KT H kvs xs) (ht : ∀ b ys, H b = some (.tup ys) → H' b = some (.tup ys)) : KT H' kvs xs :=
  Paired.mapP r fun _ _ z => ⟨z.1, ht _ _ z.2.1, z.2.2⟩

section
variable {P : Program} {w : World} {H : Hp} {h : Heap} {a : Addr}
theorem rd_of {u : HO} (ok : HOk P w H h) (e : Rd H a u) : ObjOk P w H h a u := e.ok ok
theorem dk_rd {kvs : List (Key × V)} (ok : HOk P w H h) (e : Rd H a (.dK kvs)) : kvs.length ≤ sizeLine ∧ (a == sysModules) = false ∧ ∃ vs, KV kvs vs ∧ h.DictOf (mixKind P w) a vs :=
  show ObjOk P w H h a (.dK kvs) from rd_of ok e
theorem dk_of {kvs : List (Key × V)} (ok : HOk P w H h) (e : H a = some (.dK kvs)) : kvs.length ≤ sizeLine ∧ (a == sysModules) = false ∧ ∃ vs, KV kvs vs ∧ h.DictOf (mixKind P w) a vs := dk_rd ok (.inl e)
/-- a tracked tuple of ints and texts is a key -/
theorem key_of {ks : List Key} (ok : HOk P w H h) (e : H a = some (.tup (ks.map kV))) : (tupleKind (mixKind P w)).is h ks a := by
  obtain ⟨_, its, r, o, h1, h2, n, h3⟩ := (show ObjOk P w H h a (.tup (ks.map kV)) from ok a _ e)
  exact ⟨o, its.toArray, n, h1, h2, h3, by simpa using items_are r⟩
theorem dt_rd {kvs : List (List Key × V)} (ok : HOk P w H h) (e : Rd H a (.dT kvs)) : kvs.length ≤ sizeLine ∧ (a == sysModules) = false ∧
    ∃ xs, KT H kvs xs ∧ h.DictOfH (tupleKind (mixKind P w)) a xs := by
  obtain ⟨z, y, xs, r, o, es, ep, h1, h2, h3, h4, h5⟩ := (show ObjOk P w H h a (.dT kvs) from rd_of ok e)
  refine ⟨z, y, xs, r, o, es, ep, h1, h2, h3, h4, fun x hx => ?_, h5⟩
  have all : ∀ {l : List (List Key × V)} {m : List (List Key × Addr × Value)}, KT H l m → ∀ x ∈ m, (tupleKind (mixKind P w)).is h x.1 x.2.1 := by
    intro l m q
    induction q with
    | nil => intro x hx; exact nomatch hx
    | @cons p q ps qs hq t ih =>
      intro x hx
      rcases List.mem_cons.mp hx with e | hx
      · subst e
        exact key_of ok (by rw [← hq.1]; exact hq.2.1)
      · exact ih x hx
  exact all r x hx
theorem dt_of {kvs : List (List Key × V)} (ok : HOk P w H h) (e : H a = some (.dT kvs)) : kvs.length ≤ sizeLine ∧ (a == sysModules) = false ∧
    ∃ xs, KT H kvs xs ∧ h.DictOfH (tupleKind (mixKind P w)) a xs := dt_rd ok (.inl e)
end

/-- what the dict at a holds at the key y -/
def DGet (H : Hp) (a : Addr) (y : V) (r : Option V) : Prop :=
  (∃ kvs k, Rd H a (.dK kvs) ∧ y = kV k ∧ r = valV kvs k) ∨ ∃ kvs k b, Rd H a (.dT kvs) ∧ y = .ref b ∧ H b = some (.tup (k.map kV)) ∧ r = valV kvs k
/-- the heap behind a[y] = v -/
def DPut (H : Hp) (a : Addr) (y v : V) (H' : Hp) : Prop :=
  (∃ kvs k, H a = some (.dK kvs) ∧ y = kV k ∧ kvs.length < sizeLine ∧ H' = upd H a (.dK (putK kvs k v))) ∨
  ∃ kvs k b, H a = some (.dT kvs) ∧ y = .ref b ∧ H b = some (.tup (k.map kV)) ∧ kvs.length < sizeLine ∧ H' = upd H a (.dT (putK kvs k v))
theorem DGet.k {H : Hp} {a : Addr} {kvs : List (Key × V)} {k : Key} (e : H a = some (.dK kvs)) : DGet H a (kV k) (valV kvs k) := .inl ⟨kvs, k, .inl e, rfl, rfl⟩
theorem DGet.t {H : Hp} {a b : Addr} {kvs : List (List Key × V)} {k : List Key} (e : H a = some (.dT kvs)) (eb : H b = some (.tup (k.map kV))) : DGet H a (.ref b) (valV kvs k) := .inr ⟨kvs, k, b, .inl e, rfl, eb, rfl⟩
theorem DPut.k {H : Hp} {a : Addr} {kvs : List (Key × V)} {k : Key} {v : V} (e : H a = some (.dK kvs)) (hl : kvs.length < sizeLine) : DPut H a (kV k) v (upd H a (.dK (putK kvs k v))) := .inl ⟨kvs, k, e, rfl, hl, rfl⟩
theorem DPut.t {H : Hp} {a b : Addr} {kvs : List (List Key × V)} {k : List Key} {v : V} (e : H a = some (.dT kvs)) (eb : H b = some (.tup (k.map kV))) (hl : kvs.length < sizeLine) :
    DPut H a (.ref b) v (upd H a (.dT (putK kvs k v))) := .inr ⟨kvs, k, b, e, rfl, eb, hl, rfl⟩


section
variable {X : Cx} {pins : List (Addr × Obj)} {σ : St} {H : Hp} {s : Shared} {a : Addr} {y v : V} {u r : Value} {o : Option V} {A : Around} {E : Value → Shared → Prop}

theorem Inv.big (I : Inv X pins σ H s) : sysModules < s.heap.objs.size := by
  have h : mainGlobals < s.heap.objs.size := (I.mod.glob.keeps I.bk).lt
  exact Nat.lt_trans (by decide) h

/-- d[y], there -/
theorem d_getItem {Q : Value → Shared → Prop} (hu : A.units + 1 < cLine) (I : Inv X pins σ H s) (g : DGet H a y (some v)) (ry : RelV y u) (h : ∀ w' s', Inv X pins σ H s' → RelV v w' → Q w' s') :
    wpAny (model X.prog X.w) A (getItem (.ref a) u) Q E s := by
  rcases g with ⟨kvs, k, e, ey, l⟩ | ⟨kvs, k, b, e, ey, eb, l⟩
  · subst ey
    obtain ⟨z, hd, vs, rel, dd⟩ := dk_rd I.hok e
    obtain ⟨w', hw, rw'⟩ := RelO.some_of (v := v) (o := valueAt vs k) (by rw [l]; exact rel.val k)
    exact wpAny_getItem_of (kV_is ry) dd.mapOf hw (h w' _ (I.tok _) rw')
  · subst ey
    cases (show u = Value.ref b from ry)
    obtain ⟨z, hd, xs, rel, dd⟩ := dt_rd I.hok e
    obtain ⟨w', hw, rw'⟩ := RelO.some_of (v := v) (o := (atKey xs k).map (·.2)) (by rw [l]; exact rel.val k)
    obtain ⟨p, hp, hp2⟩ := Option.map_eq_some_iff.mp hw
    refine wpAny_getItem_heap (tupleKind_room_in1 hu) (key_of I.hok eb) dd hp ?_
    rw [hp2]
    exact h w' _ (I.tok _) rw'
/-- y in d -/
theorem d_in {Q : Value → Shared → Prop} (hu : A.units + 1 < cLine) (I : Inv X pins σ H s) (g : DGet H a y o) (ry : RelV y u) (h : ∀ s', Inv X pins σ H s' → Q (.bool o.isSome) s') :
    wpAny (model X.prog X.w) A (compareOp .In u (.ref a)) Q E s := by
  rcases g with ⟨kvs, k, e, ey, l⟩ | ⟨kvs, k, b, e, ey, eb, l⟩
  · subst ey
    obtain ⟨z, hd, vs, rel, dd⟩ := dk_rd I.hok e
    refine wpAny_in_of (kV_is ry) hd dd.mapOf ?_
    rw [← (rel.val k).isSome_eq, ← l]
    exact h _ (I.tok _)
  · subst ey
    cases (show u = Value.ref b from ry)
    obtain ⟨z, hd, xs, rel, dd⟩ := dt_rd I.hok e
    refine wpAny_in_heap (tupleKind_room_in1 hu) (key_of I.hok eb) hd dd ?_
    have q := (rel.val k).isSome_eq
    rw [Option.isSome_map] at q
    rw [← q, ← l]
    exact h _ (I.tok _)
theorem d_notIn {Q : Value → Shared → Prop} (hu : A.units + 1 < cLine) (I : Inv X pins σ H s) (g : DGet H a y o) (ry : RelV y u) (h : ∀ s', Inv X pins σ H s' → Q (.bool (!o.isSome)) s') :
    wpAny (model X.prog X.w) A (compareOp .NotIn u (.ref a)) Q E s := by
  rcases g with ⟨kvs, k, e, ey, l⟩ | ⟨kvs, k, b, e, ey, eb, l⟩
  · subst ey
    obtain ⟨z, hd, vs, rel, dd⟩ := dk_rd I.hok e
    refine wpAny_notIn_of (kV_is ry) hd dd.mapOf ?_
    rw [← (rel.val k).isSome_eq, ← l]
    exact h _ (I.tok _)
  · subst ey
    cases (show u = Value.ref b from ry)
    obtain ⟨z, hd, xs, rel, dd⟩ := dt_rd I.hok e
    refine wpAny_notIn_heap (tupleKind_room_in1 hu) (key_of I.hok eb) hd dd ?_
    have q := (rel.val k).isSome_eq
    rw [Option.isSome_map] at q
    rw [← q, ← l]
    exact h _ (I.tok _)
/-- a dict's object is replaced -/
theorem d_write {h' : Heap} {t' : Nat} {ob : HO} (I : Inv X pins σ H s) (mu : Mut (H a)) (hs : Heap.SameBut a s.heap h') (he : ∃ q, h'.get? a = some q) (new : ObjOk X.prog X.w (upd H a ob) h' a ob) :
    Inv X pins σ (upd H a ob) { s with heap := h', toks := t' } :=
  I.write (x := a) (e := a) mu (.inl rfl) (fun b q hb z => (hs.2 b hb).trans z) he new
theorem dk_new {P : Program} {w : World} {H' : Hp} {h' : Heap} {kvs : List (Key × V)} {vs : List (Key × Value)} (z : kvs.length ≤ sizeLine) (hd : (a == sysModules) = false) (rel : KV kvs vs) (dd : h'.DictOf (mixKind P w) a vs) :
    ObjOk P w H' h' a (.dK kvs) := ⟨z, hd, vs, rel, dd⟩
/-- d[y] = v -/
theorem d_setItem {H' : Hp} {Q : Unit → Shared → Prop} (hu : A.units + 1 < cLine) (I : Inv X pins σ H s) (g : DPut H a y v H') (ry : RelV y u) (rv : RelV v r) (h : ∀ s', Inv X pins σ H' s' → Q () s') :
    wpAny (model X.prog X.w) A (setItem (.ref a) u r) Q E s := by
  rcases g with ⟨kvs, k, e, ey, l, eH⟩ | ⟨kvs, k, b, e, ey, eb, l, eH⟩
  · subst ey eH
    obtain ⟨z, hd, vs, rel, dd⟩ := dk_of I.hok e
    have hz : vs.length ≤ sizeLine := by rw [← rel.length]; exact z
    have hl : (putK kvs k v).length ≤ sizeLine := by have := length_putK kvs k v; omega
    refine wpAny_setItem_pairs (hsz := hz) (kV_is ry) dd fun h' dd' hs => h _ ?_
    have he : ∃ q, h'.get? a = some q := let ⟨q, _, _, hq, _⟩ := dd'; ⟨q, hq⟩
    exact d_write I (by rw [e]; exact True.intro) hs he (dk_new hl hd (rel.put k rv) dd')
  · subst ey eH
    cases (show u = Value.ref b from ry)
    obtain ⟨z, hd, xs, rel, dd⟩ := dt_of I.hok e
    have hz : xs.length ≤ sizeLine := by rw [← Paired.length rel]; exact z
    have hl : (putK kvs k v).length ≤ sizeLine := by have := length_putK kvs k v; omega
    refine wpAny_setItem_heap (hsz := hz) (tupleKind_room_in1 hu) (key_of I.hok eb) dd fun h' dd' hs => h _ ?_
    obtain ⟨q, es, ep, hq, h2, h3, h4, _, h5⟩ := dd'
    refine d_write I (by rw [e]; exact True.intro) hs ⟨q, hq⟩ ⟨hl, hd, _, (rel.put k eb rv).keeps fun c ys ec => ?_, q, es, ep, hq, h2, h3, h4, h5⟩
    rw [upd_ne (ne_of ec e (fun z => nomatch z))]
    exact ec
end

section
variable {X : Cx} {pins : List (Addr × Obj)} {σ : St} {H : Hp} {s : Shared} {a : Addr} {kvs : List (Key × V)} {k : Key} {u : Value} {A : Around} {E : Value → Shared → Prop}
/-- del d[k] -/
theorem d_delItem {Q : Unit → Shared → Prop} (I : Inv X pins σ H s) (e : H a = some (.dK kvs)) (ry : RelV (kV k) u) (l : (valV kvs k).isSome = true) (h : ∀ s', Inv X pins σ (upd H a (.dK (dropK kvs k))) s' → Q () s') :
    wpAny (model X.prog X.w) A (delItem (.ref a) u) Q E s := by
  obtain ⟨z, hd, vs, rel, dd⟩ := dk_of I.hok e
  refine wpAny_delItem_slot dd.typeIs (by decide) PySem.F.slot_dict_delitem
    (call_meetsIn PySem.F.slot_dict_delitem dd.typeIs PySem.F.entry_dict_delitem (PySem.F.args_dict_delitem_2 _ _) (meets_dict_delitem_pairs (mixKind X.prog X.w) a (kV_is ry)) ⟨vs, dd, by rw [← rel.length]; exact z, by rw [← (rel.val k).isSome_eq]; exact l, fun h' dd' hs => h _ ?_⟩)
  have he : ∃ q, h'.get? a = some q := let ⟨q, _, _, hq, _⟩ := dd'; ⟨q, hq⟩
  exact d_write I (by rw [e]; exact True.intro) hs he (dk_new (Nat.le_trans (dropK_le kvs k) z) hd (rel.drop k) dd')
/-- d.pop(k[, x]), there -/
theorem d_pop {v : V} {more : List Value} {Q : Value → Shared → Prop} (I : Inv X pins σ H s) (e : H a = some (.dK kvs)) (ry : RelV (kV k) u) (l : valV kvs k = some v) (hm : more = [] ∨ ∃ x, more = [x])
    (h : ∀ w' s', Inv X pins σ (upd H a (.dK (dropK kvs k))) s' → RelV v w' → Q w' s') : wpAny (model X.prog X.w) A (call (.builtin "dict.pop") (.ref a :: u :: more)) Q E s := by
  obtain ⟨z, hd, vs, rel, dd⟩ := dk_of I.hok e
  obtain ⟨w', hw, rw'⟩ := RelO.some_of (v := v) (o := valueAt vs k) (by rw [← l]; exact rel.val k)
  have hp : (keyPart u).isSome = true := by
    cases k with
    | inl i => obtain ⟨t, q⟩ := (show ∃ t, u = Value.int i t from ry); subst q; rfl
    | inr x => obtain ⟨t, q⟩ := (show ∃ t, u = Value.str x t from ry); subst q; rfl
  have ha : argsOk "dict.pop" ⟨.ref a :: u :: more, []⟩ := by
    rcases hm with q | ⟨x, q⟩
    · subst q; exact PySem.F.args_dict_pop_2 _ _
    · subst q; exact PySem.F.args_dict_pop_3 _ _ _
  refine call_meetsIn PySem.F.slot_dict_pop dd.typeIs PySem.F.entry_dict_pop ha (meets_dict_pop_there (mixKind X.prog X.w) a (kV_is ry) more hm hp)
    ⟨vs, w', dd, by rw [← rel.length]; exact z, hw, fun h' dd' hs => h w' _ ?_ rw'⟩
  have he : ∃ q, h'.get? a = some q := let ⟨q, _, _, hq, _⟩ := dd'; ⟨q, hq⟩
  exact d_write I (by rw [e]; exact True.intro) hs he (dk_new (Nat.le_trans (dropK_le kvs k) z) hd (rel.drop k) dd')
/-- d.pop(k, x), not there -/
theorem d_popD {r : Value} {Q : Value → Shared → Prop} (I : Inv X pins σ H s) (e : H a = some (.dK kvs)) (ry : RelV (kV k) u) (l : valV kvs k = none) (h : ∀ s', Inv X pins σ H s' → Q r s') :
    wpAny (model X.prog X.w) A (call (.builtin "dict.pop") [.ref a, u, r]) Q E s := by
  obtain ⟨z, hd, vs, rel, dd⟩ := dk_of I.hok e
  have hn : valueAt vs k = none := RelO.none_of (by rw [← l]; exact rel.val k)
  have hp : (keyPart u).isSome = true := by
    cases k with
    | inl i => obtain ⟨t, q⟩ := (show ∃ t, u = Value.int i t from ry); subst q; rfl
    | inr x => obtain ⟨t, q⟩ := (show ∃ t, u = Value.str x t from ry); subst q; rfl
  exact call_meetsIn PySem.F.slot_dict_pop dd.typeIs PySem.F.entry_dict_pop (PySem.F.args_dict_pop_3 _ _ _) (meets_dict_pop_default (mixKind X.prog X.w) a (kV_is ry) hd hp r) ⟨vs, dd, hn, h _ (I.tok _)⟩
/-- d.clear() -/
theorem d_clear {Q : Value → Shared → Prop} (I : Inv X pins σ H s) (e : H a = some (.dK kvs)) (h : ∀ s', Inv X pins σ (upd H a (.dK [])) s' → Q .none s') : wpAny (model X.prog X.w) A (call (.builtin "dict.clear") [.ref a]) Q E s := by
  obtain ⟨z, hd, vs, rel, dd⟩ := dk_of I.hok e
  refine call_meetsIn PySem.F.slot_dict_clear dd.typeIs PySem.F.entry_dict_clear (PySem.F.args_dict_clear_1 _) (meets_dict_clear (mixKind X.prog X.w) a) ⟨vs, dd, by rw [← rel.length]; exact z, fun h' dd' hs => h _ ?_⟩
  have he : ∃ q, h'.get? a = some q := let ⟨q, _, _, hq, _⟩ := dd'; ⟨q, hq⟩
  exact d_write (t' := s.toks) I (by rw [e]; exact True.intro) hs he (dk_new (Nat.zero_le _) hd .nil dd')
/-- len(d) -/
theorem d_len {Q : Value → Shared → Prop} (I : Inv X pins σ H s) (e : Rd H a (.dK kvs)) (h : ∀ t s', Inv X pins σ H s' → Q (.int kvs.length t) s') : wpAny (model X.prog X.w) A (call (.builtin "len") [.ref a]) Q E s := by
  obtain ⟨z, hd, vs, rel, dd⟩ := dk_rd I.hok e
  refine call_len_dict hd dd (by rw [← rel.length]; rw [sizeLine_eq] at z; omega) ?_
  rw [← rel.length]
  exact h _ _ (I.tok _)
/-- if d -/
theorem d_truth {Q : Bool → Shared → Prop} (I : Inv X pins σ H s) (e : Rd H a (.dK kvs)) (h : ∀ s', Inv X pins σ H s' → Q (!kvs.isEmpty) s') : wpAny (model X.prog X.w) A (truthy (.ref a)) Q E s := by
  obtain ⟨z, hd, vs, rel, dd⟩ := dk_rd I.hok e
  refine wpAny_truthy_dict hd dd (by rw [← rel.length]; rw [sizeLine_eq] at z; omega) ?_
  have q : kvs.isEmpty = vs.isEmpty := by cases rel <;> rfl
  rw [← q]
  exact h _ (I.tok _)
end


/-! ### readings and rules -/
/-- the element of a subscription, not a slice -/
def NoSl (i : Expr) : Prop := ∀ ov iv, subscripted i false ov iv = operate [ov, iv] (getItem ov iv)
theorem subD_of {prog : Program} {w : World} {A : Around} {E : Value → Shared → Prop} {s : Shared} {env : Env} {value slice : Expr} {pos : Pos} {T id : String} {Q : Value → Shared → Prop}
    (hl : typeLookup (.type T) "__getitem__" = pure (some (.builtin id))) (hs : NoSl slice)
    (h : wpAny (model prog w) A (eval value env) (fun o s₁ => wpAny (model prog w) A (eval slice env) (fun i s₂ => s₂.TypeIs o T ∧ wpAny (model prog w) A (getItem o i) Q E s₂) E s₁) E s) :
    wpAny (model prog w) A (eval (.Subscript value slice pos) env) Q E s := by
  refine Subscript_ (wpAny_mono h (fun o s₁ h₁ => wpAny_mono h₁ (fun i s₂ h₂ => ?_) fun _ _ x => x) fun _ _ x => x)
  obtain ⟨hT, h₂⟩ := h₂
  unfold subscriptTail
  refine wpAny_bind ?_
  rw [getitemInPython_of_ne hT.not_modules]
  refine wpAny_bind (wpAny_specialOf hT hl ?_)
  have fin : wpAny (model prog w) A (subscripted slice false o i) (fun r s₃ => wpAny (model prog w) A (letTemporaryGo value o r >>= fun _ => pure r) Q E s₃) E s₂ := by
    rw [hs o i]
    exact wpAny_operating (wpAny_mono h₂ (fun r s₃ h₃ => wpAny_bind (wpAny_letTemporaryGo (wpAny_pure h₃))) fun _ _ x => x)
  first
    | exact wpAny_pure (wpAny_bind fin)
    | exact wpAny_bind (wpAny_pure (wpAny_bind fin))
    | exact wpAny_bind fin

theorem dict_typeIs {X : Cx} {pins : List (Addr × Obj)} {σ : St} {H : Hp} {s : Shared} {a : Addr} {y : V} {o : Option V} (I : Inv X pins σ H s) (g : DGet H a y o) : s.TypeIs (.ref a) "dict" := by
  rcases g with ⟨kvs, k, e, _, _⟩ | ⟨kvs, k, b, e, _, _, _⟩
  · obtain ⟨_, _, vs, _, dd⟩ := dk_rd I.hok e
    exact dd.typeIs
  · obtain ⟨_, _, xs, _, dd⟩ := dt_rd I.hok e
    exact dd.typeIs
theorem dict_noDict {X : Cx} {pins : List (Addr × Obj)} {σ : St} {H : Hp} {s : Shared} {a : Addr} {y : V} {o : Option V} (I : Inv X pins σ H s) (g : DGet H a y o) :
    ∀ b, Value.ref a = .ref b → ∃ ob, s.heap.get? b = some ob ∧ ob.dict = none := fun b q => by
  cases q
  rcases g with ⟨kvs, k, e, _, _⟩ | ⟨kvs, k, b, e, _, _, _⟩
  · obtain ⟨_, _, vs, _, ob, _, _, h1, h2, _⟩ := dk_rd I.hok e
    exact ⟨ob, h1, h2.2.1⟩
  · obtain ⟨_, _, xs, _, ob, _, _, h1, h2, _⟩ := dt_rd I.hok e
    exact ⟨ob, h1, h2.2.1⟩

/-- d[y] -/
def tDGet (td ty : TE) : TE := fun σ H Q => td σ H fun x H1 => ty σ H1 fun y H2 => ∃ a v, x = .ref a ∧ DGet H2 a y (some v) ∧ Q v H2
/-- y in d, y not in d -/
def tDIn (ty td : TE) : TE := fun σ H Q => ty σ H fun y H1 => td σ H1 fun x H2 => ∃ a o, x = .ref a ∧ DGet H2 a y o ∧ Q (.bl o.isSome) H2
def tDNotIn (ty td : TE) : TE := fun σ H Q => ty σ H fun y H1 => td σ H1 fun x H2 => ∃ a o, x = .ref a ∧ DGet H2 a y o ∧ Q (.bl (!o.isSome)) H2
/-- d[y] = v -/
def sDPut (td ty tv : TE) : TS := fun D σ H => tv σ H fun v H1 => td σ H1 fun x H2 => ty σ H2 fun y H3 => ∃ a H4, x = .ref a ∧ DPut H3 a y v H4 ∧ D.nx σ H4
/-- d[y] op= v -/
def sDAug (td ty tv : TE) (rd : V → V → Hp → VK → Prop) : TS := fun D σ H => td σ H fun x H1 => ty σ H1 fun y H2 => ∃ a v, x = .ref a ∧ DGet H2 a y (some v) ∧
  tv σ H2 fun y2 H3 => rd v y2 H3 fun z H4 => ∃ H5, DPut H4 a y z H5 ∧ D.nx σ H5
/-- del d[y] -/
def sDDel (td ty : TE) : TS := fun D σ H => td σ H fun x H1 => ty σ H1 fun y H2 => ∃ a kvs k, x = .ref a ∧ H2 a = some (.dK kvs) ∧ y = kV k ∧ (valV kvs k).isSome = true ∧ D.nx σ (upd H2 a (.dK (dropK kvs k)))

section
variable {X : Cx} {o i e value : Expr} {pos pos' tpos : Pos} {td ty tv : TE}
theorem pe_dget (hu : X.A.units + 1 < cLine) (ho : PE X o td) (hi : PE X i ty) (hs : NoSl i) : PE X (.Subscript o i pos) (tDGet td ty) := by
  intro pins s σ H Q I h
  refine subD_of PySem.F.slot_dict_getitem.lookup hs (thn (ho pins s σ H _ I h) fun u s1 ⟨x, H1, I1, rx, q1⟩ => thn (hi pins s1 σ H1 _ I1 q1) fun iv s2 ⟨y, H2, I2, ry, a, v, ex, g, q2⟩ => ?_)
  subst ex
  obtain rfl : u = Value.ref a := rx
  exact ⟨dict_typeIs I2 g, d_getItem hu I2 g ry fun w' s3 I3 rw' => ⟨v, H2, I3, rw', q2⟩⟩
theorem pc_din (hu : X.A.units + 1 < cLine) (hi : PE X i ty) (ho : PE X o td) : PC X .In i o (tDIn ty td) := by
  intro pins s σ H Q I h
  refine thn (hi pins s σ H _ I h) fun iv s1 ⟨y, H1, I1, ry, q1⟩ => thn (ho pins s1 σ H1 _ I1 q1) fun u s2 ⟨x, H2, I2, rx, a, ov, ex, g, q2⟩ => ?_
  subst ex
  obtain rfl : u = Value.ref a := rx
  exact d_in hu I2 g ry fun s3 I3 => ⟨.bl ov.isSome, H2, I3, rfl, q2⟩
theorem pc_dnotin (hu : X.A.units + 1 < cLine) (hi : PE X i ty) (ho : PE X o td) : PC X .NotIn i o (tDNotIn ty td) := by
  intro pins s σ H Q I h
  refine thn (hi pins s σ H _ I h) fun iv s1 ⟨y, H1, I1, ry, q1⟩ => thn (ho pins s1 σ H1 _ I1 q1) fun u s2 ⟨x, H2, I2, rx, a, ov, ex, g, q2⟩ => ?_
  subst ex
  obtain rfl : u = Value.ref a := rx
  exact d_notIn hu I2 g ry fun s3 I3 => ⟨.bl (!ov.isSome), H2, I3, rfl, q2⟩
theorem ps_dput (hu : X.A.units + 1 < cLine) (ho : PE X o td) (hi : PE X i ty) (hv : PE X value tv) (hs : swapsWith value (some (.Subscript o i pos')) pos.line X.env = pure false) :
    PS X (.Assign [.Subscript o i pos'] value pos) (sDPut td ty tv) := by
  intro pins s σ H D I h
  refine wpAny_Assign_Subscript (thn (hv pins s σ H _ I h) fun r s1 ⟨v, H1, I1, rv, q1⟩ => thn (ho pins s1 σ H1 _ I1 q1) fun u s2 ⟨x, H2, I2, rx, q2⟩ => thn (hi pins s2 σ H2 _ I2 q2) fun iv s3 ⟨y, H3, I3, ry, a, H4, ex, g, q3⟩ => ?_) hs
  subst ex
  obtain rfl : u = Value.ref a := rx
  exact d_setItem hu I3 g ry rv fun s4 I4 => ⟨σ, H4, I4, q3⟩
theorem ps_daug {op : Operator} {rd : V → V → Hp → VK → Prop} (hu : X.A.units + 1 < cLine) (ho : PE X o td) (hi : PE X i ty) (hv : PE X value tv) (hop : InOp X op rd)
    (ha : ∀ ov iv new, augStore i ov iv new = (do holding [new, ov, iv] (setItem ov iv new); release [new, ov, iv] []; pure .next)) : PS X (.AugAssign (.Subscript o i tpos) op value pos) (sDAug td ty tv rd) := by
  intro pins s σ H D I h
  refine wpAny_AugAssign_SubscriptAny (thn (ho pins s σ H _ I h) fun u s1 ⟨x, H1, I1, rx, q1⟩ => thn (hi pins s1 σ H1 _ I1 q1) fun iv s2 ⟨y, H2, I2, ry, a, v, ex, g, q2⟩ => ?_) ha
  subst ex
  obtain rfl : u = Value.ref a := rx
  refine d_getItem hu I2 g ry fun w' s3 I3 rw' => thn (hv pins s3 σ H2 _ I3 q2) fun w2 s4 ⟨y2, H3, I4, ry2, q3⟩ => thn (hop pins s4 σ H3 v y2 w' w2 _ I4 rw' ry2 q3) fun w3 s5 ⟨z, H4, I5, rz, H5, g5, q4⟩ => ?_
  exact d_setItem hu I5 g5 ry rz fun s6 I6 => ⟨σ, H5, I6, q4⟩
theorem ps_ddel (ho : PE X o td) (hi : PE X i ty) : PS X (.Delete [.Subscript o i tpos] pos) (sDDel td ty) := by
  intro pins s σ H D I h
  refine wpAny_Delete (wpAny_deleteEach_cons (wpAny_delete_Subscript (thn (ho pins s σ H _ I h) fun u s1 ⟨x, H1, I1, rx, q1⟩ => thn (hi pins s1 σ H1 _ I1 q1) fun iv s2 ⟨y, H2, I2, ry, a, kvs, k, ex, e, ey, l, q2⟩ => ?_)))
  subst ex ey
  obtain rfl : u = Value.ref a := rx
  exact d_delItem I2 e ry l fun s3 I3 => wpAny_deleteEach_nil ⟨σ, _, I3, q2⟩
end


/-! ### displays -/
theorem dk_empty {P : Program} {w : World} {H : Hp} (h : Heap) (hb : sysModules < h.objs.size) : ObjOk P w H (h.push { cls := .type "dict", data := .dict #[] }) h.objs.size (.dK []) :=
  ⟨Nat.zero_le _, beq_eq_false_iff_ne.mpr (Ne.symm (Nat.ne_of_lt hb)), [], .nil, Heap.DictOf.new h⟩
theorem dt_empty {P : Program} {w : World} {H : Hp} (h : Heap) (hb : sysModules < h.objs.size) : ObjOk P w H (h.push { cls := .type "dict", data := .dict #[] }) h.objs.size (.dT []) :=
  ⟨Nat.zero_le _, beq_eq_false_iff_ne.mpr (Ne.symm (Nat.ne_of_lt hb)), [], .nil, _, #[], 0, Heap.get?_push_size _ rfl, ⟨rfl, rfl, rfl⟩, rfl, rfl, List.nodup_nil⟩
/-- {}, to be a dict of the kind that is wanted -/
def tDNewK : TE := fun _ H Q => ∀ p, H p = none → Q (.ref p) (upd H p (.dK []))
def tDNewT : TE := fun _ H Q => ∀ p, H p = none → Q (.ref p) (upd H p (.dT []))
section
variable {X : Cx} {pos : Pos}
theorem pe_dnewK : PE X (.Dict [] [] pos) tDNewK := fun pins s σ H Q I h =>
  wpAny_Dict_empty ⟨.ref s.heap.objs.size, _, I.laid (a := s.heap.objs.size) (o := .dK []) (t' := s.toks) (fun _ _ q => Heap.get?_push_of_some _ q) (Nat.le_refl _) (dk_empty s.heap I.big), rfl, h _ (I.hok.fresh (Nat.le_refl _))⟩
theorem pe_dnewT : PE X (.Dict [] [] pos) tDNewT := fun pins s σ H Q I h =>
  wpAny_Dict_empty ⟨.ref s.heap.objs.size, _, I.laid (a := s.heap.objs.size) (o := .dT []) (t' := s.toks) (fun _ _ q => Heap.get?_push_of_some _ q) (Nat.le_refl _) (dt_empty s.heap I.big), rfl, h _ (I.hok.fresh (Nat.le_refl _))⟩
end

/-- the pairs of a display, from the left -/
def tPairs : List (TE × TE) → St → Hp → (List (V × V) → Hp → Prop) → Prop
  | [], _, H, Q => Q [] H
  | (tk, tv) :: r, σ, H, Q => tk σ H fun x H1 => tv σ H1 fun y H2 => tPairs r σ H2 fun ps H3 => Q ((x, y) :: ps) H3
abbrev VV : List (V × V) → List (Value × Value) → Prop := Paired fun p q => RelV p.1 q.1 ∧ RelV p.2 q.2
def PPs (X : Cx) (pos : Pos) (keys : List (Option Expr)) (values : List Expr) (trs : List (TE × TE)) : Prop :=
  ∀ (pins : List (Addr × Obj)) (s : Shared) (σ : St) (H : Hp) (Q : List (V × V) → Hp → Prop), Inv X pins σ H s → tPairs trs σ H Q →
    wpAny (model X.prog X.w) X.A (evalPairs (pairTrees keys values X.env pos)) (fun vs s' => ∃ ps H', Inv X pins σ H' s' ∧ VV ps vs ∧ Q ps H') X.xe s
theorem pps_nil {X : Cx} {pos : Pos} : PPs X pos [] [] [] := fun pins s σ H Q I h => pairTrees_nil_walk ⟨[], H, I, .nil, h⟩
theorem pps_cons {X : Cx} {pos : Pos} {k v : Expr} {ks : List (Option Expr)} {vs : List Expr} {tk tv : TE} {trs : List (TE × TE)} (hk : PE X k tk) (hv : PE X v tv) (hr : PPs X pos ks vs trs) :
    PPs X pos (some k :: ks) (v :: vs) ((tk, tv) :: trs) := fun pins s σ H Q I h =>
  pairTrees_cons_walk (thn (hk pins s σ H _ I h) fun u s1 ⟨x, H1, I1, rx, q1⟩ => thn (hv pins s1 σ H1 _ I1 q1) fun w2 s2 ⟨y, H2, I2, ry, q2⟩ =>
    thn (hr pins s2 σ H2 _ I2 q2) fun ws s3 ⟨ps, H3, I3, rel, q3⟩ => ⟨(x, y) :: ps, H3, I3, .cons ⟨rx, ry⟩ rel, q3⟩)

def mergeK (kvs more : List (Key × V)) : List (Key × V) := more.foldl (fun acc kv => putK acc kv.1 kv.2) kvs
theorem KV.merge : ∀ {more : List (Key × V)} {rs : List (Key × Value)} {kvs : List (Key × V)} {vs : List (Key × Value)}, KV more rs → KV kvs vs → KV (mergeK kvs more) (merged vs rs) := by
  intro more rs kvs vs r
  unfold KV at r
  induction r generalizing kvs vs with
  | nil => intro q; exact q
  | @cons p q ps qs h t ih =>
    intro r0
    have e : KV (putK kvs p.1 p.2) (stored vs q.1 q.2) := by
      have := r0.put p.1 h.2
      rw [← h.1]; exact this
    exact ih e
theorem length_mergeK : ∀ (more kvs : List (Key × V)), (mergeK kvs more).length ≤ kvs.length + more.length
  | [], kvs => by show kvs.length ≤ kvs.length + 0; omega
  | p :: r, kvs => by
    have h1 := length_mergeK r (putK kvs p.1 p.2)
    have h2 := length_putK kvs p.1 p.2
    show (mergeK (putK kvs p.1 p.2) r).length ≤ _
    rw [List.length_cons]; omega
theorem carries_of {P : Program} {w : World} : ∀ {kvs : List (Key × V)} {ws : List (Value × Value)}, VV (kvs.map fun kv => (kV kv.1, kv.2)) ws → ∃ rs, Carries (mixKind P w) ws rs ∧ KV kvs rs
  | [], _, r => by rw [List.map_nil] at r; cases r; exact ⟨[], True.intro, .nil⟩
  | p :: kvs, _, r => by
    rw [List.map_cons] at r
    cases r with
    | @cons a b as bs h t =>
      obtain ⟨rs, c, q⟩ := carries_of (P := P) (w := w) t
      obtain ⟨b1, b2⟩ := b
      exact ⟨(p.1, b2) :: rs, ⟨kV_is h.1, rfl, c⟩, .cons ⟨rfl, h.2⟩ q⟩
/-- {k: v, ..} with keys ints and texts; the new dict stands empty while the pairs are made -/
def tDisp (trs : List (TE × TE)) : TE := fun σ H Q => ∀ p, H p = none → tPairs trs σ (upd H p (.dK [])) fun ps H2 => H2 p = some (.dK []) ∧ ∃ kvs : List (Key × V), ps = kvs.map (fun kv => (kV kv.1, kv.2)) ∧ kvs.length ≤ 15 ∧ Q (.ref p) (upd H2 p (.dK (mergeK [] kvs)))
theorem pe_disp {X : Cx} {pos : Pos} {keys : List (Option Expr)} {values : List Expr} {trs : List (TE × TE)} (h : PPs X pos keys values trs) (hall : keys.all (·.isSome) = true) (hl : keys.length = values.length) (h0 : keys ≠ [])
    (h15 : keys.length ≤ 15) : PE X (.Dict keys values pos) (tDisp trs) := by
  intro pins s σ H Q I q
  have hn := I.hok.fresh (Nat.le_refl s.heap.objs.size)
  have I1 := I.laid (a := s.heap.objs.size) (o := .dK []) (h' := s.heap.push { cls := .type "dict", data := .dict #[] }) (t' := s.toks) (fun _ _ q => Heap.get?_push_of_some _ q) (Nat.le_refl _) (dk_empty s.heap I.big)
  refine wpAny_Dict_walk (knd := mixKind X.prog X.w) hall hl h0 h15 (thn (h pins _ σ _ _ I1 (q _ hn)) fun ws s2 ⟨ps, H2, I2, rel, e, kvs, ep, lk, q2⟩ => ?_)
  subst ep
  obtain ⟨rs, c, rk⟩ := carries_of (P := X.prog) (w := X.w) rel
  obtain ⟨z, hd, vs0, r0, dd⟩ := dk_of I2.hok e
  cases r0
  refine ⟨rs, c, dd, fun h' dd' hs => ⟨.ref s.heap.objs.size, _, ?_, rfl, q2⟩⟩
  have hz : (mergeK [] kvs).length ≤ sizeLine := by
    have h1 := length_mergeK kvs []
    rw [List.length_nil] at h1
    rw [sizeLine_eq]; omega
  have he : ∃ q, h'.get? s.heap.objs.size = some q := let ⟨q, _, _, hq, _⟩ := dd'; ⟨q, hq⟩
  exact d_write I2 (by rw [e]; exact True.intro) hs he (dk_new hz hd (rk.merge .nil) dd')


/-! ### methods -/
/-- a method call o.m(e) of a built-in, with one argument: what must be seen of the text -/
structure M1 (X : Cx) (o : Expr) (m : Str) (apos : Pos) (e : Expr) (cpos : Pos) : Prop where
  base : attributeBase o m X.env (eval o X.env) = eval o X.env
  few : ((backTo cpos (starEach [e] X.env)).all (fun x => !x.1) && (backToKw cpos (keywordEach [] X.env)).all (fun x => x.1.isSome)
    && decide (([e] : List Expr).length + ([] : List Keyword).length + (if ([] : List Keyword).isEmpty then 0 else 1) < 30)) = true
  line : (apos.endLine == cpos.line) = true
  trees : backTo cpos (starEach [e] X.env) = [(false, eval e X.env)]
structure M2 (X : Cx) (o : Expr) (m : Str) (apos : Pos) (e f : Expr) (cpos : Pos) : Prop where
  base : attributeBase o m X.env (eval o X.env) = eval o X.env
  few : ((backTo cpos (starEach [e, f] X.env)).all (fun x => !x.1) && (backToKw cpos (keywordEach [] X.env)).all (fun x => x.1.isSome)
    && decide (([e, f] : List Expr).length + ([] : List Keyword).length + (if ([] : List Keyword).isEmpty then 0 else 1) < 30)) = true
  line : (apos.endLine == cpos.line) = true
  trees : backTo cpos (starEach [e, f] X.env) = [(false, eval e X.env), (false, eval f X.env)]

/-- a is a dict, whatever its keys -/
def IsD (H : Hp) (a : Addr) : Prop := (∃ kvs, Rd H a (.dK kvs)) ∨ ∃ kvs, Rd H a (.dT kvs)
theorem isD_at {X : Cx} {pins : List (Addr × Obj)} {σ : St} {H : Hp} {s : Shared} {a : Addr} (I : Inv X pins σ H s) (d : IsD H a) :
    s.TypeIs (.ref a) "dict" ∧ (∀ b, Value.ref a = .ref b → ∃ ob, s.heap.get? b = some ob ∧ ob.dict = none) ∧ (a == sysModules) = false := by
  rcases d with ⟨kvs, e⟩ | ⟨kvs, e⟩
  · obtain ⟨_, hd, vs, _, dd⟩ := dk_rd I.hok e
    refine ⟨dd.typeIs, fun b q => ?_, hd⟩
    cases q
    obtain ⟨ob, _, _, h1, h2, _⟩ := dd
    exact ⟨ob, h1, h2.2.1⟩
  · obtain ⟨_, hd, xs, _, dd⟩ := dt_rd I.hok e
    refine ⟨dd.typeIs, fun b q => ?_, hd⟩
    cases q
    obtain ⟨ob, _, _, h1, h2, _⟩ := dd
    exact ⟨ob, h1, h2.2.1⟩

section
variable {X : Cx} {pins : List (Addr × Obj)} {σ : St} {H : Hp} {s : Shared} {a : Addr} {y d : V} {u r : Value} {o : Option V} {A : Around} {E : Value → Shared → Prop}
/-- d.get(y) -/
theorem d_get1 {Q : Value → Shared → Prop} (hu : A.units + 1 < cLine) (I : Inv X pins σ H s) (g : DGet H a y o) (ry : RelV y u) (h : ∀ w' s', Inv X pins σ H s' → RelV (o.getD .non) w' → Q w' s') :
    wpAny (model X.prog X.w) A (call (.builtin "dict.get") [.ref a, u]) Q E s := by
  rcases g with ⟨kvs, k, e, ey, l⟩ | ⟨kvs, k, b, e, ey, eb, l⟩
  · subst ey
    obtain ⟨z, hd, vs, rel, dd⟩ := dk_rd I.hok e
    refine call_meetsIn PySem.F.slot_dict_get dd.typeIs PySem.F.entry_dict_get (PySem.F.args_dict_get_2 _ _) (meets_dict_get (mixKind X.prog X.w) a (kV_is ry) hd) ⟨_, dd.mapOf, h _ _ (I.tok _) ?_⟩
    rw [l]
    exact (rel.val k).getD rfl
  · subst ey
    cases (show u = Value.ref b from ry)
    obtain ⟨z, hd, xs, rel, dd⟩ := dt_rd I.hok e
    refine call_meetsIn PySem.F.slot_dict_get dd.typeIs PySem.F.entry_dict_get (PySem.F.args_dict_get_2 _ _) (meetsH_dict_get (tupleKind (mixKind X.prog X.w)) a b hd) ⟨tupleKind_room_in1 hu, k, xs, key_of I.hok eb, dd, h _ _ (I.tok _) ?_⟩
    rw [l]
    exact (rel.val k).getD rfl
/-- d.get(y, x) -/
theorem d_get2 {Q : Value → Shared → Prop} (hu : A.units + 1 < cLine) (I : Inv X pins σ H s) (g : DGet H a y o) (ry : RelV y u) (rd : RelV d r) (h : ∀ w' s', Inv X pins σ H s' → RelV (o.getD d) w' → Q w' s') :
    wpAny (model X.prog X.w) A (call (.builtin "dict.get") [.ref a, u, r]) Q E s := by
  rcases g with ⟨kvs, k, e, ey, l⟩ | ⟨kvs, k, b, e, ey, eb, l⟩
  · subst ey
    obtain ⟨z, hd, vs, rel, dd⟩ := dk_rd I.hok e
    refine call_meetsIn PySem.F.slot_dict_get dd.typeIs PySem.F.entry_dict_get (PySem.F.args_dict_get_3 _ _ _) (meets_dict_get_default (mixKind X.prog X.w) a (kV_is ry) hd r) ⟨_, dd.mapOf, h _ _ (I.tok _) ?_⟩
    rw [l]
    exact (rel.val k).getD rd
  · subst ey
    cases (show u = Value.ref b from ry)
    obtain ⟨z, hd, xs, rel, dd⟩ := dt_rd I.hok e
    refine call_meetsIn PySem.F.slot_dict_get dd.typeIs PySem.F.entry_dict_get (PySem.F.args_dict_get_3 _ _ _) (meetsH_dict_get_default (tupleKind (mixKind X.prog X.w)) a b hd r) ⟨tupleKind_room_in1 hu, k, xs, key_of I.hok eb, dd, h _ _ (I.tok _) ?_⟩
    rw [l]
    exact (rel.val k).getD rd
end

def tDGet1 (td ty : TE) : TE := fun σ H Q => td σ H fun x H1 => ∃ a, x = .ref a ∧ IsD H1 a ∧ ty σ H1 fun y H2 => ∃ o, DGet H2 a y o ∧ Q (o.getD .non) H2
def tDGet2 (td ty tx : TE) : TE := fun σ H Q => td σ H fun x H1 => ∃ a, x = .ref a ∧ IsD H1 a ∧ ty σ H1 fun y H2 => tx σ H2 fun z H3 => ∃ o, DGet H3 a y o ∧ Q (o.getD z) H3
/-- d.pop(k): there; d.pop(k, x): there or not -/
def tDPop1 (td ty : TE) : TE := fun σ H Q => td σ H fun x H1 => ∃ a, x = .ref a ∧ IsD H1 a ∧ ty σ H1 fun y H2 => ∃ kvs k v, H2 a = some (.dK kvs) ∧ y = kV k ∧ valV kvs k = some v ∧ Q v (upd H2 a (.dK (dropK kvs k)))
def tDPop2 (td ty tx : TE) : TE := fun σ H Q => td σ H fun x H1 => ∃ a, x = .ref a ∧ IsD H1 a ∧ ty σ H1 fun y H2 => tx σ H2 fun z H3 => ∃ kvs k, H3 a = some (.dK kvs) ∧ y = kV k ∧
  (∀ v, valV kvs k = some v → Q v (upd H3 a (.dK (dropK kvs k)))) ∧ (valV kvs k = none → Q z H3)
section
variable {X : Cx} {o e f : Expr} {apos cpos : Pos} {td ty tx : TE}
theorem pe_dget1 (hu : X.A.units + 1 < cLine) (ho : PE X o td) (he : PE X e ty) (m : M1 X o "get" apos e cpos) : PE X (.Call (.Attribute o "get" apos) [e] [] cpos) (tDGet1 td ty) := by
  intro pins s σ H Q I h
  refine wpAny_Call_method m.base m.few m.line PySem.F.plainAttrs_dict PySem.F.slot_dict_get PySem.F.type_dict_get (thn (ho pins s σ H _ I h) fun u s1 ⟨x, H1, I1, rx, a, ex, d, q1⟩ => ?_)
  subst ex
  obtain rfl : u = Value.ref a := rx
  obtain ⟨t1, t2, _⟩ := isD_at I1 d
  refine ⟨t1, t2, ?_⟩
  rw [m.trees]
  refine Calls.callWith_builtin rfl (Calls.evalArgs_plain (Calls.spliced_cons (thn (he pins s1 σ H1 _ I1 q1) fun iv s2 ⟨y, H2, I2, ry, ov, g, q2⟩ => Calls.spliced_nil ?_)))
  exact d_get1 hu I2 g ry fun w' s3 I3 rw' => ⟨_, H2, I3, rw', q2⟩
theorem pe_dget2 (hu : X.A.units + 1 < cLine) (ho : PE X o td) (he : PE X e ty) (hf : PE X f tx) (m : M2 X o "get" apos e f cpos) : PE X (.Call (.Attribute o "get" apos) [e, f] [] cpos) (tDGet2 td ty tx) := by
  intro pins s σ H Q I h
  refine wpAny_Call_method m.base m.few m.line PySem.F.plainAttrs_dict PySem.F.slot_dict_get PySem.F.type_dict_get (thn (ho pins s σ H _ I h) fun u s1 ⟨x, H1, I1, rx, a, ex, d, q1⟩ => ?_)
  subst ex
  obtain rfl : u = Value.ref a := rx
  obtain ⟨t1, t2, _⟩ := isD_at I1 d
  refine ⟨t1, t2, ?_⟩
  rw [m.trees]
  refine Calls.callWith_builtin rfl (Calls.evalArgs_plain (Calls.spliced_cons (thn (he pins s1 σ H1 _ I1 q1) fun iv s2 ⟨y, H2, I2, ry, q2⟩ =>
    Calls.spliced_cons (thn (hf pins s2 σ H2 _ I2 q2) fun fv s3 ⟨z, H3, I3, rz, ov, g, q3⟩ => Calls.spliced_nil ?_))))
  exact d_get2 hu I3 g ry rz fun w' s4 I4 rw' => ⟨_, H3, I4, rw', q3⟩
theorem pe_dpop1 (ho : PE X o td) (he : PE X e ty) (m : M1 X o "pop" apos e cpos) : PE X (.Call (.Attribute o "pop" apos) [e] [] cpos) (tDPop1 td ty) := by
  intro pins s σ H Q I h
  refine wpAny_Call_method m.base m.few m.line PySem.F.plainAttrs_dict PySem.F.slot_dict_pop PySem.F.type_dict_pop (thn (ho pins s σ H _ I h) fun u s1 ⟨x, H1, I1, rx, a, ex, d, q1⟩ => ?_)
  subst ex
  obtain rfl : u = Value.ref a := rx
  obtain ⟨t1, t2, _⟩ := isD_at I1 d
  refine ⟨t1, t2, ?_⟩
  rw [m.trees]
  refine Calls.callWith_builtin rfl (Calls.evalArgs_plain (Calls.spliced_cons (thn (he pins s1 σ H1 _ I1 q1) fun iv s2 ⟨y, H2, I2, ry, kvs, k, v, ea, ey, l, q2⟩ => Calls.spliced_nil ?_)))
  subst ey
  exact d_pop I2 ea ry l (.inl rfl) fun w' s3 I3 rw' => ⟨v, _, I3, rw', q2⟩
theorem pe_dpop2 (ho : PE X o td) (he : PE X e ty) (hf : PE X f tx) (m : M2 X o "pop" apos e f cpos) : PE X (.Call (.Attribute o "pop" apos) [e, f] [] cpos) (tDPop2 td ty tx) := by
  intro pins s σ H Q I h
  refine wpAny_Call_method m.base m.few m.line PySem.F.plainAttrs_dict PySem.F.slot_dict_pop PySem.F.type_dict_pop (thn (ho pins s σ H _ I h) fun u s1 ⟨x, H1, I1, rx, a, ex, d, q1⟩ => ?_)
  subst ex
  obtain rfl : u = Value.ref a := rx
  obtain ⟨t1, t2, _⟩ := isD_at I1 d
  refine ⟨t1, t2, ?_⟩
  rw [m.trees]
  refine Calls.callWith_builtin rfl (Calls.evalArgs_plain (Calls.spliced_cons (thn (he pins s1 σ H1 _ I1 q1) fun iv s2 ⟨y, H2, I2, ry, q2⟩ =>
    Calls.spliced_cons (thn (hf pins s2 σ H2 _ I2 q2) fun fv s3 ⟨z, H3, I3, rz, kvs, k, ea, ey, q3, q4⟩ => Calls.spliced_nil ?_))))
  subst ey
  cases l : valV kvs k with
  | some v => exact d_pop I3 ea ry l (.inr ⟨fv, rfl⟩) fun w' s4 I4 rw' => ⟨v, _, I4, rw', q3 v l⟩
  | none => exact d_popD I3 ea ry l fun s4 I4 => ⟨z, H3, I4, rz, q4 l⟩
end

/-! ### dict(d): a copy -/
section
variable {X : Cx} {pins : List (Addr × Obj)} {σ : St} {H : Hp} {s : Shared} {a : Addr} {kvs : List (Key × V)} {A : Around} {E : Value → Shared → Prop}
theorem d_copyOf {Q : Value → Shared → Prop} (I : Inv X pins σ H s) (e : Rd H a (.dK kvs)) (h : ∀ p s', H p = none → Inv X pins σ (upd H p (.dK kvs)) s' → Q (.ref p) s') : wpAny (model X.prog X.w) A (call (.type "dict") [.ref a]) Q E s := by
  obtain ⟨z, hd, vs, rel, dd⟩ := dk_rd I.hok e
  refine kt_call_dict hd dd (by rw [← rel.length]; exact z) fun h' dd' hs => ?_
  refine h _ _ (I.hok.fresh (Nat.le_refl _)) (I.laid (a := s.heap.objs.size) (o := .dK kvs) (t' := s.toks) (fun b q hq => ?_) (Nat.le_refl _) (dk_new z (beq_eq_false_iff_ne.mpr (Ne.symm (Nat.ne_of_lt I.big))) rel dd'))
  exact (hs.2 b (Nat.ne_of_lt (Heap.lt_size hq))).trans (Heap.get?_push_of_some _ hq)
end


section
variable {X : Cx} {pins : List (Addr × Obj)} {σ : St} {H : Hp} {s : Shared} {a : Addr} {y : V} {u : Value} {A : Around} {E : Value → Shared → Prop}
/-- d[y], not there: a KeyError -/
theorem d_missing {Q : Value → Shared → Prop} (hu : A.units + 1 < cLine) (hh : A.handled = none) (I : Inv X pins σ H s) (g : DGet H a y none) (ry : RelV y u)
    (h : ∀ h' e t', Heap.NewExc s.heap h' e "KeyError" → E (.ref e) { s with heap := h', toks := t' }) : wpAny (model X.prog X.w) A (getItem (.ref a) u) Q E s := by
  rcases g with ⟨kvs, k, e, ey, l⟩ | ⟨kvs, k, b, e, ey, eb, l⟩
  · subst ey
    obtain ⟨z, hd, vs, rel, dd⟩ := dk_rd I.hok e
    have hn : valueAt vs k = none := RelO.none_of (by rw [l]; exact rel.val k)
    exact wpAny_getItem_missing_of (kV_is ry) hd hh dd.mapOf hn fun h' ex ne => h h' ex _ ne
  · subst ey
    cases (show u = Value.ref b from ry)
    obtain ⟨z, hd, xs, rel, dd⟩ := dt_rd I.hok e
    have hn : (atKey xs k).map (·.2) = none := RelO.none_of (by rw [l]; exact rel.val k)
    exact wpAny_getItem_missing_heap (tupleKind_room_in1 hu) (key_of I.hok eb) hd hh dd (Option.map_eq_none_iff.mp hn) fun h' ex ne => h h' ex _ ne
end
end L2
/-! ### own rules over the layer, 8: what is sorted is in order (keys that are all unlike) -/
namespace L2
open PySem PySem.Spec PySem.W PyProof.Rows
/-- the tree's answer where every question is answered by lt -/
def runT {α : Type} (lt : Nat → Nat → Bool) : KasT α → α
  | .ret a => a
  | .ask i j k => runT lt (k (lt i j))
theorem runT_bind {α β : Type} {lt : Nat → Nat → Bool} {f : α → KasT β} : ∀ (t : KasT α), runT lt (t.bind f) = runT lt (f (runT lt t))
  | .ret _ => rfl
  | .ask i j k => runT_bind (k (lt i j))
theorem Tr.wpR {α : Type} {N : Nat} {P : α → Prop} {cmp : Nat → Nat → (Bool → Shared → Prop) → Shared → Prop} {s : Shared} {Q : α → Shared → Prop} (lt : Nat → Nat → Bool)
    (hc : ∀ i j (C : Bool → Shared → Prop), i < N → j < N → C (lt i j) s → cmp i j C s) : ∀ {t : KasT α}, Tr N P t → (P (runT lt t) → Q (runT lt t) s) → t.kasWp cmp Q s
  | .ret _, h, q => q h
  | .ask i j _, h, q => hc i j _ h.1 h.2.1 (Tr.wpR lt hc (h.2.2 _) q)
theorem Tr.endR {α : Type} {N : Nat} {P : α → Prop} {lt : Nat → Nat → Bool} : ∀ {t : KasT α}, Tr N P t → P (runT lt t)
  | .ret _, h => h
  | .ask i j k, h => Tr.endR (t := k (lt i j)) (h.2.2 (lt i j))
/-- an order of the places below N, no two alike -/
structure Lo (N : Nat) (lt : Nat → Nat → Bool) : Prop where
  tri : ∀ i j, i < N → j < N → i ≠ j → lt i j = false → lt j i = true
  tr : ∀ i j k, i < N → j < N → k < N → lt i j = true → lt j k = true → lt i k = true
  asym : ∀ i j, i < N → j < N → lt i j = true → lt j i = false
abbrev gp (p : Array Nat) (i : Nat) : Nat := p.getD i 0
def As (lt : Nat → Nat → Bool) (p : Array Nat) (k : Nat) : Prop := ∀ i j, i < j → j < k → lt (gp p i) (gp p j) = true
theorem gp_of {p q : Array Nat} {i j : Nat} (h : p[i]? = q[j]?) : gp p i = gp q j := by
  show p.getD i 0 = q.getD j 0
  rw [Array.getD_eq_getD_getElem?, Array.getD_eq_getD_getElem?, h]
section
variable {N : Nat} {lt : Nat → Nat → Bool} (L : Lo N lt)
theorem Pl.size {p : Array Nat} (h : Pl N p) : p.size = N := by simpa using h.size_eq
theorem Pl.ne {p : Array Nat} (h : Pl N p) {i j : Nat} (hi : i < N) (hj : j < N) (ne : i ≠ j) : gp p i ≠ gp p j := by
  have nd : p.toList.Nodup := by
    have := Array.perm_iff_toList_perm.mp h
    exact this.nodup_iff.mpr (by simpa using List.nodup_range)
  have hs := Pl.size h
  have e1 : gp p i = p.toList[i]'(by simp; omega) := by
    show p.getD i 0 = _
    simp [Array.getD, show i < p.size by omega]
  have e2 : gp p j = p.toList[j]'(by simp; omega) := by
    show p.getD j 0 = _
    simp [Array.getD, show j < p.size by omega]
  rw [e1, e2]
  intro z
  exact ne ((List.getElem_inj nd).mp z)
theorem gp_bub {p : Array Nat} {k l : Nat} (hk : k < p.size) (hl : l ≤ k) (i : Nat) : gp (bubble p k (k - l)) i = if i = l then gp p k else if l < i ∧ i ≤ k then gp p (i - 1) else gp p i := by
  have e := getElem?_bubble hk (k - l) (by omega) i
  have el : k - (k - l) = l := by omega
  rw [el] at e
  by_cases h1 : i = l
  · rw [if_pos h1] at e ⊢
    exact gp_of e
  · rw [if_neg h1] at e ⊢
    by_cases h2 : l < i ∧ i ≤ k
    · rw [if_pos h2] at e ⊢
      exact gp_of e
    · rw [if_neg h2] at e ⊢
      exact gp_of e
theorem gp_rev {p : Array Nat} {m : Nat} (hm : m ≤ p.size) (i : Nat) : gp (kas_rev p 0 m) i = if i < m then gp p (m - 1 - i) else gp p i := by
  have e := getElem?_mirror_all (xs := p) (i := 0) hm i
  by_cases h : i < m
  · rw [if_pos ⟨Nat.zero_le _, h⟩] at e
    rw [if_pos h]
    refine gp_of (e.trans ?_)
    congr 1
    omega
  · rw [if_neg (by omega)] at e
    rw [if_neg h]
    exact gp_of e
include L
/-- neighbours in order: all in order -/
theorem as_of_adj (hN : 0 < N) {p : Array Nat} (h : Pl N p) {m : Nat} (a : ∀ k, 0 < k → k < m → lt (gp p (k - 1)) (gp p k) = true) : As lt p m := by
  intro i j
  induction j with
  | zero => intro z _; omega
  | succ j ih =>
    intro hij hj
    have h1 := a (j + 1) (by omega) hj
    rw [Nat.add_sub_cancel] at h1
    by_cases e : i = j
    · rw [e]; exact h1
    · exact L.tr _ _ _ (h.below hN _) (h.below hN _) (h.below hN _) (ih (by omega) (by omega)) h1
theorem run_asc (hN : 0 < N) {p : Array Nat} (h : Pl N p) : ∀ f n, 0 < n → n + f ≤ N → (∀ k, 0 < k → k < n → lt (gp p (k - 1)) (gp p k) = true) →
    n ≤ runT lt (kas_asc p f n) ∧ runT lt (kas_asc p f n) ≤ n + f ∧ (∀ k, 0 < k → k < runT lt (kas_asc p f n) → lt (gp p (k - 1)) (gp p k) = true) ∧ (runT lt (kas_asc p f n) < n + f → lt (gp p (runT lt (kas_asc p f n))) (gp p (runT lt (kas_asc p f n) - 1)) = true)
  | 0, n, _, _, a => ⟨Nat.le_refl _, Nat.le_refl _, a, fun z => absurd z (Nat.lt_irrefl _)⟩
  | f + 1, n, h0, hn, a => by
    have e : runT lt (kas_asc p (f + 1) n) = runT lt (if lt (gp p n) (gp p (n - 1)) = true then KasT.ret n else kas_asc p f (n + 1)) := rfl
    rw [e]
    by_cases c : lt (gp p n) (gp p (n - 1)) = true
    · rw [if_pos c]
      exact ⟨Nat.le_refl _, Nat.le_add_right _ _, a, fun _ => c⟩
    · rw [if_neg c]
      have c' : lt (gp p n) (gp p (n - 1)) = false := by simpa using c
      have t := L.tri _ _ (h.below hN n) (h.below hN (n - 1)) (Pl.ne h (by omega) (by omega) (by omega)) c'
      have r := run_asc hN h f (n + 1) (by omega) (by omega) fun k k0 kn => by
        by_cases z : k = n
        · rw [z]; exact t
        · exact a k k0 (by omega)
      refine ⟨by omega, by omega, r.2.2.1, fun z => r.2.2.2 (by omega)⟩
theorem run_desc (hN : 0 < N) {p : Array Nat} (h : Pl N p) : ∀ f n, 0 < n → n + f ≤ N → (∀ k, 0 < k → k < n → lt (gp p k) (gp p (k - 1)) = true) →
    ∃ m, runT lt (kas_desc f p n 0) = (p, m, 0) ∧ n ≤ m ∧ m ≤ n + f ∧ ∀ k, 0 < k → k < m → lt (gp p k) (gp p (k - 1)) = true
  | 0, n, _, _, a => ⟨n, rfl, Nat.le_refl _, Nat.le_refl _, a⟩
  | f + 1, n, h0, hn, a => by
    have e : runT lt (kas_desc (f + 1) p n 0) = runT lt (if lt (gp p n) (gp p (n - 1)) = true then (if 0 > 0 then kas_desc f (kas_rev p (n - (0 + 1)) n) (n + 1) 0 else kas_desc f p (n + 1) 0)
        else .ask (gp p (n - 1)) (gp p n) fun d => if d = true then .ret (p, n, 0) else kas_desc f p (n + 1) (0 + 1)) := rfl
    rw [e]
    by_cases c : lt (gp p n) (gp p (n - 1)) = true
    · rw [if_pos c, if_neg (by omega)]
      obtain ⟨m, e1, e2, e3, e4⟩ := run_desc hN h f (n + 1) (by omega) (by omega) fun k k0 kn => by
        by_cases z : k = n
        · rw [z]; exact c
        · exact a k k0 (by omega)
      exact ⟨m, e1, by omega, by omega, e4⟩
    · rw [if_neg c]
      have c' : lt (gp p n) (gp p (n - 1)) = false := by simpa using c
      have t := L.tri _ _ (h.below hN n) (h.below hN (n - 1)) (Pl.ne h (by omega) (by omega) (by omega)) c'
      refine ⟨n, ?_, Nat.le_refl _, by omega, a⟩
      show runT lt (if lt (gp p (n - 1)) (gp p n) = true then KasT.ret (p, n, 0) else kas_desc f p (n + 1) (0 + 1)) = _
      rw [if_pos t]
      rfl
theorem run_part (hN : 0 < N) {p : Array Nat} (h : Pl N p) (hn : 1 < N) (c : lt (gp p 1) (gp p 0) = true) :
    ∃ m q, runT lt (kas_descPart 1 N p) = (m, q) ∧ Pl N q ∧ 0 < m ∧ m ≤ N ∧ As lt q m := by
  obtain ⟨m, e1, e2, e3, e4⟩ := run_desc L hN h (N - (1 + 1)) (1 + 1) (by omega) (by omega) fun k k0 k1 => by
    have : k = 1 := by omega
    rw [this]; exact c
  have hq : Pl N (kas_rev p 0 m) := h.rev _ _
  have hs := Pl.size h
  have ad : ∀ k, 0 < k → k < m → lt (gp (kas_rev p 0 m) (k - 1)) (gp (kas_rev p 0 m) k) = true := fun k k0 k1 => by
    rw [gp_rev (by omega), gp_rev (by omega), if_pos (by omega), if_pos k1]
    have := e4 (m - 1 - (k - 1)) (by omega) (by omega)
    have e5 : m - 1 - (k - 1) - 1 = m - 1 - k := by omega
    rw [e5] at this
    exact this
  have r := run_asc L hN hq (N - m) m (by omega) (by omega) ad
  refine ⟨runT lt (kas_asc (kas_rev p 0 m) (N - m) m), kas_rev p 0 m, ?_, hq, by omega, by omega, as_of_adj L hN hq r.2.2.1⟩
  unfold kas_descPart
  rw [runT_bind, e1]
  show runT lt (if 0 > 0 then _ else kas_tail3 m N p) = _
  rw [if_neg (by omega)]
  unfold kas_tail3
  rw [runT_bind]
  rfl
theorem run_count (hN : 0 < N) {p : Array Nat} (h : Pl N p) : ∃ m q, runT lt (kas_count N p) = (m, q) ∧ Pl N q ∧ 0 < m ∧ m ≤ N ∧ As lt q m := by
  have r := run_asc L hN h (N - 1) 1 (by omega) (by omega) fun k k0 k1 => by omega
  unfold kas_count
  rw [runT_bind]
  generalize runT lt (kas_asc p (N - 1) 1) = n at r
  obtain ⟨r1, r2, r3, r4⟩ := r
  by_cases c : (n == N) = true
  · rw [if_pos c]
    exact ⟨n, p, rfl, h, by omega, by omega, as_of_adj L hN h r3⟩
  · rw [if_neg c]
    have nN : n ≠ N := by simpa using c
    by_cases c2 : n > 1
    · rw [if_pos c2]
      have a := as_of_adj L hN h r3
      have b := a 0 (n - 1) (by omega) (by omega)
      refine ⟨n, p, ?_, h, by omega, by omega, a⟩
      show runT lt (if lt (gp p 0) (gp p (n - 1)) = true then KasT.ret (n, p) else _) = _
      rw [if_pos b]
      rfl
    · rw [if_neg c2]
      have n1 : n = 1 := by omega
      subst n1
      exact run_part L hN h (by omega) (r4 (by omega))
theorem run_place (hN : 0 < N) {p : Array Nat} (h : Pl N p) {k : Nat} (hk : k < N) (a : As lt p k) : ∀ f l r, l ≤ r → r ≤ k → r - l ≤ f → (∀ i, i < l → lt (gp p i) (gp p k) = true) → (∀ i, r ≤ i → i < k → lt (gp p k) (gp p i) = true) →
    ∃ x, runT lt (kas_place p k f l r) = x ∧ x ≤ k ∧ (∀ i, i < x → lt (gp p i) (gp p k) = true) ∧ (∀ i, x ≤ i → i < k → lt (gp p k) (gp p i) = true)
  | 0, l, r, h1, h2, h3, h4, h5 => ⟨l, rfl, by omega, h4, fun i i0 i1 => h5 i (by omega) i1⟩
  | f + 1, l, r, h1, h2, h3, h4, h5 => by
    have e : runT lt (kas_place p k (f + 1) l r) = runT lt (if l ≥ r then KasT.ret l else .ask (gp p k) (gp p ((l + r) / 2)) fun c => if c = true then kas_place p k f l ((l + r) / 2) else kas_place p k f ((l + r) / 2 + 1) r) := rfl
    rw [e]
    by_cases c : l ≥ r
    · rw [if_pos c]
      exact ⟨l, rfl, by omega, h4, fun i i0 i1 => h5 i (by omega) i1⟩
    · rw [if_neg c]
      generalize hm : (l + r) / 2 = m
      have m1 : l ≤ m := by omega
      have m2 : m < r := by omega
      show ∃ x, runT lt (if lt (gp p k) (gp p m) = true then kas_place p k f l m else kas_place p k f (m + 1) r) = x ∧ _
      by_cases c2 : lt (gp p k) (gp p m) = true
      · rw [if_pos c2]
        refine run_place hN h hk a f l m m1 (by omega) (by omega) h4 fun i i0 i1 => ?_
        by_cases z : i = m
        · rw [z]; exact c2
        · exact L.tr _ _ _ (h.below hN _) (h.below hN _) (h.below hN _) c2 (a m i (by omega) i1)
      · rw [if_neg c2]
        have c' : lt (gp p k) (gp p m) = false := by simpa using c2
        have t := L.tri _ _ (h.below hN k) (h.below hN m) (Pl.ne h hk (by omega) (by omega)) c'
        refine run_place hN h hk a f (m + 1) r (by omega) h2 (by omega) (fun i i0 => ?_) h5
        by_cases z : i = m
        · rw [z]; exact t
        · exact L.tr _ _ _ (h.below hN _) (h.below hN _) (h.below hN _) (a i m (by omega) (by omega)) t
theorem run_bin (hN : 0 < N) : ∀ f (p : Array Nat) k, Pl N p → k + f = N → As lt p k → As lt (runT lt (kas_bin f p k)) N
  | 0, p, k, _, hk, a => by
    have : k = N := by omega
    subst this
    exact a
  | f + 1, p, k, h, hk, a => by
    have hs := Pl.size h
    obtain ⟨x, e1, e2, e3, e4⟩ := run_place L hN h (show k < N by omega) a k 0 k (Nat.zero_le _) (Nat.le_refl _) (by omega) (fun i z => by omega) (fun i z1 z2 => by omega)
    have e : runT lt (kas_bin (f + 1) p k) = runT lt (kas_bin f (bubble p k (k - x)) (k + 1)) := by
      show runT lt ((kas_place p k k 0 k).bind fun l => kas_bin f (bubble p k (k - l)) (k + 1)) = _
      rw [runT_bind, e1]
    rw [e]
    refine run_bin hN f _ (k + 1) (h.bub _ _) (by omega) fun i j hij hj => ?_
    rw [gp_bub (by omega) e2, gp_bub (by omega) e2]
    by_cases i1 : i = x
    · rw [if_pos i1, if_neg (by omega), if_pos (by omega)]
      exact e4 (j - 1) (by omega) (by omega)
    · rw [if_neg i1]
      by_cases j1 : j = x
      · rw [if_pos j1, if_neg (by omega)]
        exact e3 i (by omega)
      · rw [if_neg j1]
        by_cases i2 : x < i ∧ i ≤ k
        · rw [if_pos i2, if_pos (by omega)]
          exact a (i - 1) (j - 1) (by omega) (by omega)
        · rw [if_neg i2]
          by_cases j2 : x < j ∧ j ≤ k
          · rw [if_pos j2]
            exact a i (j - 1) (by omega) (by omega)
          · rw [if_neg j2]
            exact a i j hij (by omega)
theorem run_sort (hN : 0 < N) : As lt (runT lt (kas_sort N)) N := by
  unfold kas_sort
  rw [runT_bind]
  obtain ⟨m, q, e, hq, m0, m1, a⟩ := run_count L hN (show Pl N (List.toArray (List.range N)) from Array.Perm.refl _)
  rw [e]
  show As lt (runT lt (if m < N then kas_bin (N - max m 1) q (max m 1) else KasT.ret q)) N
  have em : max m 1 = m := by omega
  rw [em]
  by_cases c : m < N
  · rw [if_pos c]
    exact run_bin L hN _ _ _ hq (by omega) a
  · rw [if_neg c]
    have : m = N := by omega
    subst this
    exact a
end
end L2
/-! ### own rules over the layer, 22: sorted, told exactly -/
namespace L2
open PySem PySem.Spec PySem.W PyProof.Rows
/-- the places in the order in which sorted tells them -/
def sortI (lt : Nat → Nat → Bool) (n : Nat) : List Nat := if n < 2 then List.range n else (runT lt (kas_sort n)).toList
theorem sortI_lt {lt : Nat → Nat → Bool} {n : Nat} (h : n < 2) : (List.range n).toArray.toList = sortI lt n := by
  unfold sortI
  rw [if_pos h]
theorem sortI_ge {lt : Nat → Nat → Bool} {n : Nat} {p : Array Nat} (h : 2 ≤ n) (e : p = runT lt (kas_sort n)) : p.toList = sortI lt n := by
  unfold sortI
  rw [if_neg (by omega), e]
theorem sortI_perm (lt : Nat → Nat → Bool) (n : Nat) : (sortI lt n).Perm (List.range n) := by
  unfold sortI
  split
  · exact .refl _
  · have h : Pl n (runT lt (kas_sort n)) := Tr.endR (tr_sort (by omega))
    have := Array.perm_iff_toList_perm.mp h
    simpa using this
def sortP (ps : List (Str × Int)) : List (Str × Int) := (sortI (fun i j => pairLt (ps.getD i ("", 0)) (ps.getD j ("", 0))) ps.length).map fun i => ps.getD i ("", 0)
theorem sortP_perm (ps : List (Str × Int)) : (sortP ps).Perm ps := by
  unfold sortP
  have h := (sortI_perm (fun i j => pairLt (ps.getD i ("", 0)) (ps.getD j ("", 0))) ps.length).map fun i => ps.getD i ("", 0)
  refine h.trans ?_
  have e : (List.range ps.length).map (fun i => ps.getD i ("", 0)) = ps := by
    refine List.ext_getElem (by simp) fun i h1 h2 => ?_
    simp [List.getD_eq_getElem?_getD, h2]
  rw [e]
section
variable {prog : Program} {w : World} {A : Around} {E : Value → Shared → Prop} {s : Shared}
/-- the list at a is sorted where it stands; all else stays -/
theorem lsortX {a : Addr} {us : List Value} {n : Nat} {R : PySem.Fin → Shared → Prop} (stands : s.heap.get? a = some (seqObj "list" us.toArray n)) (few : us.length < 64) (lt : Nat → Nat → Bool) (κ : SortKind)
    (kind : ∀ z : Shared, (∀ b o, b ≠ a → s.heap.get? b = some o → z.heap.get? b = some o) → 2 ≤ us.length → ∀ Q : SortKind → Shared → Prop, Q κ z → wpAny (model prog w) A (keyKind' us.toArray) Q (fun _ _ => False) z)
    (ask : ∀ z : Shared, (∀ b o, b ≠ a → s.heap.get? b = some o → z.heap.get? b = some o) → ∀ i j (C : Bool → Shared → Prop), i < us.length → j < us.length → C (lt i j) z → kas_ask prog w A κ us i j C z)
    (done : ∀ (p : Array Nat) (g : Heap) (c : Nat), Pl us.length p → p.toList = sortI lt us.length → (∀ b o, b ≠ a → s.heap.get? b = some o → g.get? b = some o) → g.get? a = some (seqObj "list" (p.toList.map fun i => us.getD i Value.none).toArray c) →
      R (.done (.ret .none)) { s with heap := g }) : wpAny (model prog w) A (Builtin.«list.sort» ⟨[.ref a], []⟩) R E s := by
  have lta : a < s.heap.objs.size := Heap.lt_size stands
  obtain ⟨c1, st1⟩ : ∃ c1, (s.heap.update a (Obj.mapSeq fun _ => (#[] : Array Value))).get? a = some (seqObj "list" #[] c1) := ⟨_, get?_update_seq stands fun _ => #[]⟩
  generalize hg : ((s.heap.update a (Obj.mapSeq fun _ => (#[] : Array Value))).push (seqObj "tuple" us.toArray 0)).push (seqObj "list" #[] 0) = g1
  have stays : ∀ b o, b ≠ a → s.heap.get? b = some o → g1.get? b = some o := fun b o hb e => by
    rw [← hg]
    exact Heap.get?_push_of_some _ (Heap.get?_push_of_some _ ((Heap.SameBut.update s.heap a _).2 b hb |>.trans e))
  have st2 : g1.get? a = some (seqObj "list" #[] c1) := by
    rw [← hg]
    exact Heap.get?_push_of_some _ (Heap.get?_push_of_some _ st1)
  have ends : ∀ (p : Array Nat), Pl us.length p → ∀ Q : Unit → Shared → Prop, (∀ g c, (∀ b o, b ≠ a → s.heap.get? b = some o → g.get? b = some o) → g.get? a = some (seqObj "list" (p.toList.map fun i => us.getD i Value.none).toArray c) → Q () { s with heap := g }) →
      wpAny (model prog w) A (Builtin.List.listUpdate (.ref a) fun _ => (p.toList.map fun i => us.getD i Value.none).toArray) Q E { s with heap := g1 } := fun p hp Q hQ => by
    refine listUpdate_at (s := { s with heap := g1 }) st2 rfl (hQ _ _ (fun b o hb e => ((Heap.SameBut.update g1 a _).2 b hb).trans (stays b o hb e)) (get?_update_seq st2 fun _ => _)) (Nat.zero_le _) ?_
    have hs : p.size = us.length := by simpa using hp.size_eq
    rw [List.size_toArray, List.length_map, Array.length_toList, hs, sizeLine_eq]
    omega
  rw [list_sort_plain]
  refine wpAny_bind (listItems_at stands rfl ?_)
  refine wpAny_bind (listUpdate_at stands rfl ?_ (by rw [List.size_toArray, sizeLine_eq]; omega) (Nat.zero_le _))
  refine wpAny_bind (seqEpoch_at st1 rfl (wpAny_bind (wpAny_newTuple (wpAny_bind (wpAny_newList ?_ (Nat.zero_le _))) (by show us.length ≤ _; rw [sizeLine_eq]; omega))))
  refine wpAny_holding ?_
  show wpAny (model prog w) A _ R E { s with heap := ((s.heap.update a (Obj.mapSeq fun _ => (#[] : Array Value))).push (seqObj "tuple" us.toArray 0)).push (seqObj "list" #[] 0) }
  rw [hg]
  dsimp only
  by_cases h2 : us.toArray.size < 2
  · rw [if_pos h2, if_pos h2]
    refine wpAny_bind (wpAny_pure ?_)
    rw [StateT.run_pure]
    refine wpAny_bind (wpAny_pure ?_)
    dsimp only
    refine wpAny_bind (seqEpoch_at st2 rfl ?_)
    have e1 : (arrOf (SortSt.mk' general' (us.toArray.zip us.toArray) #[] 7 none)).map (·.2) = ((List.range us.length).toArray.toList.map fun i => us.getD i Value.none).toArray := by
      show (us.toArray.zip us.toArray).map (·.2) = _
      apply Array.toList_inj.mp
      refine List.ext_getElem (by simp) fun i k1 k2 => ?_
      have k3 : i < us.length := by simpa using k1
      simp [List.getD_eq_getElem?_getD, k3]
    rw [e1]
    refine wpAny_bind (ends _ (Array.Perm.refl _) _ fun g c k1 k2 => ?_)
    simp only [bne_self_eq_false, Bool.false_eq_true, if_false]
    exact wpAny_pure (done _ g c (Array.Perm.refl _) (sortI_lt (by rw [List.size_toArray] at h2; exact h2)) k1 k2)
  · rw [if_neg h2, if_neg h2]
    have h2' : 2 ≤ us.length := by rw [List.size_toArray] at h2; omega
    refine wpAny_bind (wpAny_mono (kind { s with heap := g1 } stays h2' (fun k z => k = κ ∧ z = { s with heap := g1 }) ⟨rfl, rfl⟩) (fun k z hk => ?_) fun _ _ x => x.elim)
    obtain ⟨rfl, rfl⟩ := hk
    have tree : (kas_sort us.length).kasWp (kas_ask prog w A k us) (fun p z => (Pl us.length p ∧ p = runT lt (kas_sort us.length)) ∧ z = { s with heap := g1 }) { s with heap := g1 } :=
      (tr_sort (by omega)).wpR lt (ask { s with heap := g1 } stays) fun hp => ⟨⟨hp, rfl⟩, rfl⟩
    refine wpAny_bind (wpAny_mono (kat_run (E := E) (Q := fun st z => ∃ p : Array Nat, arrOf st = p.map (kas_item (us.toArray.zip us.toArray)) ∧ failedOf st = none ∧ (Pl us.length p ∧ p = runT lt (kas_sort us.length)) ∧ z = { s with heap := g1 }) rfl h2' few
      (fun p st z _ q1 q2 q3 => ⟨p, q1, q2, q3⟩) tree) ?_ fun _ _ x => x)
    rintro ⟨⟨⟩, st⟩ z ⟨p, q1, q2, q3, rfl⟩
    dsimp only
    refine wpAny_bind (seqEpoch_at st2 rfl ?_)
    rw [kat_snds rfl q1]
    refine wpAny_bind (ends p q3.1 _ fun g c k1 k2 => ?_)
    rw [q2]
    simp only [bne_self_eq_false, Bool.false_eq_true, if_false]
    exact wpAny_pure (done p g c q3.1 (sortI_ge h2' q3.2) k1 k2)
/-- sorted(xs): a new list of the items, in another order -/
theorem sorted_wpX {l : Addr} {us : List Value} {R : Value → Shared → Prop} (hl : s.heap.IsList l us.toArray) (few : us.length < 64) (lt : Nat → Nat → Bool) (κ : SortKind)
    (kind : ∀ z : Shared, (∀ b o, s.heap.get? b = some o → z.heap.get? b = some o) → 2 ≤ us.length → ∀ Q : SortKind → Shared → Prop, Q κ z → wpAny (model prog w) A.in1.in1 (keyKind' us.toArray) Q (fun _ _ => False) z)
    (ask : ∀ z : Shared, (∀ b o, s.heap.get? b = some o → z.heap.get? b = some o) → ∀ i j (C : Bool → Shared → Prop), i < us.length → j < us.length → C (lt i j) z → kas_ask prog w A.in1.in1 κ us i j C z)
    (done : ∀ (D : Addr) (p : Array Nat) (g : Heap) (c : Nat), s.heap.objs.size ≤ D → Pl us.length p → p.toList = sortI lt us.length → (∀ b o, s.heap.get? b = some o → g.get? b = some o) → g.get? D = some (seqObj "list" (p.toList.map fun i => us.getD i Value.none).toArray c) →
      R (.ref D) { s with heap := g }) : wpAny (model prog w) A (call (.builtin "sorted") [.ref l]) R E s := by
  have line : us.length ≤ sizeLine := by rw [sizeLine_eq]; omega
  refine Calls.call_function_entry kind_sorted plain_sorted entry_sorted (args_sorted1 _) ?_
  unfold Builtin.«sorted»
  refine wpAny_bind (m := checkCount "sorted" 1 1 _) (wpAny_pure (wpAny_bind (collect_list hl ?_ line)))
  refine wpAny_bind (wpAny_newList ?_ line)
  have sz1 : ((s.heap.push (seqObj "list" #[] 0)).update s.heap.objs.size (Obj.mapSeq (· ++ us.toArray))).objs.size = s.heap.objs.size + 1 := by
    rw [Heap.size_update]
    exact size_push' _ _
  generalize hg : (s.heap.push (seqObj "list" #[] 0)).update s.heap.objs.size (Obj.mapSeq (· ++ us.toArray)) = g0 at sz1
  have kept : ∀ b o, s.heap.get? b = some o → (g0.push (seqObj "list" us.toArray 0)).get? b = some o := fun b o e => by
    have hb : b < s.heap.objs.size := Heap.lt_size e
    refine Heap.get?_push_of_some _ ?_
    rw [← hg]
    exact ((Heap.SameBut.update _ s.heap.objs.size _).2 b (Nat.ne_of_lt hb)).trans (Heap.get?_push_of_some _ e)
  have stands : (g0.push (seqObj "list" us.toArray 0)).get? (s.heap.objs.size + 1) = some (seqObj "list" us.toArray 0) := by
    rw [← sz1]
    exact Heap.get?_push_size _ rfl
  have off : ∀ b o, s.heap.get? b = some o → b ≠ s.heap.objs.size + 1 := fun b o e => Nat.ne_of_lt (Nat.lt_succ_of_lt (Heap.lt_size e))
  show wpAny _ _ _ _ _ { s with heap := g0.push (seqObj "list" us.toArray 0) }
  rw [sz1]
  refine wpAny_bind (wpAny_holding (wpAny_call_entry slot_list_sort ⟨_, stands, rfl⟩ entry_list_sort ?body (args_list_sort _)))
  case body =>
    refine lsortX (s := { s with heap := g0.push (seqObj "list" us.toArray 0) }) stands few lt κ (fun z hz h2 Q q => kind z (fun b o e => hz b o (off b o e) (kept b o e)) h2 Q q) (fun z hz => ask z fun b o e => hz b o (off b o e) (kept b o e)) fun p g c k1 k0 k2 k3 => ?_
    exact ⟨_, rfl, wpAny_pure ⟨_, rfl, done _ p g c (Nat.le_succ _) k1 k0 (fun b o e => k2 b o (off b o e) (kept b o e)) k3⟩⟩
end
section
variable {X : Cx} {pins : List (Addr × Obj)} {σ : L2.St} {H : Hp} {s : Shared}
theorem call_sortedX : CallR X (.builtin "sorted") (fun xs H Q => ∃ a vs, ∃ ps : List (Str × Int), xs = [.ref a] ∧ SqL X.K H a vs ∧ DatsAt X.K H vs (ps.map pairD) ∧ vs.length < 64 ∧
    ∀ D ws, DatsAt X.K H ws ((sortP ps).map pairD) → H D = none → Q (.ref D) (upd H D (.lst ws))) := by
  intro pins s σ H xs us Q I r h
  obtain ⟨a, vs, ps, rfl, hl, hd, few, q⟩ := h
  obtain ⟨u, rfl, ru⟩ := vals1 r
  cases (show u = Value.ref a from ru)
  obtain ⟨its, rv, pl, hz⟩ := I.list hl
  have len1 := rv.length
  have len2 := hd.length
  rw [List.length_map] at len2
  refine sorted_wpX (lt := fun i j => pairLt (ps.getD i ("", 0)) (ps.getD j ("", 0))) (κ := tuples' ((Value.type "str") != (Value.type "tuple"))) pl.isList (by omega) (fun z kept h2 Q' hq => ?_) (fun z kept i j C hi hj hC => ?_) fun D p g c hD hp hpe kept at_ => ?_
  · obtain ⟨fs, k1, k2, k3⟩ := pairs_tups I kept ps vs its hd rv
    refine kat_kind (T := Value.type "str") k1 (by omega) (fun v hv => ?_) (by decide +kernel) hq
    obtain ⟨x, t, rfl⟩ := k3 v hv
    exact .now
  · have gi : ∀ {k : Nat}, k < its.length → ∃ a t t' o n, its.getD k Value.none = Value.ref a ∧ z.heap.get? a = some o ∧ o.data = .seq #[Value.str (ps.getD k ("", 0)).1 t, Value.int (ps.getD k ("", 0)).2 t'] n := fun {k} hk => by
      have e1 : (ps.map pairD)[k]? = some (pairD (ps.getD k ("", 0))) := by
        have hk' : k < ps.length := by omega
        simp [List.getD_eq_getElem?_getD, hk']
      obtain ⟨v, ev, hv⟩ := hd.get e1
      obtain ⟨u, eu, ru⟩ := rv.get ev
      obtain ⟨a, t, t', o, n, rfl, f1, _, f3⟩ := pair_at I hv ru
      exact ⟨a, t, t', o, n, getD_of eu, kept _ _ f1, f3⟩
    obtain ⟨a1, t1, t1', o1, n1, e1, g1, d1⟩ := gi hi
    obtain ⟨a2, t2, t2', o2, n2, e2, g2, d2⟩ := gi hj
    show wpAny _ _ (keyLt' _ (its.getD i Value.none) (its.getD j Value.none)) C _ z
    rw [e1, e2]
    generalize ps.getD i ("", 0) = f at d1 hC
    generalize ps.getD j ("", 0) = g at d2 hC
    refine kat_lt g1 d1 g2 d2 ?_
    show KatLex _ _ _ _ _ C [(Value.str f.1 t1, Value.str g.1 t2), (Value.int f.2 t1', Value.int g.2 t2')] 0 z
    refine kat_cons (SeqAt.EqAt.str_str _ _ _ _ _ _ _ _ (kat_go (fun b1 => kat_yes ?_) fun b1 => kat_no ?_))
    · refine kat_cons (SeqAt.EqAt.int_int _ _ _ _ _ _ _ _ (kat_go (fun b2 => kat_yes (kat_nil ?_)) fun b2 => kat_no ?_))
      · have e3 : pairLt f g = false := by
          unfold pairLt
          rw [if_pos b1, if_pos b2]
        rw [e3] at hC
        exact hC
      · have e3 : pairLt f g = decide (f.2 < g.2) := by
          unfold pairLt
          rw [if_pos b1, if_neg (by rw [b2]; exact Bool.false_ne_true)]
        rw [e3] at hC
        exact kat_one _ _ (lt_int hC)
    · have e3 : pairLt f g = decide (f.1.cps.toList < g.1.cps.toList) := by
        unfold pairLt
        rw [if_neg (by rw [b1]; exact Bool.false_ne_true)]
      rw [e3] at hC
      exact oneLt_str hC
  · have hp' : p.toList.Perm (List.range vs.length) := by
      have := Array.perm_iff_toList_perm.mp hp
      rw [len1]
      simpa using this
    refine ⟨.ref D, _, I.laid (t' := s.toks) (o := .lst (p.toList.map fun i => vs.getD i .non)) kept hD ?_, rfl, q D (p.toList.map fun i => vs.getD i .non) ?_ (I.hok.fresh hD)⟩
    rotate_left
    · have all : ∀ i ∈ p.toList, i < vs.length := fun i hi => List.mem_range.mp (hp'.mem_iff.mp hi)
      have hd1 := hd.pick (d0 := pairD ("", 0)) p.toList all
      have e9 : (p.toList.map fun i => (ps.map pairD).getD i (pairD ("", 0))) = (sortP ps).map pairD := by
        unfold sortP
        rw [List.map_map, ← len2, len1, ← hpe]
        refine List.map_congr_left fun i hi => ?_
        have hi' := all i hi
        show (ps.map pairD).getD i (pairD ("", 0)) = pairD (ps.getD i ("", 0))
        rw [List.getD_eq_getElem?_getD, List.getD_eq_getElem?_getD, List.getElem?_map, List.getElem?_eq_getElem (show i < ps.length by omega)]
        rfl
      rw [e9] at hd1
      exact hd1
    refine ⟨?_, _, c, ?_, at_⟩
    · rw [List.length_map, hp'.length_eq, List.length_range]
      exact hz
    · have all : ∀ i ∈ p.toList, i < vs.length := fun i hi => List.mem_range.mp (hp'.mem_iff.mp hi)
      generalize p.toList = l at all
      clear hp hp' at_
      induction l with
      | nil => exact .nil
      | cons i l ih =>
        have hi := all i (List.mem_cons_self ..)
        obtain ⟨u, eu, ru⟩ := rv.get (i := i) (x := vs[i]) (List.getElem?_eq_getElem hi)
        refine .cons ?_ (ih fun k hk => all k (List.mem_cons_of_mem _ hk))
        show RelV (vs.getD i .non) (its.getD i Value.none)
        rw [getD_of eu, getD_of (List.getElem?_eq_getElem hi)]
        exact ru
end
end L2
/-! ### own rules over the layer, 23: zip of a tuple and a list -/
namespace L2
open PySem PySem.Spec PyProof.Rows
/-- a list's own iterator feeds too -/
theorem feed_list {i l : Addr} (hil : l ≠ i) (xs : Array Value) : Feed i l (fun k h => h.IsListIter i l k ∧ h.IsList l xs) (fun k => xs[k]?) where
  obj := fun k h p => by
    obtain ⟨⟨o, e, _, d⟩, _⟩ := p
    exact ⟨o, e, fun v z => by rw [d] at z; cases z⟩
  keep := fun k h g p q => ⟨p.1.at fun o e => q i o (.inl rfl) e, by
    obtain ⟨o, e, r⟩ := p.2
    exact ⟨o, q l o (.inr rfl) e, r⟩⟩
  item := fun p hx hQ => wpAny_nextOf_list_item p.1 p.2 hx fun g h1 h2 => hQ g ⟨h1, p.2.extBut h2.extBut hil⟩ h2
  stop := fun hh p hx hE => wpAny_nextOf_list_end hh p.1 p.2 hx hE
abbrev yA (h : Heap) (l : Addr) : Heap := h.push { cls := .type "tuple_iterator", data := .fields #[.ref l, .int 0 0] }
abbrev yB (h : Heap) (l m : Addr) : Heap := (yA h l).push { cls := .type "list_iterator", data := .fields #[.ref m, .int 0 0] }
abbrev yC (h : Heap) (l m : Addr) : Heap := (yB h l m).push { cls := .type "tuple", data := .seq #[.ref h.objs.size, .ref (yA h l).objs.size] }
abbrev yD (h : Heap) (l m : Addr) : Heap := (yC h l m).push { cls := .type "tuple", data := .seq #[.none, .none] }
abbrev yE (h : Heap) (l m : Addr) : Heap := (yD h l m).push { cls := .type "zip", data := .fields #[.none, .bool false, .bool false, .ref (yB h l m).objs.size, .ref (yC h l m).objs.size] }
theorem meets_zipM (l m : Addr) (xs ys : Array Value) :
    Meets (Builtin.«zip.__new__» ⟨[.type "zip", .ref l, .ref m], []⟩) (fun _ R s => s.heap.IsTuple l xs ∧ s.heap.IsList m ys ∧ R (.ok (.ret (.ref (yD s.heap l m).objs.size))) { s with heap := yE s.heap l m }) :=
  .of_wp fun prog w A R s h => by
    obtain ⟨hp, g, d, tk, os⟩ := s; obtain ⟨t1, t2, h⟩ := h
    have hsub := sub_zip
    have T1 : Heap.IsTuple (Shared.heap ⟨hp, g, d, tk, os⟩) l xs := t1
    have T2 : Heap.IsList (Shared.heap ⟨hp.push { cls := .type "tuple_iterator", data := .fields #[.ref l, .int 0 0] }, g, d, tk, os⟩) m ys := Heap.IsList.push t2 _
    wp_walk using wpAny_pyIter_tuple T1, wpAny_pyIter_list T2
    exact ⟨_, rfl, h⟩
theorem call_zipM {prog : Program} {w : World} {A : Around} {E : Value → Shared → Prop} {s : Shared} {l m : Addr} {xs ys : Array Value} {Q : Value → Shared → Prop} (t1 : s.heap.IsTuple l xs) (t2 : s.heap.IsList m ys)
    (h : ∀ g, IsZip g (s.heap.objs.size + 4) (s.heap.objs.size + 2) (s.heap.objs.size + 3) .none → IsPair g (s.heap.objs.size + 2) (.ref s.heap.objs.size) (.ref (s.heap.objs.size + 1)) →
      IsPair g (s.heap.objs.size + 3) .none .none → g.IsTupleIter s.heap.objs.size l 0 → g.IsListIter (s.heap.objs.size + 1) m 0 → (∀ c o, s.heap.get? c = some o → g.get? c = some o) → Q (.ref (s.heap.objs.size + 4)) { s with heap := g }) :
    wpAny (model prog w) A (call (.type "zip") [.ref l, .ref m]) Q E s := by
  refine callType_new PySem.F.called_zip (by decide) (PySem.F.typeCall_zip_2 _ _) (PySem.F.newCall_zip_2 _ _) (fun obj => PySem.F.args_object_init_3 obj _ _) PySem.F.entry_zip_new (meets_zipM l m xs ys) ⟨t1, t2, ?_⟩
  have n1 : (yA s.heap l).objs.size = s.heap.objs.size + 1 := Heap.size_push ..
  have n2 : (yB s.heap l m).objs.size = s.heap.objs.size + 2 := by rw [Heap.size_push, n1]
  have n3 : (yC s.heap l m).objs.size = s.heap.objs.size + 3 := by rw [Heap.size_push, n2]
  have n4 : (yD s.heap l m).objs.size = s.heap.objs.size + 4 := by rw [Heap.size_push, n3]
  have w5 : (yE s.heap l m).get? (yD s.heap l m).objs.size = some _ := Heap.get?_push_size _ rfl
  have w4 : (yE s.heap l m).get? (yC s.heap l m).objs.size = some _ := Heap.get?_push_of_some _ (Heap.get?_push_size _ rfl)
  have w3 : (yE s.heap l m).get? (yB s.heap l m).objs.size = some _ := Heap.get?_push_of_some _ (Heap.get?_push_of_some _ (Heap.get?_push_size _ rfl))
  have w2 : (yE s.heap l m).get? (yA s.heap l).objs.size = some _ := Heap.get?_push_of_some _ (Heap.get?_push_of_some _ (Heap.get?_push_of_some _ (Heap.get?_push_size _ rfl)))
  have w1 : (yE s.heap l m).get? s.heap.objs.size = some _ := Heap.get?_push_of_some _ (Heap.get?_push_of_some _ (Heap.get?_push_of_some _ (Heap.get?_push_of_some _ (Heap.get?_push_size _ rfl))))
  show _ ∧ _
  rw [n2, n3, n4] at w5
  rw [n1, n2] at w3
  rw [n3] at w4
  rw [n1] at w2
  rw [n4]
  exact ⟨⟨_, w5, rfl⟩, h _ w5 w3 w4 ⟨_, w1, rfl, rfl⟩ ⟨_, w2, rfl, rfl⟩ fun c o q =>
    Heap.get?_push_of_some _ (Heap.get?_push_of_some _ (Heap.get?_push_of_some _ (Heap.get?_push_of_some _ (Heap.get?_push_of_some _ q))))⟩
/-- the pairs of the tuples at a and b -/
def ItzM (K : PySem.W.Frag) (a b : Addr) : It :=
  ⟨fun i H => ∃ xs ys x y, SqT K H a xs ∧ SqL K H b ys ∧ xs[i]? = some x ∧ ys[i]? = some y,
   fun i H v H' => ∃ p, v = .ref p ∧ H p = none ∧ ∀ xs ys x y, SqT K H a xs → SqL K H b ys → xs[i]? = some x → ys[i]? = some y → H' = upd H p (.tup [x, y]),
   fun i H => ∃ xs ys, SqT K H a xs ∧ SqL K H b ys ∧ (xs.length ≤ i ∨ ys.length ≤ i)⟩
theorem turn_zipM {P : Program} {w : World} {K : PySem.W.Frag} {elts : List Expr} {kk : Nat} {pos : Pos} (a b z TI TO i1 i2 : Addr) (D : ZipApart z TI TO i1 i2 a b) :
    Turn P w K (.Tuple elts kk pos) (ItzM K a b) [z, TI, TO, i1, i2] z (fun i h => IsZip h z TI TO .none ∧ IsPair h TI (.ref i1) (.ref i2) ∧ (∃ x y, IsPair h TO x y) ∧ h.IsTupleIter i1 a i ∧ h.IsListIter i2 b i) where
  mem := by simp
  obj := fun i h st c hc => by
    obtain ⟨hz, hTI, ⟨x, y, hTO⟩, ⟨o1, e1, c1, d1⟩, ⟨o2, e2, c2, d2⟩⟩ := st
    have hc' : c = z ∨ c = TI ∨ c = TO ∨ c = i1 ∨ c = i2 := by simpa using hc
    rcases hc' with rfl | rfl | rfl | rfl | rfl
    · exact ⟨_, hz, fun v q => by have q' : Data.fields _ = Data.cell v := q; cases q'⟩
    · exact ⟨_, hTI, fun v q => by have q' : Data.seq _ _ = Data.cell v := q; cases q'⟩
    · exact ⟨_, hTO, fun v q => by have q' : Data.seq _ _ = Data.cell v := q; cases q'⟩
    · exact ⟨_, e1, fun v q => by rw [d1] at q; cases q⟩
    · exact ⟨_, e2, fun v q => by rw [d2] at q; cases q⟩
  keep := fun i h h' st k => by
    obtain ⟨hz, hTI, ⟨x, y, hTO⟩, h1, h2⟩ := st
    exact ⟨k z (by simp) _ hz, k TI (by simp) _ hTI, ⟨x, y, k TO (by simp) _ hTO⟩, h1.at fun o e => k i1 (by simp) o e, h2.at fun o e => k i2 (by simp) o e⟩
  item := by
    intro X hP hw hK hc i pins s σ H E I hf st hg
    subst hP hw hK
    obtain ⟨xs, ys, x, y, hq1, hq2, hx, hy⟩ := hg
    obtain ⟨its, rv, p1, hz1⟩ := I.tuple hq1
    obtain ⟨its2, rv2, p2, hz2⟩ := I.list hq2
    obtain ⟨u, hu, ru⟩ := rv.get hx
    obtain ⟨v, hv, rvv⟩ := rv2.get hy
    obtain ⟨hz, hTI, ⟨ta, tb, hTO⟩, h1, h2⟩ := st
    refine zipF_item (feed_tuple D.l1i1 its.toArray) (feed_list D.l2i2 its2.toArray) D hz hTI hTO ⟨h1, p1⟩ ⟨h2, p2.isList⟩ (x := u) (y := v) (by simpa using hu) (by simpa using hv) fun h' a1 a2 a3 a4 a5 hk => ?_
    refine ⟨_, rfl, wpAny_letOwnedTupleGo_zip a1 fun h'' hz'' sb => ?_⟩
    have nz : s.heap.objs.size ≠ z := Nat.ne_of_gt (Heap.lt_size hz)
    have hk2 : ∀ c o, c ∉ [z, TI, TO, i1, i2] → s.heap.get? c = some o → h''.get? c = some o := fun c o hc e => by
      simp only [List.mem_cons, List.not_mem_nil, or_false, not_or] at hc
      exact sb.extBut c o hc.1 (hk c o hc.1 hc.2.2.1 hc.2.2.2.1 hc.2.2.2.2 e)
    refine ⟨.ref s.heap.objs.size, upd H s.heap.objs.size (.tup [x, y]), I.turnedLaid (t' := s.toks) hk2 hf (Nat.le_refl _) ⟨two_le, [u, v], .cons ru (.cons rvv .nil), ⟨_, sb.extBut _ _ nz a5, rfl, _, rfl⟩⟩, rfl,
      ⟨_, rfl, I.hok.fresh (Nat.le_refl _), fun xs' ys' x' y' e1 e2 e3 e4 => ?_⟩, ⟨hz'', sb.extBut _ _ D.TIz (hk _ _ D.TIz D.TITO D.TIi1 D.TIi2 hTI), ⟨_, _, sb.extBut _ _ D.TOz a2⟩, a3.1.extBut sb.extBut D.i1z, a4.1.extBut sb.extBut D.i2z⟩, fun c hc => ?_⟩
    · rw [I.tuple_inj e1 hq1, hx] at e3
      rw [I.list_inj e2 hq2, hy] at e4
      cases e3
      cases e4
      rfl
    · obtain ⟨o, e, _⟩ : ∃ o, s.heap.get? c = some o ∧ True := by
        have hc' : c = z ∨ c = TI ∨ c = TO ∨ c = i1 ∨ c = i2 := by simpa using hc
        obtain ⟨o1, e1, _⟩ := h1
        obtain ⟨o2, e2, _⟩ := h2
        rcases hc' with rfl | rfl | rfl | rfl | rfl
        · exact ⟨_, hz, trivial⟩
        · exact ⟨_, hTI, trivial⟩
        · exact ⟨_, hTO, trivial⟩
        · exact ⟨_, e1, trivial⟩
        · exact ⟨_, e2, trivial⟩
      rw [upd_ne (Nat.ne_of_lt (Heap.lt_size e))]
      exact (hf c hc).1
  done := by
    intro X hP hw hK hc i pins s σ H E I hf st hg
    subst hP hw hK
    obtain ⟨xs, ys, hq1, hq2, hend⟩ := hg
    obtain ⟨its, rv, p1, hz1⟩ := I.tuple hq1
    obtain ⟨its2, rv2, p2, hz2⟩ := I.list hq2
    obtain ⟨hz, hTI, ⟨ta, tb, hTO⟩, h1, h2⟩ := st
    have l1 := rv.length
    have l2 := rv2.length
    refine zipF_end (I.ok.hd hc) (feed_tuple D.l1i1 its.toArray) (feed_list D.l2i2 its2.toArray) D hz hTI hTO ⟨h1, p1⟩ ⟨h2, p2.isList⟩ ?_ fun h' hk => ⟨rfl, I.turnedAll (t' := s.toks) (ch := [z, TI, TO, i1, i2]) (fun c o hc e => ?_) hf⟩
    · rcases hend with q | q
      · exact .inl (by simp; omega)
      · exact .inr (by simp; omega)
    · simp only [List.mem_cons, List.not_mem_nil, or_false, not_or] at hc
      exact hk c o hc.1 hc.2.2.1 hc.2.2.2.1 hc.2.2.2.2 e
  self := fun _ _ _ _ _ st h => wpAny_pyIter_zip st.1 h
section
variable {X : Cx} {elts : List Expr} {kk : Nat} {tpos : Pos}
def iZipM (K : PySem.W.Frag) (ta : TA) : TI := fun σ H R => ta σ H fun vs H1 => ∃ a b, vs = [.ref a, .ref b] ∧ (∃ xs, SqT K H1 a xs) ∧ (∃ ys, SqL K H1 b ys) ∧ R (ItzM K a b) H1
theorem pi_zipM {e1 e2 : Expr} {ta : TA} {p pos : Pos} (hg : Gl X "zip") (hm : X.mg "zip" = none) (ha : PA X [e1, e2] ta)
    (hs : starEach [e1, e2] X.env = [(false, eval e1 X.env), (false, eval e2 X.env)] := by rfl) (hs2 : starEach [e2] X.env = [(false, eval e2 X.env)] := by rfl) : PI X (.Tuple elts kk tpos) (.Call (.Name "zip" p) [e1, e2] [] pos) (iZipM X.K ta) := by
  intro pins s σ H R I h
  refine Call_ (ld_blt I hg hm Boot.«zip» (PyProof.Rows.callWith_type1 (thn (ha pos pins s σ H _ I h) fun us s1 ⟨vs, H1, I1, r1, q1⟩ => ?_) (by rw [hs, hs2]) (by rw [hs2]; rfl)))
  obtain ⟨a, b, e, ⟨xs, hx⟩, ⟨ys, hy⟩, q⟩ := q1
  subst e
  cases r1 with
  | cons r rr =>
    cases rr with
    | cons r' rr =>
      cases rr
      cases r
      cases r'
      obtain ⟨its, rv, p1, hz1⟩ := I1.tuple hx
      obtain ⟨its2, rv2, p2, hz2⟩ := I1.list hy
      have l1 : a < s1.heap.objs.size := by obtain ⟨_, e, _⟩ := p1; exact Heap.lt_size e
      have l2 : b < s1.heap.objs.size := by obtain ⟨_, e, _⟩ := p2.isList; exact Heap.lt_size e
      refine call_zipM p1 p2.isList fun h' hz hTI hTO hi1 hi2 hk => ?_
      refine wpAny_pyIter_zip hz ?_
      refine ⟨s1.heap.objs.size + 4, [s1.heap.objs.size + 4, s1.heap.objs.size + 2, s1.heap.objs.size + 3, s1.heap.objs.size, s1.heap.objs.size + 1], _, _, H1, rfl, I1.kept (t' := s1.toks) hk, turn_zipM a b _ _ _ _ _ (zipApart_new l1 l2), ⟨hz, hTI, ⟨_, _, hTO⟩, hi1, hi2⟩, fun c hc => ?_, q⟩
      have hc' : s1.heap.objs.size ≤ c := by
        simp only [List.mem_cons, List.not_mem_nil, or_false] at hc
        rcases hc with e | e | e | e | e <;> rw [e] <;> first | exact Nat.le_refl _ | exact Nat.le_add_right _ _
      exact I1.fpOk hc' (I1.hok.fresh hc')
end
/-- a comprehension over the pairs of a tuple and a list -/
theorem comp_zipM {K : PySem.W.Frag} {a b D : Addr} {xs ys : List V} {g : TG} {tt : TT} {te : TE} {Q : VK} {H : Hp} {σ0 : L2.St} (Pv : Nat → L2.St → List V → Hp → Prop) (p0 : Pv 0 σ0 [] H)
    (hl : ∀ i σ zs H', i ≤ min xs.length ys.length → Pv i σ zs H' → SqT K H' a xs ∧ SqL K H' b ys ∧ H' D = some (.lst zs) ∧ zs.length < sizeLine)
    (hs : ∀ i x y σ zs H' p, xs[i]? = some x → ys[i]? = some y → Pv i σ zs H' → H' p = none → ∀ N : L2.St → List V → Hp → Prop, (∀ σ zs H, Pv (i + 1) σ zs H → N σ zs H) →
      g (.ref p) σ (upd H' p (.tup [x, y])) fun σ4 H4 => tt σ4 H4 fun b H5 => if b = true then te σ4 H5 fun v H6 => H6 D = some (.lst zs) ∧ N σ4 (zs ++ [v]) (upd H6 D (.lst (zs ++ [v]))) else N σ4 zs H5)
    (hd : ∀ σ zs H', Pv (min xs.length ys.length) σ zs H' → Q (.ref D) H') : CompW (ItzM K a b) g tt te σ0 Q D H := by
  refine ⟨fun i m σ zs H => m = min xs.length ys.length - i ∧ i ≤ min xs.length ys.length ∧ Pv i σ zs H, ⟨min xs.length ys.length, by simp, Nat.zero_le _, p0⟩, ?_⟩
  rintro i m σ zs H2 ⟨rfl, hi, p⟩
  obtain ⟨q1, q2, q3, q4⟩ := hl i σ zs H2 hi p
  refine ⟨q3, q4, ?_⟩
  by_cases hlt : i < min xs.length ys.length
  · have h1 : i < xs.length := by omega
    have h2 : i < ys.length := by omega
    refine .inr ⟨⟨xs, ys, xs[i], ys[i], q1, q2, by simp [h1], by simp [h2]⟩, fun v H3 y => ?_⟩
    obtain ⟨t, rfl, ht, y⟩ := y
    have e := y xs ys xs[i] ys[i] q1 q2 (by simp [h1]) (by simp [h2])
    subst e
    exact hs i xs[i] ys[i] σ zs H2 t (by simp [h1]) (by simp [h2]) p ht (fun σ zs H => ∃ m', m' < min xs.length ys.length - i ∧ m' = min xs.length ys.length - (i + 1) ∧ i + 1 ≤ min xs.length ys.length ∧ Pv (i + 1) σ zs H) fun σ zs H z => ⟨_, by omega, rfl, hlt, z⟩
  · have e : i = min xs.length ys.length := by omega
    subst e
    exact .inl ⟨⟨xs, ys, q1, q2, by omega⟩, hd σ zs H2 p⟩
/-- .. of two lists -/
theorem comp_zip {K : PySem.W.Frag} {a b D : Addr} {xs ys : List V} {g : TG} {tt : TT} {te : TE} {Q : VK} {H : Hp} {σ0 : L2.St} (Pv : Nat → L2.St → List V → Hp → Prop) (p0 : Pv 0 σ0 [] H)
    (hl : ∀ i σ zs H', i ≤ min xs.length ys.length → Pv i σ zs H' → SqL K H' a xs ∧ SqL K H' b ys ∧ H' D = some (.lst zs) ∧ zs.length < sizeLine)
    (hs : ∀ i x y σ zs H' p, xs[i]? = some x → ys[i]? = some y → Pv i σ zs H' → H' p = none → ∀ N : L2.St → List V → Hp → Prop, (∀ σ zs H, Pv (i + 1) σ zs H → N σ zs H) →
      g (.ref p) σ (upd H' p (.tup [x, y])) fun σ4 H4 => tt σ4 H4 fun b H5 => if b = true then te σ4 H5 fun v H6 => H6 D = some (.lst zs) ∧ N σ4 (zs ++ [v]) (upd H6 D (.lst (zs ++ [v]))) else N σ4 zs H5)
    (hd : ∀ σ zs H', Pv (min xs.length ys.length) σ zs H' → Q (.ref D) H') : CompW (Itz K a b) g tt te σ0 Q D H := by
  refine ⟨fun i m σ zs H => m = min xs.length ys.length - i ∧ i ≤ min xs.length ys.length ∧ Pv i σ zs H, ⟨min xs.length ys.length, by simp, Nat.zero_le _, p0⟩, ?_⟩
  rintro i m σ zs H2 ⟨rfl, hi, p⟩
  obtain ⟨q1, q2, q3, q4⟩ := hl i σ zs H2 hi p
  refine ⟨q3, q4, ?_⟩
  by_cases hlt : i < min xs.length ys.length
  · have h1 : i < xs.length := by omega
    have h2 : i < ys.length := by omega
    refine .inr ⟨⟨xs, ys, xs[i], ys[i], q1, q2, by simp [h1], by simp [h2]⟩, fun v H3 y => ?_⟩
    obtain ⟨t, rfl, ht, y⟩ := y
    have e := y xs ys xs[i] ys[i] q1 q2 (by simp [h1]) (by simp [h2])
    subst e
    exact hs i xs[i] ys[i] σ zs H2 t (by simp [h1]) (by simp [h2]) p ht (fun σ zs H => ∃ m', m' < min xs.length ys.length - i ∧ m' = min xs.length ys.length - (i + 1) ∧ i + 1 ≤ min xs.length ys.length ∧ Pv (i + 1) σ zs H) fun σ zs H z => ⟨_, by omega, rfl, hlt, z⟩
  · have e : i = min xs.length ys.length := by omega
    subst e
    exact .inl ⟨⟨xs, ys, q1, q2, by omega⟩, hd σ zs H2 p⟩
/-! what is never reached needs no rule -/
section
variable {X : Cx}
theorem ps_no {st : Stmt} : PS X st (fun _ _ _ => False) := fun _ _ _ _ _ _ h => h.elim
theorem pss_no {b : List Stmt} : PSs X b (fun _ _ _ => False) := fun _ _ _ _ _ _ h => h.elim
theorem pe_no {e : Expr} : PE X e (fun _ _ _ => False) := fun _ _ _ _ _ _ h => h.elim
end
theorem FnOk.no {P : Program} {w : World} {K : PySem.W.Frag} {mg : Str → Option Value} {base : Heap} {CX : CXT} {k : Nat} {f : Addr} {fd : FuncData} {ps : List Str} : FnOk P w K mg base CX k f fd ps (fun _ _ _ _ => False) :=
  ⟨fun _ _ _ _ h => h.elim, fun _ _ _ _ _ _ _ _ _ _ _ _ _ h => h.elim⟩
/-! != of two dicts whose keys are ints and texts, alike -/
section
variable {X : Cx}
def rNeDi (K : PySem.W.Frag) : R2 := fun x y H Q => ∃ (a b : Addr) (kvs lvs : List (Key × V)), x = .ref a ∧ y = .ref b ∧ H a = some (.dK kvs) ∧ H b = some (.dK lvs) ∧ kvs.length = lvs.length ∧
  (∀ kv ∈ kvs, ∃ v d, valV lvs kv.1 = some v ∧ DatAt K H kv.2 d ∧ DatAt K H v d ∧ d.hgt ≤ 30) ∧ Q (.bl false) H
theorem op_neDi (hu : X.A.units + 64 < cLine) : OpR X (compareOp .NotEq) (rNeDi X.K) := by
  intro pins s σ H x y u v Q I ru rv h
  obtain ⟨a, b, kvs, lvs, rfl, rfl, ea, eb, el, hit, q⟩ := h
  cases (show u = Value.ref a from ru)
  cases (show v = Value.ref b from rv)
  obtain ⟨z1, hd1, vs1, rel1, dd1⟩ := dk_of I.hok ea
  obtain ⟨z2, hd2, vs2, rel2, dd2⟩ := dk_of I.hok eb
  have l1 := rel1.length
  have l2 := rel2.length
  have hits : ∀ {ks : List (Key × V)} {us : List (Key × Value)}, KV ks us → (∀ kv ∈ ks, ∃ v d, valV lvs kv.1 = some v ∧ DatAt X.K H kv.2 d ∧ DatAt X.K H v d ∧ d.hgt ≤ 30) → PySem.W.KeqHits X.A.in1 s vs2 us true := by
    intro ks us r
    unfold KV at r
    induction r with
    | nil => exact fun _ => .nil
    | @cons p q ps qs hpq t ih =>
      intro hh
      obtain ⟨v, d, h1, h2, h3, h4⟩ := hh p (List.mem_cons_self ..)
      obtain ⟨w', hw, rw'⟩ := RelO.some_of (v := v) (o := valueAt vs2 p.1) (by rw [← h1]; exact rel2.val p.1)
      obtain ⟨q1, q2⟩ := q
      have e1 : p.1 = q1 := hpq.1
      subst e1
      have e := eqAt_dat I 30 X.A.in1 d d p.2 v q2 w' h4 (by show X.A.units + 1 + 30 < cLine; omega) h2 h3 hpq.2 rw'
      rw [Dt.beq_self] at e
      have := PySem.W.KeqHits.hit hw e (ih fun kv hkv => hh kv (List.mem_cons_of_mem _ hkv))
      exact this
  refine PySem.W.keq_ne hd1 hd2 dd1 dd2 (by omega) (fun _ => hits rel1 hit) ?_
  have ee : (!(vs1.length == vs2.length && true)) = false := by
    have : vs1.length = vs2.length := by omega
    simp [this]
  rw [ee]
  exact ⟨.bl false, H, I, rfl, q⟩
end
end L2
/-! ### own rules over the layer, 24: a def of a class named by its class; an own method of an instance of one of two classes; dict(d); == of lists of lists and of dicts -/
namespace L2
open PySem PySem.Spec PySem.W PyProof.Rows
section
variable {X : Cx} {CX : CXT} {k : Nat} {f C : Addr} {fd : FuncData} {ps : List Str} {sp : Sp} {dvs : List V} {ds : List Value} {E : XK} {x m : Str} {p pos apos : Pos} {e o : Expr} {es : List Expr} {ta : TE} {t : TA}
/-- what a def of a class is found by -/
structure ClsM (K : Frag) (C : Addr) (m : Str) (f : Addr) : Prop where
  ga : specialIn K (.ref C) "__getattribute__" = some (some (.builtin "type.__getattribute__"))
  rd : readsIn K C (.type "type") = true
  at_ : findCls K (.ref C) (.type "type") m = some (.val (.ref f))
  kp : keepIn K (.ref f) = true
/-- C.m(e, ..), C a class -/
theorem pe_clsM {pl : Sem Bool} (hg : Gl X x) (hm : X.mg x = some (.ref C)) (c : ClsM X.K C m f) (F : FnOk X.prog X.w X.K X.mg X.base CX k f fd ps sp) (hr : Room k X.A) (hb : Binds X.K fd ps ds) (hd : Vals dvs ds) (hx : Passes CX X E) (ha : PA X (e :: es) t)
    (hdb : (x == ("__debug__" : Str)) = false := by decide)
    (hst : starEach (e :: es) X.env = (false, eval e X.env) :: starEach es X.env := by rfl) (hpl : (backTo pos (starEach es X.env)).any (·.1) = false := by rfl)
    (ht : eval (.Call (.Attribute (.Name x p) m apos) (e :: es) [] pos) X.env = (do
      let ov ← eval (.Name x p) X.env
      standAt apos.atName
      let (f, first) ← holding [ov] (getMethod ov m pl)
      callWith pos f first (backTo pos (starEach (e :: es) X.env)) (backToKw pos (keywordEach [] X.env))) := by rfl) :
    PE X (.Call (.Attribute (.Name x p) m apos) (e :: es) [] pos) (tCall sp dvs E t) := by
  intro pins s σ H Q I h
  refine PySem.W.methodCall_KW (pl := pl) (ld_glob I hg hm ?_ hdb) ht
  refine method_cls I.kIn c.ga (cls_value I.kIn c.rd c.at_ rfl ?_)
  have I1 := I.tok (s.toks + 1)
  refine PySem.W.callWith_K (first := []) (h₀ := X.base) I.ok.mod.kin c.kp (thn (ha pos pins _ σ H _ I1 h) fun us s2 ⟨vs, H2, I2, r, q2⟩ => ⟨I2.kIn, ?_⟩) hst hpl
  exact run_fn F hr hb hd hx I2 r q2
/-- o.m(e, ..) of an instance of C or of C2 -/
def tMeth2 (C C2 : Addr) (m : Str) (sp sp2 : Sp) (E E2 : XK) (ta : TE) (t : TA) : TE := fun σ H Q => ta σ H fun x H1 => ∃ a dx fs, x = .ref a ∧ fs.lookup m = none ∧
  ((H1 a = some (.ins C dx fs) ∧ t σ H1 fun vs H2 => sp (x :: (vs ++ [])) H2 Q E) ∨ (H1 a = some (.ins C2 dx fs) ∧ t σ H1 fun vs H2 => sp2 (x :: (vs ++ [])) H2 Q E2))
theorem pe_meth2 {pl : Sem Bool} {C2 f2 : Addr} {fd2 : FuncData} {ps2 : List Str} {sp2 : Sp} {E2 : XK} {k2 : Nat} (he : PE X o ta) (c : Cls X.K C) (hm : Meth X.K C m f) (F : FnOk X.prog X.w X.K X.mg X.base CX k f fd ps sp) (hr : Room k X.A) (hb : Binds X.K fd ps []) (hx : Passes CX X E)
    (c2 : Cls X.K C2) (hm2 : Meth X.K C2 m f2) (F2 : FnOk X.prog X.w X.K X.mg X.base CX k2 f2 fd2 ps2 sp2) (hr2 : Room k2 X.A) (hb2 : Binds X.K fd2 ps2 []) (hx2 : Passes CX X E2) (ha : PA X (e :: es) t)
    (hst : starEach (e :: es) X.env = (false, eval e X.env) :: starEach es X.env := by rfl) (hpl : (backTo pos (starEach es X.env)).any (·.1) = false := by rfl)
    (ht : eval (.Call (.Attribute o m apos) (e :: es) [] pos) X.env = (do
      let ov ← eval o X.env
      standAt apos.atName
      let (f, first) ← holding [ov] (getMethod ov m pl)
      callWith pos f first (backTo pos (starEach (e :: es) X.env)) (backToKw pos (keywordEach [] X.env))) := by rfl) :
    PE X (.Call (.Attribute o m apos) (e :: es) [] pos) (tMeth2 C C2 m sp sp2 E E2 ta t) := by
  intro pins s σ H Q I h
  refine PySem.W.methodCall_KW (pl := pl) (thn (he pins s σ H _ I h) fun u s1 ⟨x, H1, I1, rx, a, dx, fs, ex, l, hh⟩ => ?_) ht
  subst ex
  obtain rfl : u = Value.ref a := rx
  rcases hh with ⟨ea, q⟩ | ⟨ea, q⟩
  · refine getmeth_ok I1 ea c hm l ?_
    refine PySem.W.callWith_K (first := [.ref a]) (h₀ := X.base) I.ok.mod.kin hm.kp (thn (ha pos pins s1 σ H1 _ I1 q) fun us s2 ⟨vs, H2, I2, r, q2⟩ => ⟨I2.kIn, ?_⟩) hst hpl
    exact run_fn (us := .ref a :: us) (vs := .ref a :: vs) F hr hb .nil hx I2 (.cons rfl r) q2
  · refine getmeth_ok I1 ea c2 hm2 l ?_
    refine PySem.W.callWith_K (first := [.ref a]) (h₀ := X.base) I.ok.mod.kin hm2.kp (thn (ha pos pins s1 σ H1 _ I1 q) fun us s2 ⟨vs, H2, I2, r, q2⟩ => ⟨I2.kIn, ?_⟩) hst hpl
    exact run_fn (us := .ref a :: us) (vs := .ref a :: vs) F2 hr2 hb2 .nil hx2 I2 (.cons rfl r) q2
/-- dict(d), a new one -/
theorem call_dictOf : CallR X (.type "dict") (fun xs H Q => ∃ a kvs, xs = [.ref a] ∧ H a = some (.dK kvs) ∧ ∀ q, H q = none → Q (.ref q) (upd H q (.dK kvs))) := by
  intro pins s σ H xs us Q I r h
  obtain ⟨a, kvs, rfl, ea, q⟩ := h
  obtain ⟨u, rfl, rx⟩ := vals1 r
  cases (show u = Value.ref a from rx)
  exact d_copyOf I (Rd.of ea) fun p s' hp I' => ⟨.ref p, _, I', rfl, q p hp⟩
end
section
variable {X : Cx}
/-- == of two lists of lists that are alike -/
def rEqLL (K : PySem.W.Frag) : R2 := fun x y H Q => ∃ a b ps qs, x = .ref a ∧ y = .ref b ∧ LLM K H a ps ∧ LLM K H b qs ∧ ps.map (·.2) = qs.map (·.2) ∧ (∀ p ∈ ps, Dt.hgts p.2 ≤ 30) ∧ Q (.bl true) H
theorem op_eqLL (hu : X.A.units + 64 < cLine) : OpR X (compareOp .Eq) (rEqLL X.K) := by
  intro pins s σ H x y u v Q I ru rv h
  obtain ⟨a, b, ps, qs, rfl, rfl, ha, hb, he, hh, q⟩ := h
  cases (show u = Value.ref a from ru)
  cases (show v = Value.ref b from rv)
  obtain ⟨its, r1, p1, _⟩ := I.list (SqL.of ha.at_)
  obtain ⟨its2, r2, p2, _⟩ := I.list (SqL.of hb.at_)
  have l1 := r1.length
  have l2 := r2.length
  have le := congrArg List.length he
  rw [List.length_map] at l1 l2
  rw [List.length_map, List.length_map] at le
  have hsz : its.toArray.size = its2.toArray.size := by
    rw [List.size_toArray, List.size_toArray]
    omega
  have r := SeqAt.RcAt.lists (A := X.A) (e := fun _ => true) p1.isList p2.isList hsz (by omega) fun j j1 j2 => by
    rw [List.size_toArray] at j1 j2
    have g1 : ps[j]? = some ps[j] := List.getElem?_eq_getElem (by omega)
    have g2 : qs[j]? = some qs[j] := List.getElem?_eq_getElem (by omega)
    obtain ⟨u, eu, ru⟩ := r1.get (i := j) (x := .ref ps[j].1) (by rw [List.getElem?_map, g1]; rfl)
    obtain ⟨v, ev, rv⟩ := r2.get (i := j) (x := .ref qs[j].1) (by rw [List.getElem?_map, g2]; rfl)
    have f1 : its.toArray[j] = Value.ref ps[j].1 := by
      have := (List.getElem?_eq_some_iff.mp eu).2
      rw [← show u = Value.ref ps[j].1 from ru]
      simpa using this
    have f2 : its2.toArray[j] = Value.ref qs[j].1 := by
      have := (List.getElem?_eq_some_iff.mp ev).2
      rw [← show v = Value.ref qs[j].1 from rv]
      simpa using this
    rw [f1, f2]
    have ed : qs[j].2 = ps[j].2 := by
      have z := congrArg (fun l => l[j]?) he
      simp only [List.getElem?_map, g1, g2] at z
      exact (Option.some.inj z).symm
    exact eqAt_lists I (by show X.A.units + 1 + 40 < cLine; omega) (ha.it _ (List.getElem_mem _)) (by rw [← ed]; exact hb.it _ (List.getElem_mem _)) (hh _ (List.getElem_mem _))
  have ea : (List.range its.toArray.size).all (fun _ => true) = true := by simp
  rw [ea] at r
  exact r _ _ _ _ (fin_bl I q rfl)
/-- == of two dicts that are alike -/
def rEqDi (K : PySem.W.Frag) : R2 := fun x y H Q => ∃ (a b : Addr) (kvs lvs : List (Key × V)), x = .ref a ∧ y = .ref b ∧ H a = some (.dK kvs) ∧ H b = some (.dK lvs) ∧ kvs.length = lvs.length ∧
  (∀ kv ∈ kvs, ∃ v d, valV lvs kv.1 = some v ∧ DatAt K H kv.2 d ∧ DatAt K H v d ∧ d.hgt ≤ 30) ∧ Q (.bl true) H
theorem op_eqDi (hu : X.A.units + 64 < cLine) : OpR X (compareOp .Eq) (rEqDi X.K) := by
  intro pins s σ H x y u v Q I ru rv h
  obtain ⟨a, b, kvs, lvs, rfl, rfl, ea, eb, el, hit, q⟩ := h
  cases (show u = Value.ref a from ru)
  cases (show v = Value.ref b from rv)
  obtain ⟨z1, hd1, vs1, rel1, dd1⟩ := dk_of I.hok ea
  obtain ⟨z2, hd2, vs2, rel2, dd2⟩ := dk_of I.hok eb
  have l1 := rel1.length
  have l2 := rel2.length
  have hits : ∀ {ks : List (Key × V)} {us : List (Key × Value)}, KV ks us → (∀ kv ∈ ks, ∃ v d, valV lvs kv.1 = some v ∧ DatAt X.K H kv.2 d ∧ DatAt X.K H v d ∧ d.hgt ≤ 30) → PySem.W.KeqHits X.A.in1 s vs2 us true := by
    intro ks us r
    unfold KV at r
    induction r with
    | nil => exact fun _ => .nil
    | @cons p q ps qs hpq t ih =>
      intro hh
      obtain ⟨v, d, h1, h2, h3, h4⟩ := hh p (List.mem_cons_self ..)
      obtain ⟨w', hw, rw'⟩ := RelO.some_of (v := v) (o := valueAt vs2 p.1) (by rw [← h1]; exact rel2.val p.1)
      obtain ⟨q1, q2⟩ := q
      have e1 : p.1 = q1 := hpq.1
      subst e1
      have e := eqAt_dat I 30 X.A.in1 d d p.2 v q2 w' h4 (by show X.A.units + 1 + 30 < cLine; omega) h2 h3 hpq.2 rw'
      rw [Dt.beq_self] at e
      have := PySem.W.KeqHits.hit hw e (ih fun kv hkv => hh kv (List.mem_cons_of_mem _ hkv))
      exact this
  refine PySem.W.keq_eq hd1 hd2 dd1 dd2 (by omega) (fun _ => hits rel1 hit) ?_
  have ee : (vs1.length == vs2.length && true) = true := by
    have : vs1.length = vs2.length := by omega
    simp [this]
  rw [ee]
  exact ⟨.bl true, H, I, rfl, q⟩
end
end L2
/-! ### own rules over the layer, 25: a comprehension that takes two cells of the frame around -/
namespace L2
open PySem PySem.Spec PySem.W PyProof.Rows
theorem caps2 {X : Cx} {scope : Scope} {Nc : List Str} {x y : Str} {c d : Addr} (i j i2 j2 : Nat) (ns : List (Str × NameKind)) (hrel : (relabel scope X.env).names = ns) (hclos : closureFor scope X.env = pure [(x, c), (y, d)]) (hk : scope.kind = .function)
    (hnc : ∀ z ∈ scope.names, z.2 ≠ .cell) (hnm : ∀ z ∈ scope.names, z.2 = .local → scope.names.lookup z.1 = some .local) (hcx : X.env.cells.lookup x = some c) (hcy : X.env.cells.lookup y = some d) (hii : i ≠ i2)
    (honly : ∀ z ∈ ns, z.2 = .cell ∨ z.2 = .free → z.1 = x ∨ z.1 = y) (hinx : ns.lookup x = some .cell) (hiny : ns.lookup y = some .cell) (hkx : X.env.kindOf x = some .cell) (hky : X.env.kindOf y = some .cell)
    (hNx : Nc[i]? = some x) (hNy : Nc[i2]? = some y) (hjx : X.N[j]? = some x) (hjy : X.N[j2]? = some y) :
    Caps X scope [(x, c), (y, d)] Nc (fun σ => ((List.replicate Nc.length none).set i (σ.getD j none)).set i2 (σ.getD j2 none)) where
  clos := hclos
  kind := hk
  nocell := hnc
  names := hnm
  cells := fun z e' e => by
    rw [List.lookup_cons] at e
    split at e
    · rename_i q
      have q' : z = x := by simpa using q
      cases e
      rw [q']
      exact hcx
    · rw [List.lookup_cons] at e
      split at e
      · rename_i q
        have q' : z = y := by simpa using q
        cases e
        rw [q']
        exact hcy
      · cases e
  has := fun z h => by
    rw [hrel] at h
    have e : z = x ∨ z = y := by
      rcases h with h | h
      · exact honly _ (PySem.mem_of_lookup h) (.inl rfl)
      · exact honly _ (PySem.mem_of_lookup h) (.inr rfl)
    rw [List.lookup_cons]
    split
    · exact ⟨c, rfl⟩
    · rename_i q
      have q' : z ≠ x := by simpa using q
      rcases e with e | e
      · exact absurd e q'
      · subst e
        exact ⟨d, by simp [List.lookup_cons]⟩
  len := fun σ => by simp
  cap := fun σ k z v e1 e2 _ => by
    have get : ∀ {q : Nat}, σ.getD q none = some v → σ[q]? = some (some v) := fun {q} e3 => by
      rw [List.getD_eq_getElem?_getD] at e3
      cases h : σ[q]? with
      | none => rw [h] at e3; cases e3
      | some o =>
        rw [h] at e3
        have e4 : o = some v := e3
        rw [e4]
    by_cases q2 : k = i2
    · subst q2
      rw [hNy] at e1
      cases e1
      have hlt : k < Nc.length := (List.getElem?_eq_some_iff.mp hNy).1
      rw [List.getElem?_set_self (by simpa using hlt)] at e2
      exact ⟨.inl (by rw [hrel]; exact hiny), .inl hky, j2, hjy, get (Option.some.inj e2), .inr (.inl hky)⟩
    · rw [List.getElem?_set_ne (Ne.symm q2)] at e2
      by_cases q : k = i
      · subst q
        rw [hNx] at e1
        cases e1
        have hlt : k < Nc.length := (List.getElem?_eq_some_iff.mp hNx).1
        rw [List.getElem?_set_self (by simpa using hlt)] at e2
        exact ⟨.inl (by rw [hrel]; exact hinx), .inl hkx, j, hjx, get (Option.some.inj e2), .inr (.inl hkx)⟩
      · rw [List.getElem?_set_ne (Ne.symm q), List.getElem?_replicate] at e2
        split at e2 <;> cases e2
end L2
namespace L2
open PySem PySem.Spec PySem.W PyProof.Rows
section
variable {X : Cx} {K : Frag}
theorem ix_listK (hK : X.K = K) : IxR X (rIxL K) := by
  subst hK
  exact ix_list
theorem call_len_seqK (hK : X.K = K) : CallR X (.builtin "len") (fun xs H Q => ∃ p ys, xs = [.ref p] ∧ (SqL K H p ys ∨ SqT K H p ys) ∧ Q (.int ys.length) H) := by
  subst hK
  exact call_len_seq
end
/-! all stays that is no empty list -/
def Cold (H H' : Hp) : Prop := ∀ b o, o ≠ .lst [] → H b = some o → H' b = some o
section
variable {K : Frag} {H H' H2 : Hp}
theorem Cold.refl : Cold H H := fun _ _ _ h => h
theorem Cold.then {a : Addr} (c : Cold H H') (ha : H a = some (.lst [])) (e : BtA a H' H2) : Cold H H2 := fun b o n h => e b o (fun z => by subst z; rw [ha] at h; cases h; exact n rfl) (c b o n h)
theorem Cold.same (c : Cold H H') (e : Same H' H2) : Cold H H2 := fun b o n h => e b o (c b o n h)
theorem Cold.tup {r : Addr} {vs : List V} (e : Cold H H') (h : SqT K H r vs) : SqT K H' r vs := by
  rcases h with (h | ⟨o, h⟩) | h
  · exact .inl (.inl (e _ _ (fun z => nomatch z) h))
  · exact .inl (.inr ⟨o, e _ _ (fun z => nomatch z) h⟩)
  · exact .inr h
mutual
theorem DatAt.cold (e : Cold H H') : ∀ {v : V} {d : Dt}, DatAt K H v d → DatAt K H' v d
  | v, .non, h => by simpa [DatAt] using h
  | v, .int i, h => by simpa [DatAt] using h
  | v, .str i, h => by simpa [DatAt] using h
  | v, .tup ds, h => by
    obtain ⟨r, vs, rfl, h1, h2⟩ := h.un
    exact .tup (e.tup h1) (DatsAt.cold e h2)
theorem DatsAt.cold (e : Cold H H') : ∀ {vs : List V} {ds : List Dt}, DatsAt K H vs ds → DatsAt K H' vs ds
  | vs, [], h => by
    rw [h.un0]
    exact .nil
  | vs, d :: ds, h => by
    obtain ⟨v, r, rfl, h1, h2⟩ := h.un
    exact .cons (DatAt.cold e h1) (DatsAt.cold e h2)
end
theorem LsM.cold {a : Addr} {ds : List Dt} (h : LsM K H a ds) (e : Cold H H') (n : ds ≠ []) : LsM K H' a ds := by
  obtain ⟨vs, h1, h2⟩ := h
  refine ⟨vs, e _ _ (fun z => ?_) h1, h2.cold e⟩
  cases z
  have := h2.length
  exact n (List.eq_nil_of_length_eq_zero this.symm)
theorem LLM.cold {a : Addr} {ps : List (Addr × List Dt)} (h : LLM K H a ps) (e : Cold H H') (n : ps ≠ []) (ni : ∀ p ∈ ps, p.2 ≠ []) : LLM K H' a ps :=
  ⟨e _ _ (fun z => n (List.map_eq_nil_iff.mp (by injection z))) h.at_, fun p hp => (h.it p hp).cold e (ni p hp), h.ne⟩
end
end L2
namespace K21
open PySem L2 FW PyProof.Rows
def top (i : Nat) : Stmt := PySem.Challenge.pw_flipwright_k21_hands_and_choices.main.body.getD i (.Pass ⟨0, 0, 0, 0⟩)
abbrev s_Hand_init : Stmt := inClass (top 4) 0
abbrev s_Hand_index_at : Stmt := inClass (top 4) 1
abbrev s_Hand_take : Stmt := inClass (top 4) 2
abbrev s_Listed_init : Stmt := inClass (top 5) 0
abbrev s_Listed_index_at : Stmt := inClass (top 5) 1
abbrev s_parts_of : Stmt := top 1
abbrev s_counted : Stmt := top 6
abbrev s_figured_op : Stmt := top 7
abbrev s_field_of : Stmt := top 8
abbrev s_figured : Stmt := top 9
abbrev s_told : Stmt := top 10
abbrev s_law_cell_at : Stmt := top 12
abbrev s_law_mix : Stmt := top 13
abbrev s_law_draws : Stmt := top 14
abbrev s_law_number : Stmt := top 15
abbrev s_law_alike : Stmt := top 16
abbrev s_law_case : Stmt := top 17
abbrev s_law : Stmt := top 18
theorem sc_Hand_init : FnScope ["self"] ["self"] (defScope s_Hand_init) := ⟨rfl, rfl, rfl, by decide +kernel, rfl, by decide +kernel, by decide +kernel⟩
theorem sc_Hand_index_at : FnScope ["self", "site", "draw"] ["self", "site", "draw"] (defScope s_Hand_index_at) := ⟨rfl, rfl, rfl, by decide +kernel, rfl, by decide +kernel, by decide +kernel⟩
theorem sc_Hand_take : FnScope ["self", "site", "draw", "index"] ["self", "site", "draw"] (defScope s_Hand_take) := ⟨rfl, rfl, rfl, by decide +kernel, rfl, by decide +kernel, by decide +kernel⟩
theorem sc_Listed_init : FnScope ["self", "choices"] ["self", "choices"] (defScope s_Listed_init) := ⟨rfl, rfl, rfl, by decide +kernel, rfl, by decide +kernel, by decide +kernel⟩
theorem sc_Listed_index_at : FnScope ["self", "site", "draw"] ["self", "site", "draw"] (defScope s_Listed_index_at) := ⟨rfl, rfl, rfl, by decide +kernel, rfl, by decide +kernel, by decide +kernel⟩
theorem sc_parts_of : FnScope ["term", "kind"] ["term"] (defScope s_parts_of) := ⟨rfl, rfl, rfl, by decide +kernel, rfl, by decide +kernel, by decide +kernel⟩
theorem sc_counted : FnScope ["outcome"] ["outcome"] (defScope s_counted) := ⟨rfl, rfl, rfl, by decide +kernel, rfl, by decide +kernel, by decide +kernel⟩
theorem sc_figured_op : FnScope ["sign", "one", "other", "first", "second"] ["sign", "one", "other"] (defScope s_figured_op) := ⟨rfl, rfl, rfl, by decide +kernel, rfl, by decide +kernel, by decide +kernel⟩
theorem sc_field_of : FnScope ["value", "name", "field", "number"] ["value", "name"] (defScope s_field_of) := ⟨rfl, rfl, rfl, by decide +kernel, rfl, by decide +kernel, by decide +kernel⟩
theorem sc_figured : FnScope ["term", "values", "kind"] ["term", "values"] (defScope s_figured) := ⟨rfl, rfl, rfl, by decide +kernel, rfl, by decide +kernel, by decide +kernel⟩
theorem sc_told : FnScope ["term", "held", "draws", "hand", "kind", "draw", "way", "inner_held", "values", "part"] ["term", "held", "draws", "hand"] (defScope s_told) := ⟨rfl, rfl, rfl, by decide +kernel, rfl, by decide +kernel, by decide +kernel⟩
theorem sc_law_cell_at : FnScope ["_law_script", "_law_k"] ["_law_script", "_law_k"] (defScope s_law_cell_at) := ⟨rfl, rfl, rfl, by decide +kernel, rfl, by decide +kernel, by decide +kernel⟩
theorem sc_law_mix : FnScope ["_law_cell", "_law_k", "_law_some"] ["_law_cell", "_law_k"] (defScope s_law_mix) := ⟨rfl, rfl, rfl, by decide +kernel, rfl, by decide +kernel, by decide +kernel⟩
theorem sc_law_draws : FnScope ["_law_cell", "_law_many", "_law_draws_here", "_law_k", "_law_some", "_law_step", "_law_draw", "_law_j", "_law_number_here"] ["_law_cell", "_law_many"] (defScope s_law_draws) := ⟨rfl, rfl, rfl, by decide +kernel, rfl, by decide +kernel, by decide +kernel⟩
theorem sc_law_number : FnScope ["_law_found", "_law_due"] ["_law_found", "_law_due"] (defScope s_law_number) := ⟨rfl, rfl, rfl, by decide +kernel, rfl, by decide +kernel, by decide +kernel⟩
theorem sc_law_alike : FnScope ["_law_found", "_law_due", "_law_k"] ["_law_found", "_law_due"] (defScope s_law_alike) := ⟨rfl, rfl, rfl, by decide +kernel, rfl, by decide +kernel, by decide +kernel⟩
theorem sc_law_case : FnScope ["_law_site", "_law_draws_here", "_law_chosen", "_law_cell", "_law_draw", "_law_number_here", "_law_term"] ["_law_site", "_law_draws_here", "_law_chosen", "_law_cell"] (defScope s_law_case) := ⟨rfl, rfl, rfl, by decide +kernel, rfl, by decide +kernel, by decide +kernel⟩
theorem sc_law : FnScope ["_law_script", "_law_many", "_law_draws_here", "_law_chosen", "_law_last", "_law_due", "_law_lists", "_law_hands", "_law_held", "_law_rows", "_law_handed", "_law_cell", "_law_site", "_law_who", "_law_term", "_law_value", "_law_asked", "_law_at"] ["_law_script"] (defScope s_law) := ⟨rfl, rfl, rfl, by decide +kernel, rfl, by decide +kernel, by decide +kernel⟩
structure Txt (K : PySem.W.Frag) (mg : Str → Option Value) (C C2 : Addr) (uR : Value) : Prop where
  cl : Cls K C
  cl2 : Cls K C2
  nT : NoAttr K C "taken"
  nT2 : NoAttr K C2 "taken"
  nC2 : NoAttr K C2 "choices"
  Hand_ : mg "Hand" = some (.ref C)
  Listed_ : mg "Listed" = some (.ref C2)
  ROUND : mg "ROUND" = some uR
  round : RelV (.int 1000000000000) uR
  isinstance_ : mg "isinstance" = none
  int_ : mg "int" = none
  bool_ : mg "bool" = none
  tuple_ : mg "tuple" = none
  len_ : mg "len" = none
  range_ : mg "range" = none
  list_ : mg "list" = none
  dict_ : mg "dict" = none
abbrev pI (p : Int × Int) : Dt := .tup [.int p.1, .int p.2]
/-- a hand: what it tells at i, and where its taken list stands -/
def HandAt (H : Hp) (C C2 hn tk : Addr) (M : Nat) (ix : Nat → Int) : Prop :=
  ∃ dx, (H hn = some (.ins C dx [("taken", .ref tk)]) ∧ ∀ i, ix i = 0) ∨
    ∃ ch, H hn = some (.ins C2 dx [("taken", .ref tk), ("choices", .ref ch)]) ∧ H ch = some (.lst ((List.range M).map fun i => V.int (ix i))) ∧ ch ≠ tk
theorem HandAt.but {H H' : Hp} {C C2 hn tk b : Addr} {M : Nat} {ix : Nat → Int} {xs : List V} (h : HandAt H C C2 hn tk M ix) (hb : H b = some (.lst xs)) (e : BtA b H H') (nb : ∀ dx ch, H hn = some (.ins C2 dx [("taken", .ref tk), ("choices", .ref ch)]) → ch ≠ b) : HandAt H' C C2 hn tk M ix := by
  obtain ⟨dx, ⟨h1, h2⟩ | ⟨ch, h1, h2, h3⟩⟩ := h
  · exact ⟨dx, .inl ⟨e _ _ (by intro z; subst z; rw [hb] at h1; cases h1) h1, h2⟩⟩
  · exact ⟨dx, .inr ⟨ch, e _ _ (by intro z; subst z; rw [hb] at h1; cases h1) h1, e _ _ (nb dx ch h1) h2, h3⟩⟩
theorem HandAt.same {H H' : Hp} {C C2 hn tk : Addr} {M : Nat} {ix : Nat → Int} (h : HandAt H C C2 hn tk M ix) (e : Same H H') : HandAt H' C C2 hn tk M ix := by
  obtain ⟨dx, ⟨h1, h2⟩ | ⟨ch, h1, h2, h3⟩⟩ := h
  · exact ⟨dx, .inl ⟨e _ _ h1, h2⟩⟩
  · exact ⟨dx, .inr ⟨ch, e _ _ h1, e _ _ h2, h3⟩⟩
/-- its own taken list may change -/
theorem HandAt.own {H H' : Hp} {C C2 hn tk : Addr} {M : Nat} {ix : Nat → Int} {xs : List V} (h : HandAt H C C2 hn tk M ix) (hb : H tk = some (.lst xs)) (e : BtA tk H H') : HandAt H' C C2 hn tk M ix := by
  obtain ⟨dx, ⟨h1, h2⟩ | ⟨ch, h1, h2, h3⟩⟩ := h
  · exact ⟨dx, .inl ⟨e _ _ (by intro z; subst z; rw [hb] at h1; cases h1) h1, h2⟩⟩
  · exact ⟨dx, .inr ⟨ch, e _ _ (by intro z; subst z; rw [hb] at h1; cases h1) h1, e _ _ h3 h2, h3⟩⟩
abbrev Dw := List (List (Int × Int))
/-- what a term tells and which draws it asks: dd the draws, ix the hand's indexes, e what is held -/
inductive Te (dd : Dw) (ix : Nat → Int) : Nat → List (Key × V) → Dt → Int → List Nat → Prop
  | num {h : Nat} {e : List (Key × V)} (n : Int) : Te dd ix (h + 1) e (.tup [.str "num", .int n]) n []
  | slot {h : Nat} {e : List (Key × V)} (k n : Int) (hv : valV e (Sum.inl k) = some (.int n)) : Te dd ix (h + 1) e (.tup [.str "slot", .int k]) n []
  | draw {h : Nat} {e : List (Key × V)} (i j : Nat) (d : List (Int × Int)) (p : Int × Int) (hd : dd[i]? = some d) (hi : ix i = (j : Int)) (hp : d[j]? = some p) : Te dd ix (h + 1) e (.tup [.str "draw", .int i]) p.1 [i]
  | ifT {h : Nat} {e : List (Key × V)} (c x y : Dt) (m n : Int) (a b : List Nat) (hc : Te dd ix h e c m a) (hm : m ≠ 0) (hx : Te dd ix h e x n b) : Te dd ix (h + 1) e (.tup [.str "if", c, x, y]) n (a ++ b)
  | ifF {h : Nat} {e : List (Key × V)} (c x y : Dt) (m n : Int) (a b : List Nat) (hc : Te dd ix h e c m a) (hm : m = 0) (hx : Te dd ix h e y n b) : Te dd ix (h + 1) e (.tup [.str "if", c, x, y]) n (a ++ b)
  | bind {h : Nat} {e : List (Key × V)} (k : Int) (x y : Dt) (m n : Int) (a b : List Nat) (hl : e.length < 1000) (hx : Te dd ix h e x m a) (hy : Te dd ix h (putK e (Sum.inl k) (.int m)) y n b) : Te dd ix (h + 1) e (.tup [.str "bind", .int k, x, y]) n (a ++ b)
  | add {h : Nat} {e : List (Key × V)} (x y : Dt) (m n : Int) (a b : List Nat) (hx : Te dd ix h e x m a) (hy : Te dd ix h e y n b) : Te dd ix (h + 1) e (.tup [.str "op", .str "+", x, y]) ((m + n) % 1000000000000) (a ++ b)
def asks (ix : Nat → Int) (l : List Nat) : List Dt := l.map fun (i : Nat) => pI ((i : Int), ix i)
theorem asks_app (ix : Nat → Int) (a b : List Nat) : asks ix (a ++ b) = asks ix a ++ asks ix b := List.map_append ..
def sp_index1 : Sp := fun vs H Q _ => ∃ a b c, vs = [a, b, c] ∧ Q (.int 0) H
def sp_index2 (C2 : Addr) : Sp := fun vs H Q _ => ∃ p i c dx tk ch xs z, vs = [.ref p, .int i, c] ∧ H p = some (.ins C2 dx [("taken", .ref tk), ("choices", .ref ch)]) ∧ H ch = some (.lst xs) ∧ atI xs i = some (.int z) ∧ Q (.int z) H
def sp_take (K : PySem.W.Frag) (C C2 : Addr) : Sp := fun vs H Q _ => ∃ (hn tk : Addr) (i : Nat) (M : Nat) (ix : Nat → Int) (d : V) (rows : List Dt), vs = [.ref hn, .int i, d] ∧ HandAt H C C2 hn tk M ix ∧ i < M ∧ LsM K H tk rows ∧ rows.length ≤ 10000 ∧
  ∀ H', BtA tk H H' → LsM K H' tk (rows ++ [pI ((i : Int), ix i)]) → Q (.int (ix i)) H'
def sp_init (C : Addr) : Sp := fun vs H Q _ => ∃ p dx, vs = [.ref p] ∧ H p = some (.ins C dx []) ∧ ∀ tk, H tk = none → Q .non (upd (upd H tk (.lst [])) p (.ins C dx [("taken", .ref tk)]))
def sp_init2 (K : PySem.W.Frag) (C2 : Addr) : Sp := fun vs H Q _ => ∃ p dx l xs, vs = [.ref p, .ref l] ∧ H p = some (.ins C2 dx []) ∧ H l = some (.lst xs) ∧
  ∀ tk ch H', BtA p H H' → H tk = none → H ch = none → ch ≠ tk → H' p = some (.ins C2 dx [("taken", .ref tk), ("choices", .ref ch)]) → H' tk = some (.lst []) → H' ch = some (.lst xs) → Q .non H'
def sp_counted : Sp := fun vs H Q _ => ∃ n : Int, vs = [.int n] ∧ Q (.int n) H
def sp_op : Sp := fun vs H Q _ => ∃ a b : Int, vs = [.str "+", .int a, .int b] ∧ Q (.int ((a + b) % 1000000000000)) H
def sp_figured (K : PySem.W.Frag) : Sp := fun vs H Q _ => ∃ v l x y, ∃ a b : Int, vs = [v, .ref l] ∧ DatAt K H v (.tup [.str "op", .str "+", x, y]) ∧ H l = some (.lst [.int a, .int b]) ∧ Q (.int ((a + b) % 1000000000000)) H
def sp_parts (K : PySem.W.Frag) : Sp := fun vs H Q _ => ∃ v x y, vs = [v] ∧ DatAt K H v (.tup [.str "op", .str "+", x, y]) ∧ ∀ D H', Same H H' → H D = none → LsM K H' D [x, y] → Q (.ref D) H'
def sp_told (K : PySem.W.Frag) (C C2 : Addr) (h : Nat) : Sp := fun vs H Q _ => ∃ (v : V) (hd dr hn tk : Addr) (M : Nat) (ix : Nat → Int) (dd : Dw) (ps : List (Addr × List Dt)) (e : List (Key × V)) (t : Dt) (n : Int) (as : List Nat) (rows : List Dt),
  vs = [v, .ref hd, .ref dr, .ref hn] ∧ DatAt K H v t ∧ H hd = some (.dK e) ∧ LLM K H dr ps ∧ ps.map (·.2) = dd.map (fun d => d.map pI) ∧ (∀ p ∈ ps, p.1 ≠ tk) ∧ dr ≠ tk ∧ dd.length = M ∧ HandAt H C C2 hn tk M ix ∧ LsM K H tk rows ∧ rows.length + as.length ≤ 1000 ∧ Te dd ix h e t n as ∧
  ∀ H', BtA tk H H' → LsM K H' tk (rows ++ asks ix as) → Q (.int n) H'
section
variable {P : Program} {w : World} {K : PySem.W.Frag} {mg : Str → Option Value} {base : Heap} {C C2 : Addr} {uR : Value}
theorem t3 : 3 ≤ sizeLine := by decide
theorem t1 : 1 ≤ sizeLine := by decide
theorem kit_ii : PySem.W.kitOne K (.type "int") (.type "int") = some true := by rfl
theorem dats4 {H : Hp} {vs : List V} {d e f g : Dt} (h : DatsAt K H vs [d, e, f, g]) : ∃ x y z u, vs = [x, y, z, u] ∧ DatAt K H x d ∧ DatAt K H y e ∧ DatAt K H z f ∧ DatAt K H u g := by
  obtain ⟨x, r, rfl, h1, h2⟩ := h.un
  obtain ⟨y, r, rfl, h3, h4⟩ := h2.un
  obtain ⟨z, u, rfl, h5, h6⟩ := h4.two
  exact ⟨x, y, z, u, rfl, h1, h3, h5, h6⟩
theorem ok_index1 {f : Addr} {fd : FuncData} (F : Fun K "index_at" "Hand.index_at" s_Hand_index_at f fd) : FnOk P w K mg base CX0 1 f fd ["self", "site", "draw"] sp_index1 := by
  refine F.ok sc_Hand_index_at (fun vs H Q E h => ?_) (fun cdv Ar outer s H vs Q E hr h => ?_)
  · obtain ⟨a, b, c, rfl, _⟩ := h
    rfl
  · obtain ⟨a, b, c, rfl, k⟩ := h
    refine ⟨_, (pss_one (ps_ret pe_int)), ?_⟩
    exact k
theorem ok_index2 {f : Addr} {fd : FuncData} (F : Fun K "index_at" "Listed.index_at" s_Listed_index_at f fd) (T : Txt K mg C C2 uR) : FnOk P w K mg base CX0 1 f fd ["self", "site", "draw"] (sp_index2 C2) := by
  refine F.ok sc_Listed_index_at (fun vs H Q E h => ?_) (fun cdv Ar outer s H vs Q E hr h => ?_)
  · obtain ⟨p, i, c, dx, tk, ch, xs, z, rfl, _⟩ := h
    rfl
  · obtain ⟨p, i, c, dx, tk, ch, xs, z, rfl, hp, hc, hz, k⟩ := h
    refine ⟨_, (pss_one (ps_ret (pe_ix ix_list (pe_fld (pv 0) rfl) (pv 1) (fun _ _ => rfl)))), ?_⟩
    exact ⟨_, rfl, p, C2, dx, _, .ref ch, rfl, hp, T.cl2, T.nC2, rfl, _, rfl, ch, xs, i, .int z, rfl, rfl, SqL.of hc, hz, k⟩
theorem ok_take {f f1 f2 : Addr} {fd d1 d2 : FuncData} (F : Fun K "take" "Hand.take" s_Hand_take f fd) (M_index1 : Meth K C "index_at" f1) (F1 : Fun K "index_at" "Hand.index_at" s_Hand_index_at f1 d1) (b_index1 : Binds K d1 ["self", "site", "draw"] [])
    (M_index2 : Meth K C2 "index_at" f2) (F2 : Fun K "index_at" "Listed.index_at" s_Listed_index_at f2 d2) (b_index2 : Binds K d2 ["self", "site", "draw"] []) (T : Txt K mg C C2 uR) : FnOk P w K mg base CX0 2 f fd ["self", "site", "draw"] (sp_take K C C2) := by
  have G_index1 : FnOk P w K mg base CX0 1 f1 d1 ["self", "site", "draw"] sp_index1 := ok_index1 F1
  have G_index2 : FnOk P w K mg base CX0 1 f2 d2 ["self", "site", "draw"] (sp_index2 C2) := ok_index2 F2 T
  refine F.ok sc_Hand_take (fun vs H Q E h => ?_) (fun cdv Ar outer s H vs Q E hr h => ?_)
  · obtain ⟨hn, tk, i, M, ix, d, rows, rfl, _⟩ := h
    rfl
  · obtain ⟨hn, tk, i, M, ix, d, rows, rfl, hh, hi, ⟨us, et, du⟩, lr, k⟩ := h
    refine ⟨_, (pss_cons (ps_set (i := 3) sc_Hand_take.nd rfl (Or.inl rfl) (pe_meth2 (pv 0) T.cl M_index1 G_index1 (hr.mono (by decide)) b_index1 pass0 T.cl2 M_index2 G_index2 (hr.mono (by decide)) b_index2 pass0 (pa_cons (pv 1) (pa_cons (pv 2) pa_nil))))
      (pss_cons (ps_expr (pe_bm PySem.F.plainAttrs_list PySem.F.slot_list_append PySem.F.type_list_append mt_append (pe_fld (pv 0) rfl) (pa_cons (pe_tup (pa_cons (pv 1) (pa_cons (pv 3) pa_nil))) pa_nil)))
      (pss_one (ps_ret (pv 3))))), ?_⟩
    have lu := du.length
    have fin : ∀ (t : Addr), H t = none → LsM K (upd (upd H t (.tup [.int i, .int (ix i)])) tk (.lst (us ++ [.ref t]))) tk (rows ++ [pI ((i : Int), ix i)]) ∧ BtA tk H (upd (upd H t (.tup [.int i, .int (ix i)])) tk (.lst (us ++ [.ref t]))) := fun t ht => by
      have S := Same.upd (o := .tup [.int i, .int (ix i)]) ht
      refine ⟨⟨_, upd_same, ?_⟩, (BtA.of S).trans .upd⟩
      exact ((du.same S).append (.cons (.tup (SqT.of upd_same) (.cons (.int _) (.cons (.int _) .nil))) .nil)).but (.lst (S _ _ et)) .upd
    have lt : us.length < sizeLine := Nat.lt_of_le_of_lt (show us.length ≤ 10000 by omega) (by decide)
    obtain ⟨dx, ⟨h1, h2⟩ | ⟨ch, h1, h2, h3⟩⟩ := hh
    · have z0 := h2 i
      rw [z0] at fin k
      refine ⟨_, rfl, hn, dx, _, rfl, rfl, .inl ⟨h1, _, rfl, _, rfl, _, _, _, rfl, ?_⟩⟩
      refine ⟨_, rfl, hn, C, dx, _, .ref tk, rfl, h1, T.cl, T.nT, rfl, .inl ⟨rfl, _, SqL.of et⟩, _, rfl, _, rfl, two_le, fun t ht => ?_⟩
      obtain ⟨q1, q2⟩ := fin t ht
      exact ⟨tk, us, _, rfl, rfl, Same.upd ht _ _ et, lt, _, rfl, k _ q2 q1⟩
    · refine ⟨_, rfl, hn, dx, _, rfl, rfl, .inr ⟨h1, _, rfl, _, rfl, hn, i, _, dx, tk, ch, _, ix i, rfl, h1, h2, ?_, ?_⟩⟩
      · exact atI_nat (by rw [List.getElem?_map, List.getElem?_range hi]; rfl)
      refine ⟨_, rfl, hn, C2, dx, _, .ref tk, rfl, h1, T.cl2, T.nT2, rfl, .inl ⟨rfl, _, SqL.of et⟩, _, rfl, _, rfl, two_le, fun t ht => ?_⟩
      obtain ⟨q1, q2⟩ := fin t ht
      exact ⟨tk, us, _, rfl, rfl, Same.upd ht _ _ et, lt, _, rfl, k _ q2 q1⟩
theorem ok_init {Cx : Addr} {f : Addr} {fd : FuncData} (F : Fun K "__init__" "Hand.__init__" s_Hand_init f fd) (cl : Cls K Cx) (nT : NoAttr K Cx "taken") : FnOk P w K mg base CX0 1 f fd ["self"] (sp_init Cx) := by
  refine F.ok sc_Hand_init (fun vs H Q E h => ?_) (fun cdv Ar outer s H vs Q E hr h => ?_)
  · obtain ⟨p, dx, rfl, _⟩ := h
    rfl
  · obtain ⟨p, dx, rfl, hp, k⟩ := h
    refine ⟨_, (pss_one (ps_fld (pv 0) (pe_lst pa_nil) rfl)), ?_⟩
    refine ⟨Nat.zero_le _, fun D hD => ?_⟩
    have npD : p ≠ D := ne_of_none hp hD
    exact ⟨_, rfl, p, Cx, dx, [], rfl, (by rw [upd_ne npD]; exact hp), cl, nT, (by show 0 < 1000; decide), k D hD⟩
theorem ok_init2 {f f1 : Addr} {fd d1 : FuncData} (F : Fun K "__init__" "Listed.__init__" s_Listed_init f fd) (CM : ClsM K C "__init__" f1) (F1 : Fun K "__init__" "Hand.__init__" s_Hand_init f1 d1) (b_Hand_init : Binds K d1 ["self"] []) (T : Txt K mg C C2 uR) : FnOk P w K mg base CX0 2 f fd ["self", "choices"] (sp_init2 K C2) := by
  have G_Hand_init : FnOk P w K mg base CX0 1 f1 d1 ["self"] (sp_init C2) := ok_init F1 T.cl2 T.nT2
  refine F.ok sc_Listed_init (fun vs H Q E h => ?_) (fun cdv Ar outer s H vs Q E hr h => ?_)
  · obtain ⟨p, dx, l, xs, rfl, _⟩ := h
    rfl
  · obtain ⟨p, dx, l, xs, rfl, hp, hl, k⟩ := h
    refine ⟨_, (pss_cons (ps_expr (pe_clsM rfl T.Hand_ CM G_Hand_init (hr.mono (by decide)) b_Hand_init .nil pass0 (pa_cons (pv 0) pa_nil)))
      (pss_one (ps_fld (pv 0) (pe_callTy call_list_of (by rfl) T.list_ Boot.«list» (pa_cons (pv 1) pa_nil)) rfl))), ?_⟩
    refine ⟨_, rfl, p, dx, rfl, hp, fun tk htk => ?_⟩
    have npt : p ≠ tk := ne_of_none hp htk
    have npl : p ≠ l := by
      intro z
      subst z
      rw [hp] at hl
      cases hl
    have ntl : l ≠ tk := ne_of_none hl htk
    have e1 : (upd (upd H tk (.lst [])) p (.ins C2 dx [("taken", .ref tk)])) p = some (.ins C2 dx [("taken", .ref tk)]) := upd_same
    have e2 : (upd (upd H tk (.lst [])) p (.ins C2 dx [("taken", .ref tk)])) tk = some (.lst []) := by rw [upd_ne npt.symm, upd_same]
    have e3 : (upd (upd H tk (.lst [])) p (.ins C2 dx [("taken", .ref tk)])) l = some (.lst xs) := by rw [upd_ne npl.symm, upd_ne ntl]; exact hl
    have B : BtA p H (upd (upd H tk (.lst [])) p (.ins C2 dx [("taken", .ref tk)])) := (BtA.updF htk).trans .upd
    have fr : ∀ ch, (upd (upd H tk (.lst [])) p (.ins C2 dx [("taken", .ref tk)])) ch = none → H ch = none := fun ch h => by
      by_cases z : ch = p
      · subst z; rw [e1] at h; cases h
      · rw [upd_ne z] at h
        by_cases z2 : ch = tk
        · subst z2; rw [upd_same] at h; cases h
        · rw [upd_ne z2] at h; exact h
    generalize upd (upd H tk (.lst [])) p (.ins C2 dx [("taken", .ref tk)]) = H1 at e1 e2 e3 B fr
    refine ⟨_, rfl, l, xs, rfl, .inl (SqL.of e3), fun ch hch => ?_⟩
    have npc : p ≠ ch := ne_of_none e1 hch
    have ntc : tk ≠ ch := ne_of_none e2 hch
    refine ⟨_, rfl, p, C2, dx, _, rfl, by rw [upd_ne npc]; exact e1, T.cl2, T.nC2, (by show 1 < 1000; decide), ?_⟩
    exact k tk ch _ ((B.trans (BtA.updF hch)).trans .upd) htk (fr ch hch) ntc.symm upd_same (by rw [upd_ne npt.symm, upd_ne ntc]; exact e2) (by rw [upd_ne npc.symm, upd_same])
theorem ok_counted {f : Addr} {fd : FuncData} (A : FnAt K mg "counted" s_counted ["outcome"] f fd) (T : Txt K mg C C2 uR) : FnOk P w K mg base CX0 1 f fd ["outcome"] sp_counted := by
  refine A.F.ok sc_counted (fun vs H Q E h => ?_) (fun cdv Ar outer s H vs Q E hr h => ?_)
  · obtain ⟨n, rfl, _⟩ := h
    rfl
  · obtain ⟨n, rfl, k⟩ := h
    refine ⟨_, (pss_cons (ps_if (pt_val (pe_callB call_isi (by rfl) T.isinstance_ Boot.«isinstance» (pa_cons (pv 0) (pa_cons (pe_bltn rfl T.int_ Boot.«int» (v := .ty "int") rfl) pa_nil)))) (pss_one (ps_ret (pv 0))) pss_nil)
      (pss_one (ps_ret pe_int))), ?_⟩
    exact ⟨_, rfl, _, _, _, _, rfl, .int n, kit_ii, _, rfl, iteT ⟨_, rfl, k⟩⟩
theorem ok_figured_op {f fC : Addr} {fd fdC : FuncData} (A : FnAt K mg "figured_op" s_figured_op ["sign", "one", "other"] f fd) (A_counted : FnAt K mg "counted" s_counted ["outcome"] fC fdC) (T : Txt K mg C C2 uR) : FnOk P w K mg base CX0 2 f fd ["sign", "one", "other"] sp_op := by
  have G_counted : FnOk P w K mg base CX0 1 fC fdC _ sp_counted := ok_counted A_counted T
  refine A.F.ok sc_figured_op (fun vs H Q E h => ?_) (fun cdv Ar outer s H vs Q E hr h => ?_)
  · obtain ⟨a, b, rfl, _⟩ := h
    rfl
  · obtain ⟨a, b, rfl, k⟩ := h
    refine ⟨_, (pss_cons (ps_if (pt_cmpR op_eq (pv 0) pe_str (nomark _)) pss_no pss_nil)
      (pss_cons (ps_set (i := 3) sc_figured_op.nd rfl (Or.inl rfl) (pe_call G_counted (hr.mono (by decide)) rfl A_counted.m A_counted.F.kp A_counted.b .nil pass0 (pa_cons (pv 1) pa_nil)))
      (pss_cons (ps_set (i := 4) sc_figured_op.nd rfl (Or.inl rfl) (pe_call G_counted (hr.mono (by decide)) rfl A_counted.m A_counted.F.kp A_counted.b .nil pass0 (pa_cons (pv 2) pa_nil)))
      (pss_cons (ps_if (pt_cmpR op_eq (pv 0) pe_str (nomark _)) pss_no pss_nil)
      (pss_cons (ps_if (pt_cmpR op_eq (pv 0) pe_str (nomark _)) (pss_one (ps_ret (pe_op op_mod (pe_op op_add (pv 3) (pv 4)) (pe_glob rfl T.ROUND (v := .int 1000000000000) T.round)))) pss_nil)
      (pss_cons (ps_if (pt_cmpR op_eq (pv 0) pe_str (nomark _)) pss_no pss_nil)
      pss_no)))))), ?_⟩
    refine ⟨_, rfl, rfl, _, rfl, iteBB (fun hc => absurd hc (by decide +kernel)) (fun _ => ?_)⟩
    refine ⟨_, rfl, a, rfl, ?_⟩
    refine ⟨_, rfl, b, rfl, ?_⟩
    refine ⟨_, rfl, rfl, _, rfl, iteBB (fun hc => absurd hc (by decide +kernel)) (fun _ => ?_)⟩
    refine ⟨_, rfl, rfl, _, rfl, iteBB (fun _ => ?_) (fun hc => absurd hc (by decide +kernel))⟩
    exact ⟨_, rfl, _, rfl, _, _, rfl, rfl, _, _, rfl, rfl, (by show (0 : Int) < 1000000000000; decide), k⟩
theorem ok_figured {f fO fC : Addr} {fd fdO fdC : FuncData} (A : FnAt K mg "figured" s_figured ["term", "values"] f fd) (A_figured_op : FnAt K mg "figured_op" s_figured_op ["sign", "one", "other"] fO fdO) (A_counted : FnAt K mg "counted" s_counted ["outcome"] fC fdC) (T : Txt K mg C C2 uR) :
    FnOk P w K mg base CX0 3 f fd ["term", "values"] (sp_figured K) := by
  have G_figured_op : FnOk P w K mg base CX0 2 fO fdO _ sp_op := ok_figured_op A_figured_op A_counted T
  refine A.F.ok sc_figured (fun vs H Q E h => ?_) (fun cdv Ar outer s H vs Q E hr h => ?_)
  · obtain ⟨v, l, x, y, a, b, rfl, _⟩ := h
    rfl
  · obtain ⟨v, l, x, y, a, b, rfl, hv, el, k⟩ := h
    refine ⟨_, (pss_cons (ps_set (i := 2) sc_figured.nd rfl (Or.inl rfl) (pe_ix ix_tup (pv 0) pe_int (fun _ _ => rfl)))
      (pss_cons (ps_if (pt_cmpR op_eq (pv 2) pe_str (nomark _)) (pss_one (ps_ret (pe_call G_figured_op (hr.mono (by decide)) rfl A_figured_op.m A_figured_op.F.kp A_figured_op.b .nil pass0 (pa_cons (pe_ix ix_tup (pv 0) pe_int (fun _ _ => rfl)) (pa_cons (pe_ix ix_list (pv 1) pe_int (fun _ _ => rfl)) (pa_cons (pe_ix ix_list (pv 1) pe_int (fun _ _ => rfl)) pa_nil)))))) pss_nil)
      (pss_cons (ps_if (pt_cmpR op_eq (pv 2) pe_str (nomark _)) pss_no pss_nil)
      (pss_cons (ps_if (pt_cmpR op_eq (pv 2) pe_str (nomark _)) pss_no pss_nil)
      pss_no)))), ?_⟩
    obtain ⟨r, vs, rfl, sv, dv⟩ := hv.un
    obtain ⟨v0, v1, v2, v3, rfl, h0, h1, h2, h3⟩ := dats4 dv
    rw [h0.str_eq, h1.str_eq] at sv
    refine ⟨_, rfl, r, _, 0, .str "op", rfl, rfl, sv, rfl, ?_⟩
    refine ⟨_, rfl, rfl, _, rfl, iteBB (fun _ => ?_) (fun hc => absurd hc (by decide +kernel))⟩
    exact ⟨_, rfl, r, _, 1, .str "+", rfl, rfl, sv, rfl, _, rfl, l, _, 0, .int a, rfl, rfl, SqL.of el, rfl, _, rfl, l, _, 1, .int b, rfl, rfl, SqL.of el, rfl, a, b, rfl, k⟩
theorem ok_parts_of {f : Addr} {fd : FuncData} (A : FnAt K mg "parts_of" s_parts_of ["term"] f fd) : FnOk P w K mg base CX0 1 f fd ["term"] (sp_parts K) := by
  refine A.F.ok sc_parts_of (fun vs H Q E h => ?_) (fun cdv Ar outer s H vs Q E hr h => ?_)
  · obtain ⟨v, x, y, rfl, _⟩ := h
    rfl
  · obtain ⟨v, x, y, rfl, hv, k⟩ := h
    refine ⟨_, (pss_cons (ps_set (i := 1) sc_parts_of.nd rfl (Or.inl rfl) (pe_ix ix_tup (pv 0) pe_int (fun _ _ => rfl)))
      (pss_cons (ps_if (pt_cmpR op_eq (pv 1) pe_str (nomark _)) pss_no pss_nil)
      (pss_cons (ps_if (pt_cmpR op_in_seq (pv 1) (pe_tup (pa_cons pe_str (pa_cons pe_str pa_nil))) (by rfl)) (pss_one (ps_ret (pe_lst (pa_cons (pe_ix ix_tup (pv 0) pe_int (fun _ _ => rfl)) (pa_cons (pe_ix ix_tup (pv 0) pe_int (fun _ _ => rfl)) pa_nil))))) pss_nil)
      (pss_cons (ps_if (pt_cmpR op_in_seq (pv 1) (pe_tup (pa_cons pe_str (pa_cons pe_str pa_nil))) (by rfl)) pss_no pss_nil)
      (pss_cons (ps_if (pt_cmpR op_eq (pv 1) pe_str (nomark _)) pss_no pss_nil)
      (pss_cons (ps_if (pt_cmpR op_eq (pv 1) pe_str (nomark _)) pss_no pss_nil)
      pss_no)))))), ?_⟩
    obtain ⟨r, vs, rfl, sv, dv⟩ := hv.un
    obtain ⟨v0, v1, v2, v3, rfl, h0, h1, h2, h3⟩ := dats4 dv
    rw [h0.str_eq] at sv
    refine ⟨_, rfl, r, _, 0, .str "op", rfl, rfl, sv, rfl, ?_⟩
    refine ⟨_, rfl, rfl, _, rfl, iteBB (fun hc => absurd hc (by decide +kernel)) (fun _ => ?_)⟩
    refine ⟨_, rfl, two_le, fun q hq => ⟨q, _, rfl, .inr (SqT.of upd_same), rfl, rfl, _, rfl, iteBB (fun _ => ?_) (fun hc => absurd hc (by decide +kernel))⟩⟩
    have S1 := Same.upd (o := .tup [.str "op", .str "bind"]) hq
    have sv := S1.tup sv
    have h2 := h2.same S1
    have h3 := h3.same S1
    refine ⟨_, rfl, r, _, 2, v2, rfl, rfl, sv, rfl, _, rfl, r, _, 3, v3, rfl, rfl, sv, rfl, two_le, fun D hD => ?_⟩
    have S2 := Same.upd (o := .lst [v2, v3]) hD
    exact k D _ (S1.trans S2) (S1.free hD) ⟨_, upd_same, .cons (h2.same S2) (.cons (h3.same S2) .nil)⟩
end
end K21
namespace K21
open PySem L2 FW PyProof.Rows
section
variable {P : Program} {w : World} {K : PySem.W.Frag} {mg : Str → Option Value} {base : Heap} {C C2 : Addr} {uR : Value}
theorem adv {H H' : Hp} {hd dr hn tk : Addr} {M : Nat} {ix : Nat → Int} {ps : List (Addr × List Dt)} {e : List (Key × V)} {us : List V} (et : H tk = some (.lst us)) (eh : H hd = some (.dK e)) (ll : LLM K H dr ps) (np : ∀ p ∈ ps, p.1 ≠ tk) (nd : dr ≠ tk) (hh : HandAt H C C2 hn tk M ix) (B : BtA tk H H') :
    H' hd = some (.dK e) ∧ LLM K H' dr ps ∧ HandAt H' C C2 hn tk M ix :=
  ⟨B _ _ (by intro z; subst z; rw [et] at eh; cases eh) eh, ll.but (.lst et) B nd np, hh.own et B⟩
theorem HandAt.butD {H H' : Hp} {hn tk q : Addr} {M : Nat} {ix : Nat → Int} {e : List (Key × V)} (h : HandAt H C C2 hn tk M ix) (hq : H q = some (.dK e)) (B : BtA q H H') : HandAt H' C C2 hn tk M ix := by
  obtain ⟨dx, ⟨h1, h2⟩ | ⟨ch, h1, h2, h3⟩⟩ := h
  · exact ⟨dx, .inl ⟨B _ _ (by intro z; subst z; rw [hq] at h1; cases h1) h1, h2⟩⟩
  · exact ⟨dx, .inr ⟨ch, B _ _ (by intro z; subst z; rw [hq] at h1; cases h1) h1, B _ _ (by intro z; subst z; rw [hq] at h2; cases h2) h2, h3⟩⟩
theorem ne_dl {H : Hp} {q b : Addr} {e : List (Key × V)} {us : List V} (hq : H q = some (.dK e)) (hb : H b = some (.lst us)) : b ≠ q := by
  intro z
  subst z
  rw [hq] at hb
  cases hb
theorem NT.dK {H : Hp} {q : Addr} {e : List (Key × V)} (h : H q = some (.dK e)) : NT H q := fun o e => by
  rw [h] at e
  cases e
  exact ⟨(fun _ z => nomatch z), (fun _ _ z => nomatch z)⟩
theorem LLM.butD {H H' : Hp} {dr q : Addr} {ps : List (Addr × List Dt)} {e : List (Key × V)} (h : LLM K H dr ps) (hq : H q = some (.dK e)) (B : BtA q H H') : LLM K H' dr ps :=
  h.but (NT.dK hq) B (ne_dl hq h.at_) fun p hp => let ⟨_, e, _⟩ := h.it p hp; ne_dl hq e
theorem LsM.butD {H H' : Hp} {l q : Addr} {ds : List Dt} {e : List (Key × V)} (h : LsM K H l ds) (hq : H q = some (.dK e)) (B : BtA q H H') : LsM K H' l ds :=
  let ⟨_, e, _⟩ := id h
  h.but (NT.dK hq) B (ne_dl hq e)
theorem two_step {H : Hp} {va vb : V} {x y : Dt} {dd : Dw} {ix : Nat → Int} {h : Nat} {e : List (Key × V)} {m n : Int} {a b : List Nat} (hx : Te dd ix h e x m a) (hy : Te dd ix h e y n b) (hva : DatAt K H va x) (hvb : DatAt K H vb y) :
    ∀ (i : Nat) (z : V), ([va, vb] : List V)[i]? = some z → ∃ (dz : Dt) (nz : Int) (az : List Nat), DatAt K H z dz ∧ Te dd ix h e dz nz az ∧ ([V.int m, V.int n]).take (i + 1) = ([V.int m, V.int n]).take i ++ [V.int nz] ∧ (([a, b]).take (i + 1)).flatten = (([a, b]).take i).flatten ++ az ∧ ((([a, b]).take i).flatten).length + az.length ≤ (a ++ b).length ∧ (([V.int m, V.int n]).take i).length ≤ 2
  | 0, z, hz => by
    cases hz
    exact ⟨x, m, a, hva, hx, rfl, by simp, by simp, by simp⟩
  | 1, z, hz => by
    cases hz
    exact ⟨y, n, b, hvb, hy, rfl, by simp, by simp, by simp⟩
  | i + 2, z, hz => by simp at hz
set_option maxHeartbeats 4000000 in
theorem ok_told {f fP fG fO fC fT f1 f2 : Addr} {fd fdP fdG fdO fdC fdT d1 d2 : FuncData} (A : FnAt K mg "told" s_told ["term", "held", "draws", "hand"] f fd) (A_parts_of : FnAt K mg "parts_of" s_parts_of ["term"] fP fdP) (A_figured : FnAt K mg "figured" s_figured ["term", "values"] fG fdG) (A_figured_op : FnAt K mg "figured_op" s_figured_op ["sign", "one", "other"] fO fdO)
    (A_counted : FnAt K mg "counted" s_counted ["outcome"] fC fdC) (FT : Fun K "take" "Hand.take" s_Hand_take fT fdT) (b_take : Binds K fdT ["self", "site", "draw"] []) (M_take : Meth K C "take" fT) (M_take2 : Meth K C2 "take" fT) (M_index1 : Meth K C "index_at" f1) (F1 : Fun K "index_at" "Hand.index_at" s_Hand_index_at f1 d1) (b_index1 : Binds K d1 ["self", "site", "draw"] [])
    (M_index2 : Meth K C2 "index_at" f2) (F2 : Fun K "index_at" "Listed.index_at" s_Listed_index_at f2 d2) (b_index2 : Binds K d2 ["self", "site", "draw"] []) (T : Txt K mg C C2 uR) : ∀ h : Nat, FnOk P w K mg base CX0 (h + 4) f fd ["term", "held", "draws", "hand"] (sp_told K C C2 h)
  | 0 => by
    refine FnOk.imp (FnOk.no) (fun vs H Q E h => ?_)
    obtain ⟨v, hd, dr, hn, tk, M, ix, dd, ps, e, t, n, as, rows, rfl, hv, eh, ll, ep, np, nd, lM, hh, ls, lr, b, k⟩ := h
    cases b
  | N + 1 => by
    have G_told : FnOk P w K mg base CX0 (N + 4) f fd _ (sp_told K C C2 N) := ok_told A A_parts_of A_figured A_figured_op A_counted FT b_take M_take M_take2 M_index1 F1 b_index1 M_index2 F2 b_index2 T N
    have G_parts_of : FnOk P w K mg base CX0 1 fP fdP _ (sp_parts K) := ok_parts_of A_parts_of
    have G_counted : FnOk P w K mg base CX0 1 fC fdC _ sp_counted := ok_counted A_counted T
    have G_figured : FnOk P w K mg base CX0 3 fG fdG _ (sp_figured K) := ok_figured A_figured A_figured_op A_counted T
    have G_take : FnOk P w K mg base CX0 2 fT fdT ["self", "site", "draw"] (sp_take K C C2) := ok_take FT M_index1 F1 b_index1 M_index2 F2 b_index2 T
    refine A.F.ok (k := N + 4) sc_told (fun vs H Q E h => ?_) (fun cdv Ar outer s H vs Q E hr h => ?_)
    · obtain ⟨v, hd, dr, hn, tk, M, ix, dd, ps, e, t, n, as, rows, rfl, hv, eh, ll, ep, np, nd, lM, hh, ls, lr, b, k⟩ := h
      rfl
    · obtain ⟨v, hd, dr, hn, tk, M, ix, dd, ps, e, t, n, as, rows, rfl, hv, eh, ll, ep, np, nd, lM, hh, ls, lr, b, k⟩ := h
      refine ⟨_, (pss_cons (ps_set (i := 4) sc_told.nd rfl (Or.inl rfl) (pe_ix ix_tup (pv 0) pe_int (fun _ _ => rfl)))
        (pss_cons (ps_if (pt_cmpR op_eq (pv 4) pe_str (nomark _)) (pss_one (ps_ret (pe_ix ix_tup (pv 0) pe_int (fun _ _ => rfl)))) pss_nil)
        (pss_cons (ps_if (pt_cmpR op_eq (pv 4) pe_str (nomark _)) (pss_one (ps_ret (pe_dget (hu_of hr) (pv 1) (pe_ix ix_tup (pv 0) pe_int (fun _ _ => rfl)) (fun _ _ => rfl)))) pss_nil)
        (pss_cons (ps_if (pt_cmpR op_eq (pv 4) pe_str (nomark _)) (pss_cons (ps_set (i := 5) sc_told.nd rfl (Or.inl rfl) (pe_ix ix_list (pv 2) (pe_ix ix_tup (pv 0) pe_int (fun _ _ => rfl)) (fun _ _ => rfl)))
        (pss_one (ps_ret (pe_ix ix_tup (pe_ix ix_list (pv 5) (pe_meth2 (pv 3) T.cl M_take G_take (hr.mono (by omega)) b_take pass0 T.cl2 M_take2 G_take (hr.mono (by omega)) b_take pass0 (pa_cons (pe_ix ix_tup (pv 0) pe_int (fun _ _ => rfl)) (pa_cons (pe_callTy call_list_of (by rfl) T.list_ Boot.«list» (pa_cons (pv 5) pa_nil)) pa_nil))) (fun _ _ => rfl)) pe_int (fun _ _ => rfl))))) pss_nil)
        (pss_cons (ps_if (pt_cmpR op_eq (pv 4) pe_str (nomark _)) (pss_cons (ps_set (i := 6) sc_told.nd rfl (Or.inl rfl) (pe_ifExp (pt_cmpR op_ne (pe_call G_counted (hr.mono (by omega)) rfl A_counted.m A_counted.F.kp A_counted.b .nil pass0 (pa_cons (pe_call G_told hr rfl A.m A.F.kp A.b .nil pass0 (pa_cons (pe_ix ix_tup (pv 0) pe_int (fun _ _ => rfl)) (pa_cons (pv 1) (pa_cons (pv 2) (pa_cons (pv 3) pa_nil))))) pa_nil)) pe_int (nomark _)) pe_int pe_int))
        (pss_one (ps_ret (pe_call G_told hr rfl A.m A.F.kp A.b .nil pass0 (pa_cons (pe_ix ix_tup (pv 0) (pv 6) (fun _ _ => rfl)) (pa_cons (pv 1) (pa_cons (pv 2) (pa_cons (pv 3) pa_nil)))))))) pss_nil)
        (pss_cons (ps_if (pt_cmpR op_eq (pv 4) pe_str (nomark _)) (pss_cons (ps_set (i := 7) sc_told.nd rfl (Or.inl rfl) (pe_callTy call_dictOf (by rfl) T.dict_ Boot.«dict» (pa_cons (pv 1) pa_nil)))
        (pss_cons (ps_dput (hu_of hr) (pv 7) (pe_ix ix_tup (pv 0) pe_int (fun _ _ => rfl)) (pe_call G_told hr rfl A.m A.F.kp A.b .nil pass0 (pa_cons (pe_ix ix_tup (pv 0) pe_int (fun _ _ => rfl)) (pa_cons (pv 1) (pa_cons (pv 2) (pa_cons (pv 3) pa_nil))))) rfl)
        (pss_one (ps_ret (pe_call G_told hr rfl A.m A.F.kp A.b .nil pass0 (pa_cons (pe_ix ix_tup (pv 0) pe_int (fun _ _ => rfl)) (pa_cons (pv 7) (pa_cons (pv 2) (pa_cons (pv 3) pa_nil))))))))) pss_nil)
        (pss_cons (ps_set (i := 8) sc_told.nd rfl (Or.inl rfl) (pe_lst pa_nil))
        (pss_cons (ps_for PassesOwn.never rfl (pi_list (pe_call G_parts_of (hr.mono (by omega)) rfl A_parts_of.m A_parts_of.F.kp A_parts_of.b .nil pass0 (pa_cons (pv 0) pa_nil))) (pg_name (i := 9) sc_told.nd rfl (Or.inl rfl)) (pss_one (ps_expr (pe_bm PySem.F.plainAttrs_list PySem.F.slot_list_append PySem.F.type_list_append mt_append (pv 8) (pa_cons (pe_call G_told hr rfl A.m A.F.kp A.b .nil pass0 (pa_cons (pv 9) (pa_cons (pv 1) (pa_cons (pv 2) (pa_cons (pv 3) pa_nil))))) pa_nil)))))
        (pss_one (ps_ret (pe_call G_figured (hr.mono (by omega)) rfl A_figured.m A_figured.F.kp A_figured.b .nil pass0 (pa_cons (pv 0) (pa_cons (pv 8) pa_nil))))))))))))), ?_⟩
      obtain ⟨ust, et, dut⟩ := id ls
      cases b with
      | num m =>
        obtain ⟨r, vs, rfl, sv, dv⟩ := hv.un
        obtain ⟨v0, v1, rfl, h0, h1⟩ := dv.two
        rw [h0.str_eq, h1.int_eq] at sv
        refine ⟨_, rfl, r, _, 0, .str "num", rfl, rfl, sv, rfl, ?_⟩
        refine ⟨_, rfl, rfl, _, rfl, iteBB (fun _ => ?_) (fun hc => absurd hc (by decide +kernel))⟩
        exact ⟨_, rfl, r, _, 1, .int n, rfl, rfl, sv, rfl, k H .refl (by rw [show asks ix [] = [] from rfl, List.append_nil]; exact ls)⟩
      | slot k0 _ hval =>
        obtain ⟨r, vs, rfl, sv, dv⟩ := hv.un
        obtain ⟨v0, v1, rfl, h0, h1⟩ := dv.two
        rw [h0.str_eq, h1.int_eq] at sv
        refine ⟨_, rfl, r, _, 0, .str "slot", rfl, rfl, sv, rfl, ?_⟩
        refine ⟨_, rfl, rfl, _, rfl, iteBB (fun hc => absurd hc (by decide +kernel)) (fun _ => ?_)⟩
        refine ⟨_, rfl, rfl, _, rfl, iteBB (fun _ => ?_) (fun hc => absurd hc (by decide +kernel))⟩
        exact ⟨_, rfl, _, rfl, r, _, 1, .int k0, rfl, rfl, sv, rfl, hd, .int n, rfl, by rw [← hval]; exact DGet.k (k := Sum.inl k0) eh, k H .refl (by rw [show asks ix [] = [] from rfl, List.append_nil]; exact ls)⟩
      | draw i j d p hd' hi hp =>
        obtain ⟨r, vs, rfl, sv, dv⟩ := hv.un
        obtain ⟨v0, v1, rfl, h0, h1⟩ := dv.two
        rw [h0.str_eq, h1.int_eq] at sv
        have hiM : i < M := by
          have := (List.getElem?_eq_some_iff.mp hd').1
          omega
        have ei : (ps.map (·.2))[i]? = some (d.map pI) := by rw [ep, List.getElem?_map, hd']; rfl
        obtain ⟨q, eq, e2⟩ : ∃ q, ps[i]? = some q ∧ q.2 = d.map pI := by
          rw [List.getElem?_map] at ei
          cases hq : ps[i]? with
          | none => rw [hq] at ei; cases ei
          | some q => rw [hq] at ei; exact ⟨q, rfl, Option.some.inj ei⟩
        have mq := List.mem_of_getElem? eq
        obtain ⟨ws, ew, dw⟩ := ll.it q mq
        rw [e2] at dw
        obtain ⟨x, ex, hx⟩ := dw.get (i := j) (d := pI p) (by rw [List.getElem?_map, hp]; rfl)
        refine ⟨_, rfl, r, _, 0, .str "draw", rfl, rfl, sv, rfl, ?_⟩
        refine ⟨_, rfl, rfl, _, rfl, iteBB (fun hc => absurd hc (by decide +kernel)) (fun _ => ?_)⟩
        refine ⟨_, rfl, rfl, _, rfl, iteBB (fun hc => absurd hc (by decide +kernel)) (fun _ => ?_)⟩
        refine ⟨_, rfl, rfl, _, rfl, iteBB (fun _ => ?_) (fun hc => absurd hc (by decide +kernel))⟩
        refine ⟨_, rfl, _, rfl, r, _, 1, .int i, rfl, rfl, sv, rfl, dr, _, _, .ref q.1, rfl, rfl, SqL.of ll.at_, atI_nat (by rw [List.getElem?_map, eq]; rfl), ?_⟩
        have last : ∀ H2, BtA tk H H2 → LsM K H2 tk (rows ++ asks ix [i]) → ∃ rp vb, x = .ref rp ∧ SqT K H2 rp [.int p.1, vb] ∧ H2 q.1 = some (.lst ws) ∧ Q (.int p.1) H2 := fun H2 B2 ls2 => by
          obtain ⟨rp, vs', rfl, sp, dp⟩ := (hx.but (.lst et) B2).un
          obtain ⟨a1, b1, rfl, g1, g2⟩ := dp.two
          rw [g1.int_eq] at sp
          exact ⟨rp, b1, rfl, sp, B2 _ _ (np q mq) ew, k H2 B2 ls2⟩
        refine ⟨_, rfl, ?_⟩
        obtain ⟨dx, ⟨g1, g2⟩ | ⟨ch, g1, g2, g3⟩⟩ := id hh
        · refine ⟨_, rfl, hn, dx, _, rfl, rfl, .inl ⟨g1, _, rfl, r, _, 1, .int i, rfl, rfl, sv, rfl, _, rfl, q.1, ws, rfl, .inl (SqL.of ew), fun D hD => ?_⟩⟩
          have S := Same.upd (o := .lst ws) hD
          refine ⟨hn, tk, i, M, ix, _, rows, rfl, hh.same S, hiM, ls.same S, by omega, fun H2 B2 ls2 => ?_⟩
          have B2 := (BtA.of S).trans B2
          obtain ⟨rp, vb, rfl, sp, eq2, kk⟩ := last H2 B2 ls2
          exact ⟨q.1, ws, _, .ref rp, rfl, rfl, SqL.of eq2, by rw [hi]; exact atI_nat ex, rp, _, 0, .int p.1, rfl, rfl, sp, rfl, kk⟩
        · refine ⟨_, rfl, hn, dx, _, rfl, rfl, .inr ⟨g1, _, rfl, r, _, 1, .int i, rfl, rfl, sv, rfl, _, rfl, q.1, ws, rfl, .inl (SqL.of ew), fun D hD => ?_⟩⟩
          have S := Same.upd (o := .lst ws) hD
          refine ⟨hn, tk, i, M, ix, _, rows, rfl, hh.same S, hiM, ls.same S, by omega, fun H2 B2 ls2 => ?_⟩
          have B2 := (BtA.of S).trans B2
          obtain ⟨rp, vb, rfl, sp, eq2, kk⟩ := last H2 B2 ls2
          exact ⟨q.1, ws, _, .ref rp, rfl, rfl, SqL.of eq2, by rw [hi]; exact atI_nat ex, rp, _, 0, .int p.1, rfl, rfl, sp, rfl, kk⟩
      | ifT c x y m _ a b hc hm hx =>
        obtain ⟨r, vs, rfl, sv, dv⟩ := hv.un
        obtain ⟨v0, v1, v2, v3, rfl, h0, h1, h2, h3⟩ := dats4 dv
        rw [h0.str_eq] at sv
        rw [List.length_append] at lr
        refine ⟨_, rfl, r, _, 0, .str "if", rfl, rfl, sv, rfl, ?_⟩
        refine ⟨_, rfl, rfl, _, rfl, iteBB (fun hc => absurd hc (by decide +kernel)) (fun _ => ?_)⟩
        refine ⟨_, rfl, rfl, _, rfl, iteBB (fun hc => absurd hc (by decide +kernel)) (fun _ => ?_)⟩
        refine ⟨_, rfl, rfl, _, rfl, iteBB (fun hc => absurd hc (by decide +kernel)) (fun _ => ?_)⟩
        refine ⟨_, rfl, rfl, _, rfl, iteBB (fun _ => ?_) (fun hc => absurd hc (by decide +kernel))⟩
        refine ⟨_, rfl, r, _, 1, v1, rfl, rfl, sv, rfl, _, rfl, _, rfl, _, rfl, v1, hd, dr, hn, tk, M, ix, dd, ps, e, c, m, a, rows, rfl, h1, eh, ll, ep, np, nd, lM, hh, ls, by omega, hc, fun H1 B1 ls1 => ?_⟩
        obtain ⟨eh1, ll1, hh1⟩ := adv et eh ll np nd hh B1
        refine ⟨m, rfl, rfl, _, rfl, iteBB (fun _ => ?_) (fun hc' => absurd (by simpa using hc') hm)⟩
        refine ⟨_, rfl, _, rfl, r, _, 2, v2, rfl, rfl, sqT_but (.lst et) B1 sv, rfl, _, rfl, _, rfl, _, rfl, v2, hd, dr, hn, tk, M, ix, dd, ps, e, x, n, b, rows ++ asks ix a, rfl, h2.but (.lst et) B1, eh1, ll1, ep, np, nd, lM, hh1, ls1, by rw [List.length_append, asks, List.length_map]; omega, hx, fun H2 B2 ls2 => k H2 (B1.trans B2) (by rw [asks_app, ← List.append_assoc]; exact ls2)⟩
      | ifF c x y m _ a b hc hm hx =>
        obtain ⟨r, vs, rfl, sv, dv⟩ := hv.un
        obtain ⟨v0, v1, v2, v3, rfl, h0, h1, h2, h3⟩ := dats4 dv
        rw [h0.str_eq] at sv
        rw [List.length_append] at lr
        refine ⟨_, rfl, r, _, 0, .str "if", rfl, rfl, sv, rfl, ?_⟩
        refine ⟨_, rfl, rfl, _, rfl, iteBB (fun hc => absurd hc (by decide +kernel)) (fun _ => ?_)⟩
        refine ⟨_, rfl, rfl, _, rfl, iteBB (fun hc => absurd hc (by decide +kernel)) (fun _ => ?_)⟩
        refine ⟨_, rfl, rfl, _, rfl, iteBB (fun hc => absurd hc (by decide +kernel)) (fun _ => ?_)⟩
        refine ⟨_, rfl, rfl, _, rfl, iteBB (fun _ => ?_) (fun hc => absurd hc (by decide +kernel))⟩
        refine ⟨_, rfl, r, _, 1, v1, rfl, rfl, sv, rfl, _, rfl, _, rfl, _, rfl, v1, hd, dr, hn, tk, M, ix, dd, ps, e, c, m, a, rows, rfl, h1, eh, ll, ep, np, nd, lM, hh, ls, by omega, hc, fun H1 B1 ls1 => ?_⟩
        obtain ⟨eh1, ll1, hh1⟩ := adv et eh ll np nd hh B1
        refine ⟨m, rfl, rfl, _, rfl, iteBB (fun hc' => absurd hm (by simpa using hc')) (fun _ => ?_)⟩
        refine ⟨_, rfl, _, rfl, r, _, 3, v3, rfl, rfl, sqT_but (.lst et) B1 sv, rfl, _, rfl, _, rfl, _, rfl, v3, hd, dr, hn, tk, M, ix, dd, ps, e, y, n, b, rows ++ asks ix a, rfl, h3.but (.lst et) B1, eh1, ll1, ep, np, nd, lM, hh1, ls1, by rw [List.length_append, asks, List.length_map]; omega, hx, fun H2 B2 ls2 => k H2 (B1.trans B2) (by rw [asks_app, ← List.append_assoc]; exact ls2)⟩
      | bind k0 x y m _ a b hl hx hy =>
        obtain ⟨r, vs, rfl, sv, dv⟩ := hv.un
        obtain ⟨v0, v1, v2, v3, rfl, h0, h1, h2, h3⟩ := dats4 dv
        rw [h0.str_eq, h1.int_eq] at sv
        rw [List.length_append] at lr
        refine ⟨_, rfl, r, _, 0, .str "bind", rfl, rfl, sv, rfl, ?_⟩
        refine ⟨_, rfl, rfl, _, rfl, iteBB (fun hc => absurd hc (by decide +kernel)) (fun _ => ?_)⟩
        refine ⟨_, rfl, rfl, _, rfl, iteBB (fun hc => absurd hc (by decide +kernel)) (fun _ => ?_)⟩
        refine ⟨_, rfl, rfl, _, rfl, iteBB (fun hc => absurd hc (by decide +kernel)) (fun _ => ?_)⟩
        refine ⟨_, rfl, rfl, _, rfl, iteBB (fun hc => absurd hc (by decide +kernel)) (fun _ => ?_)⟩
        refine ⟨_, rfl, rfl, _, rfl, iteBB (fun _ => ?_) (fun hc => absurd hc (by decide +kernel))⟩
        refine ⟨_, rfl, hd, e, rfl, eh, fun q hq => ?_⟩
        have S := Same.upd (o := .dK e) hq
        have eq1 : (upd H q (.dK e)) q = some (.dK e) := upd_same
        have nq : q ≠ tk := (ne_of_none et hq).symm
        generalize upd H q (.dK e) = H1 at S eq1
        refine ⟨_, rfl, r, _, 2, v2, rfl, rfl, S.tup sv, rfl, _, rfl, _, rfl, _, rfl, v2, hd, dr, hn, tk, M, ix, dd, ps, e, x, m, a, rows, rfl, h2.same S, S _ _ eh, ll.same S, ep, np, nd, lM, hh.same S, ls.same S, by omega, hx, fun H2 B2 ls2 => ?_⟩
        have et1 := S _ _ et
        obtain ⟨_, ll2, hh2⟩ := adv et1 (S _ _ eh) (ll.same S) np nd (hh.same S) B2
        have eq2 := B2 _ _ nq eq1
        have sv2 := sqT_but (.lst et1) B2 (S.tup sv)
        have g3 := (h3.same S).but (.lst et1) B2
        refine ⟨_, rfl, _, rfl, r, _, 1, .int k0, rfl, rfl, sv2, rfl, q, _, rfl, DPut.k (k := Sum.inl k0) eq2 (Nat.lt_of_lt_of_le hl (by decide)), ?_⟩
        have B3 : BtA q H2 (upd H2 q (.dK (putK e (Sum.inl k0) (.int m)))) := .upd
        have eq3 : (upd H2 q (.dK (putK e (Sum.inl k0) (.int m)))) q = some (.dK (putK e (Sum.inl k0) (.int m))) := upd_same
        have B13 : BtA tk H (upd H2 q (.dK (putK e (Sum.inl k0) (.int m)))) := fun b' o' nb hb => B3 _ _ (ne_of_none hb hq) (B2 _ _ nb (S _ _ hb))
        have ll3 := LLM.butD ll2 eq2 B3
        have hh3 := hh2.butD eq2 B3
        have ls3 := LsM.butD ls2 eq2 B3
        have sv3 := sqT_but (NT.dK eq2) B3 sv2
        have g3 := g3.but (NT.dK eq2) B3
        generalize upd H2 q (.dK (putK e (Sum.inl k0) (.int m))) = H3 at B3 eq3 B13 ll3 hh3 ls3 sv3 g3
        exact ⟨_, rfl, r, _, 3, v3, rfl, rfl, sv3, rfl, _, rfl, _, rfl, _, rfl, v3, q, dr, hn, tk, M, ix, dd, ps, _, y, n, b, rows ++ asks ix a, rfl, g3, eq3, ll3, ep, np, nd, lM, hh3, ls3, by rw [List.length_append, asks, List.length_map]; omega, hy, fun H4 B4 ls4 => k H4 (B13.trans B4) (by rw [asks_app, ← List.append_assoc]; exact ls4)⟩
      | add x y m n a b hx hy =>
        obtain ⟨r, vs, rfl, sv, dv⟩ := hv.un
        obtain ⟨v0, v1, v2, v3, rfl, h0, h1, h2, h3⟩ := dats4 dv
        rw [h0.str_eq] at sv
        refine ⟨_, rfl, r, _, 0, .str "op", rfl, rfl, sv, rfl, ?_⟩
        refine ⟨_, rfl, rfl, _, rfl, iteBB (fun hc => absurd hc (by decide +kernel)) (fun _ => ?_)⟩
        refine ⟨_, rfl, rfl, _, rfl, iteBB (fun hc => absurd hc (by decide +kernel)) (fun _ => ?_)⟩
        refine ⟨_, rfl, rfl, _, rfl, iteBB (fun hc => absurd hc (by decide +kernel)) (fun _ => ?_)⟩
        refine ⟨_, rfl, rfl, _, rfl, iteBB (fun hc => absurd hc (by decide +kernel)) (fun _ => ?_)⟩
        refine ⟨_, rfl, rfl, _, rfl, iteBB (fun hc => absurd hc (by decide +kernel)) (fun _ => ?_)⟩
        refine ⟨Nat.zero_le _, fun D hD => ?_⟩
        have T0 := Same.upd (o := .lst []) hD
        have eD : (upd H D (.lst [])) D = some (.lst []) := upd_same
        have nDt : D ≠ tk := (ne_of_none et hD).symm
        generalize upd H D (.lst []) = H0 at T0 eD
        refine ⟨_, rfl, .ref r, x, y, rfl, hv.same T0, fun P1 H1 S1 hP1 lsP => ?_⟩
        obtain ⟨us, eP, du⟩ := lsP
        obtain ⟨va, vb, rfl, hva, hvb⟩ := du.two
        have nPD : P1 ≠ D := (ne_of_none eD hP1).symm
        have nPt : P1 ≠ tk := (ne_of_none (T0 _ _ et) hP1).symm
        have S01 := T0.trans S1
        refine ⟨P1, rfl, ⟨_, SqL.of eP⟩, for_list (K := K) (a := P1) (xs := [va, vb]) (fun i σ H' => BtA tk H H' ∧ H' P1 = some (.lst [va, vb]) ∧ H' D = some (.lst (([V.int m, V.int n]).take i)) ∧ LsM K H' tk (rows ++ asks ix ((([a, b]).take i).flatten)) ∧ DatAt K H' va x ∧ DatAt K H' vb y ∧ ∃ o9, σ = [some (.ref r), some (.ref hd), some (.ref dr), some (.ref hn), some (.str "op"), none, none, none, some (.ref D), o9])
          ⟨BtA.of S01, eP, S1 _ _ eD, by rw [show asks ix ((([a, b]).take 0).flatten) = [] from rfl, List.append_nil]; exact ls.same S01, hva, hvb, none, rfl⟩ (fun i σ H' _ z => SqL.of z.2.1) ?_ ?_⟩
        · rintro i z σ H' hz ⟨B, eP2, eD2, ls2, hva2, hvb2, o9, rfl⟩
          obtain ⟨dz, nz, az, hz1, tz, t1, t2, t3, t4⟩ := two_step hx hy hva2 hvb2 i z hz
          obtain ⟨eh1, ll1, hh1⟩ := adv et eh ll np nd hh B
          obtain ⟨us2, et2, _⟩ := id ls2
          refine ⟨_, rfl, .inl ⟨rfl, _, SqL.of eD2⟩, _, rfl, _, rfl, _, rfl, _, rfl, z, hd, dr, hn, tk, M, ix, dd, ps, e, dz, nz, az, _, rfl, hz1, eh1, ll1, ep, np, nd, lM, hh1, ls2, by rw [List.length_append, asks, List.length_map]; omega, tz, fun H3 B3 ls3 => ?_⟩
          have eD3 := B3 _ _ nDt eD2
          refine ⟨D, _, _, rfl, rfl, eD3, Nat.lt_of_le_of_lt t4 (by decide), ?_⟩
          have B4 : BtA D H3 (upd H3 D (.lst (([V.int m, V.int n]).take i ++ [V.int nz]))) := .upd
          refine ⟨fun b' o' nb hb => B4 _ _ (ne_of_none hb hD) (B3 _ _ nb (B _ _ nb hb)), B4 _ _ nPD (B3 _ _ nPt eP2), by rw [upd_same, t1], ?_, (hva2.but (.lst et2) B3).but (.lst eD3) B4, (hvb2.but (.lst et2) B3).but (.lst eD3) B4, _, rfl⟩
          rw [t2, asks_app, ← List.append_assoc]
          exact ls3.but (.lst eD3) B4 nDt.symm
        · rintro σ H' ⟨B, eP2, eD2, ls2, hva2, hvb2, o9, rfl⟩
          refine ⟨_, rfl, _, rfl, .ref r, D, x, y, m, n, rfl, hv.but (.lst et) B, eD2, k H' B ?_⟩
          have ea : (([a, b]).take ([va, vb] : List V).length).flatten = a ++ b := by simp
          rw [ea] at ls2
          exact ls2
end
end K21
namespace K21
open PySem L2 FW PyProof.Rows
section
variable {P : Program} {w : World} {K : PySem.W.Frag} {mg : Str → Option Value} {base : Heap} {C C2 : Addr} {uR : Value}
theorem small_mul {x y : Int} (h : -(2 ^ 62) ≤ y ∧ y ≤ 2 ^ 62) : IntMulOk x y := .of_right (intBits_le_64 (by omega) (by omega))
theorem kit_ff {t n : String} (h : PySem.W.kitMeta n = true) (e : (fastBuiltinMro t).map (·.contains (.type n)) = some false) (hne : (Value.type t == Value.type n) = false) : PySem.W.kitOne K (.type t) (.type n) = some false := by
  unfold PySem.W.kitOne
  rw [hne]
  show PySem.W.kitCls K (.type t) (.type n) = some false
  show (if PySem.W.kitMeta n = true then PySem.W.subIn K (.type t) (.type n) else none) = some false
  rw [if_pos h]
  exact e
theorem kit_ib : PySem.W.kitOne K (.type "int") (.type "bool") = some false := kit_ff (by decide +kernel) (by decide +kernel) (by decide +kernel)
theorem kit_tt : PySem.W.kitOne K (.type "tuple") (.type "tuple") = some true := by rfl
theorem kit_ll : PySem.W.kitOne K (.type "list") (.type "list") = some true := by rfl
theorem atI0 {xs : List V} {i : Nat} {x : V} (h : xs[i]? = some x) : atI xs (0 + (i : Int)) = some x := by
  rw [Int.zero_add]
  exact atI_nat h
theorem sizeLine_big : 10000 < 2 ^ 62 := by decide
def sp_cell_at (K : PySem.W.Frag) : Sp := fun vs H Q _ => ∃ (a : Addr) (ns : List Int) (k : Nat), vs = [.ref a, .int k] ∧ SqL K H a (ns.map V.int) ∧ ∀ c : Int, Q (.int c) H
def sp_mix : Sp := fun vs H Q _ => ∃ c k : Int, vs = [.int c, .int k] ∧ 0 ≤ k ∧ k ≤ 1000 ∧ ∀ m : Int, 0 ≤ m → m < 2147483647 → Q (.int m) H
def sp_number : Sp := fun vs H Q _ => ∃ n : Int, vs = [.int n, .int n] ∧ Q (.bl true) H
structure DwOk (dd : Dw) : Prop where
  ne : ∀ d ∈ dd, d ≠ [] ∧ d.length ≤ 6
  bd : ∀ d ∈ dd, ∀ p ∈ d, 0 ≤ p.1 ∧ p.1 < 2000000000000
structure DwM (K : PySem.W.Frag) (H : Hp) (dr : Addr) (ps : List (Addr × List Dt)) (dd : Dw) : Prop where
  ll : LLM K H dr ps
  eq : ps.map (·.2) = dd.map (fun d => d.map pI)
def sp_draws (K : PySem.W.Frag) : Sp := fun vs H Q _ => ∃ c m : Int, vs = [.int c, .int m] ∧ 1 ≤ m ∧ m ≤ 60 ∧ ∀ dr H' ps dd, Same H H' → H dr = none → DwM K H' dr ps dd → (dd.length : Int) = m → DwOk dd → Q (.ref dr) H'
def sp_alike (K : PySem.W.Frag) : Sp := fun vs H Q _ => ∃ a b, ∃ rs : List (Int × Int), vs = [.ref a, .ref b] ∧ LsM K H a (rs.map pI) ∧ LsM K H b (rs.map pI) ∧ rs.length ≤ 10000 ∧ Q (.bl true) H
abbrev e0 : List (Key × V) := [(Sum.inl 3, .int 5), (Sum.inl 8, .int 1)]
def IxOk (dd : Dw) (ix : Nat → Int) : Prop := ∀ i d, dd[i]? = some d → ∃ (j : Nat) (p : Int × Int), ix i = (j : Int) ∧ d[j]? = some p
def sp_case (K : PySem.W.Frag) : Sp := fun vs H Q _ => ∃ (s : Nat) (dr du : Addr) (cell : Int) (ps : List (Addr × List Dt)) (dd : Dw) (ix : Nat → Int), vs = [.int s, .ref dr, .ref du, .int cell] ∧ DwM K H dr ps dd ∧ DwOk dd ∧ IxOk dd ix ∧ s < dd.length ∧ dd.length ≤ 60 ∧
  H du = some (.lst ((List.range dd.length).map fun i => V.int (ix i))) ∧
  ∀ r vt l t n as H', Same H H' → SqT K H' r [vt, .int n, .ref l] → DatAt K H' vt t → H l = none → H' l = some (.lst ((as : List Nat).map fun (i : Nat) => V.int (i : Int))) → Te dd ix 3 e0 t n as → as.length ≤ 2 → (∀ i ∈ as, i < dd.length) → Q (.ref r) H'
theorem ok_law_cell_at {f : Addr} {fd : FuncData} (A : FnAt K mg "_law_cell_at" s_law_cell_at ["_law_script", "_law_k"] f fd) (T : Txt K mg C C2 uR) : FnOk P w K mg base CX0 1 f fd ["_law_script", "_law_k"] (sp_cell_at K) := by
  refine A.F.ok sc_law_cell_at (fun vs H Q E h => ?_) (fun cdv Ar outer s H vs Q E hr h => ?_)
  · obtain ⟨a, ns, k, rfl, _⟩ := h
    rfl
  · obtain ⟨a, ns, k, rfl, ha, q⟩ := h
    refine ⟨_, (pss_cons (ps_if (pt_cmpR op_lt (pv 1) (pe_callB call_len_seq (by rfl) T.len_ Boot.«len» (pa_cons (pv 0) pa_nil)) (nomark _)) (pss_one (ps_ret (pe_ix ix_list (pv 0) (pv 1) (fun _ _ => rfl)))) pss_nil)
      (pss_one (ps_ret pe_int))), ?_⟩
    refine ⟨_, rfl, _, rfl, a, _, rfl, .inl ha, _, _, rfl, rfl, _, rfl, iteBB (fun hc => ?_) (fun _ => q 0)⟩
    have hk : k < ns.length := by
      have := of_decide_eq_true hc
      rw [List.length_map] at this
      omega
    exact ⟨_, rfl, _, rfl, a, _, _, .int ns[k], rfl, rfl, ha, atI_nat (by simp [hk]), q _⟩
theorem ok_law_mix {f : Addr} {fd : FuncData} (A : FnAt K mg "_law_mix" s_law_mix ["_law_cell", "_law_k"] f fd) : FnOk P w K mg base CX0 1 f fd ["_law_cell", "_law_k"] sp_mix := by
  refine A.F.ok sc_law_mix (fun vs H Q E h => ?_) (fun cdv Ar outer s H vs Q E hr h => ?_)
  · obtain ⟨a, b, rfl, _⟩ := h
    rfl
  · obtain ⟨n, k, rfl, k0, k1, q⟩ := h
    refine ⟨_, (pss_cons (ps_set (i := 2) sc_law_mix.nd rfl (Or.inl rfl) (pe_op op_add (pe_op op_add (pe_op op_mod (pv 0) pe_int) (pe_op op_mulB pe_int (pv 1))) pe_int))
      (pss_one (ps_ret (pe_op op_mod (pe_op op_mulB (pe_op op_mod (pe_op op_mulB (pv 2) (pv 2)) pe_int) (pe_op op_add (pv 1) pe_int)) pe_int)))), ?_⟩
    have m0 := Int.emod_nonneg n (show (1000000007 : Int) ≠ 0 by decide)
    have m1 := Int.emod_lt_of_pos n (show (0 : Int) < 1000000007 by decide)
    refine ⟨_, rfl, _, _, rfl, rfl, (by show (0 : Int) < 1000000007; decide), _, rfl, _, _, rfl, rfl, small_mul (by omega), _, _, rfl, rfl, _, _, rfl, rfl, ?_⟩
    refine ⟨_, rfl, _, rfl, _, _, rfl, rfl, small_mul (by omega), _, _, rfl, rfl, (by show (0 : Int) < 2147483629; decide), _, rfl, _, _, rfl, rfl, _, _, rfl, rfl, small_mul (by omega), _, _, rfl, rfl, (by show (0 : Int) < 2147483647; decide), ?_⟩
    exact q _ (Int.emod_nonneg _ (by decide)) (Int.emod_lt_of_pos _ (by decide))
theorem ok_law_number {f : Addr} {fd : FuncData} (A : FnAt K mg "_law_number" s_law_number ["_law_found", "_law_due"] f fd) (T : Txt K mg C C2 uR) : FnOk P w K mg base CX0 1 f fd ["_law_found", "_law_due"] sp_number := by
  refine A.F.ok sc_law_number (fun vs H Q E h => ?_) (fun cdv Ar outer s H vs Q E hr h => ?_)
  · obtain ⟨n, rfl, _⟩ := h
    rfl
  · obtain ⟨n, rfl, k⟩ := h
    refine ⟨_, (pss_one (ps_ret (pe_and (pe_callB call_isi (by rfl) T.isinstance_ Boot.«isinstance» (pa_cons (pv 0) (pa_cons (pe_bltn rfl T.int_ Boot.«int» (v := .ty "int") rfl) pa_nil))) (pe_and (pe_not (pe_callB call_isi (by rfl) T.isinstance_ Boot.«isinstance» (pa_cons (pv 0) (pa_cons (pe_bltn rfl T.bool_ Boot.«bool» (v := .ty "bool") rfl) pa_nil)))) (pe_one (pe_cmpR op_eq (pv 0) (pv 1) (nomark _))))))), ?_⟩
    refine ⟨_, rfl, _, _, _, _, rfl, .int n, kit_ii, _, rfl, iteT ?_⟩
    refine ⟨_, rfl, _, _, _, _, rfl, .int n, kit_ib, _, rfl, _, rfl, iteT ?_⟩
    refine ⟨_, rfl, _, rfl, rfl, ?_⟩
    rw [decide_eq_true rfl]
    exact k
set_option maxHeartbeats 2000000 in
theorem ok_law_draws {f fM : Addr} {fd fdM : FuncData} (A : FnAt K mg "_law_draws" s_law_draws ["_law_cell", "_law_many"] f fd) (A_law_mix : FnAt K mg "_law_mix" s_law_mix ["_law_cell", "_law_k"] fM fdM) (T : Txt K mg C C2 uR) : FnOk P w K mg base CX0 2 f fd ["_law_cell", "_law_many"] (sp_draws K) := by
  have G_law_mix : FnOk P w K mg base CX0 1 fM fdM _ sp_mix := ok_law_mix A_law_mix
  refine A.F.ok sc_law_draws (fun vs H Q E h => ?_) (fun cdv Ar outer s H vs Q E hr h => ?_)
  · obtain ⟨c, m, rfl, _⟩ := h
    rfl
  · obtain ⟨c, m, rfl, m0, m1, k⟩ := h
    refine ⟨_, (pss_cons (ps_set (i := 2) sc_law_draws.nd rfl (Or.inl rfl) (pe_lst pa_nil))
      (pss_cons (ps_for PassesOwn.never rfl (pi_range1 rfl T.range_ (pa_cons (pv 1) pa_nil)) (pg_name (i := 3) sc_law_draws.nd rfl (Or.inl rfl)) (pss_cons (ps_set (i := 4) sc_law_draws.nd rfl (Or.inl rfl) (pe_call G_law_mix (hr.mono (by decide)) rfl A_law_mix.m A_law_mix.F.kp A_law_mix.b .nil pass0 (pa_cons (pv 0) (pa_cons (pv 3) pa_nil))))
      (pss_cons (ps_set (i := 5) sc_law_draws.nd rfl (Or.inl rfl) (pe_op op_add pe_int (pe_op op_mod (pv 4) pe_int)))
      (pss_cons (ps_set (i := 6) sc_law_draws.nd rfl (Or.inl rfl) (pe_lst pa_nil))
      (pss_cons (ps_for PassesOwn.never rfl (pi_range1 rfl T.range_ (pa_cons (pe_op op_add pe_int (pe_op op_mod (pv 4) pe_int)) pa_nil)) (pg_name (i := 7) sc_law_draws.nd rfl (Or.inl rfl)) (pss_cons (ps_set (i := 8) sc_law_draws.nd rfl (Or.inl rfl) (pe_op op_add (pe_op op_mod (pe_op op_mulB (pv 4) pe_int) pe_int) (pe_op op_mulB (pv 7) (pv 5))))
      (pss_cons (ps_if (pt_cmpR op_eq (pe_op op_mod (pv 4) pe_int) pe_int (nomark _)) (pss_one (ps_set (i := 8) sc_law_draws.nd rfl (Or.inl rfl) (pv 7))) pss_nil)
      (pss_one (ps_expr (pe_bm PySem.F.plainAttrs_list PySem.F.slot_list_append PySem.F.type_list_append mt_append (pv 6) (pa_cons (pe_tup (pa_cons (pv 8) (pa_cons (pe_op op_add pe_int (pe_op op_mod (pe_call G_law_mix (hr.mono (by decide)) rfl A_law_mix.m A_law_mix.F.kp A_law_mix.b .nil pass0 (pa_cons (pv 0) (pa_cons (pe_op op_add (pe_op op_add pe_int (pv 3)) (pv 7)) pa_nil))) pe_int)) pa_nil))) pa_nil)))))))
      (pss_one (ps_expr (pe_bm PySem.F.plainAttrs_list PySem.F.slot_list_append PySem.F.type_list_append mt_append (pv 2) (pa_cons (pv 6) pa_nil)))))))))
      (pss_one (ps_ret (pv 2))))), ?_⟩
    refine ⟨Nat.zero_le _, fun dr hdr => ?_⟩
    refine ⟨_, rfl, m, rfl, by omega, by omega, for_range (lo := 0) (n := m.toNat) (fun i σ H' => Same H H' ∧ ∃ (ps : List (Addr × List Dt)) (dd : Dw) (o3 o4 o5 o6 o7 o8 : Option V), DwM K H' dr ps dd ∧ dd.length = i ∧ DwOk dd ∧ σ = [some (.int c), some (.int m), some (.ref dr), o3, o4, o5, o6, o7, o8])
      ⟨.upd hdr, [], [], none, none, none, none, none, none, ⟨⟨upd_same, (fun _ h => nomatch h), (fun _ h => nomatch h)⟩, rfl⟩, rfl, ⟨(fun _ h => nomatch h), (fun _ h => nomatch h)⟩, rfl⟩ ?_ ?_⟩
    · rintro i σ H1 hi ⟨S1, ps, dd, o3, o4, o5, o6, o7, o8, ⟨ll, ed⟩, ld, ok, rfl⟩
      have lp : ps.length = dd.length := by
        have := congrArg List.length ed
        rwa [List.length_map, List.length_map] at this
      refine ⟨_, rfl, _, rfl, c, _, rfl, by omega, by omega, fun so s0 s1 => ?_⟩
      have a0 := Int.emod_nonneg so (show (1000003 : Int) ≠ 0 by decide)
      have a1 := Int.emod_lt_of_pos so (show (0 : Int) < 1000003 by decide)
      have b0 := Int.emod_nonneg so (show (6 : Int) ≠ 0 by decide)
      have b1 := Int.emod_lt_of_pos so (show (0 : Int) < 6 by decide)
      have c0 := Int.emod_nonneg (so * 89) (show (900000000000 : Int) ≠ 0 by decide)
      have c1 := Int.emod_lt_of_pos (so * 89) (show (0 : Int) < 900000000000 by decide)
      refine ⟨_, rfl, _, _, rfl, rfl, (by show (0 : Int) < 1000003; decide), _, _, rfl, rfl, ?_⟩
      refine ⟨Nat.zero_le _, fun Dw' hDw => ?_⟩
      have nDd : Dw' ≠ dr := (ne_of_none ll.at_ hDw).symm
      have S2 := Same.upd (o := .lst []) hDw
      have eD : (upd H1 Dw' (.lst [])) Dw' = some (.lst []) := upd_same
      generalize upd H1 Dw' (.lst []) = H2 at S2 eD
      refine ⟨_, rfl, _, _, rfl, rfl, (by show (0 : Int) < 6; decide), _, _, rfl, rfl, 1 + so % 6, rfl, by omega, by omega, for_range (lo := 0) (n := (1 + so % 6).toNat) (fun j σ H' => Same H1 H' ∧ ∃ (d : List (Int × Int)) (o7 o8 : Option V), LsM K H' Dw' (d.map pI) ∧ d.length = j ∧ (∀ p ∈ d, 0 ≤ p.1 ∧ p.1 < 2000000000000) ∧ σ = [some (.int c), some (.int m), some (.ref dr), some (.int (0 + (i : Int))), some (.int so), some (.int (1 + so % 1000003)), some (.ref Dw'), o7, o8])
        ⟨S2, [], o7, o8, ⟨_, eD, .nil⟩, rfl, (fun _ h => nomatch h), rfl⟩ ?_ ?_⟩
      · rintro j σ H3 hj ⟨S3, d, o7, o8, ⟨us, eD, du⟩, ldj, hb, rfl⟩
        have lu := du.length
        rw [List.length_map] at lu
        have j5 : (j : Int) ≤ 5 := by omega
        have mulb : 0 ≤ (0 + (j : Int)) * (1 + so % 1000003) ∧ (0 + (j : Int)) * (1 + so % 1000003) ≤ 5 * 1000003 := by
          refine ⟨Int.mul_nonneg (by omega) (by omega), ?_⟩
          exact Int.mul_le_mul (by omega) (by omega) (by omega) (by omega)
        refine ⟨_, rfl, _, _, rfl, rfl, small_mul (by omega), _, _, rfl, rfl, (by show (0 : Int) < 900000000000; decide), _, rfl, _, rfl, _, _, rfl, rfl, small_mul (by omega), _, _, rfl, rfl, ?_⟩
        have fin : ∀ (z : Int), 0 ≤ z → z < 2000000000000 → ∀ (m2 : Int) (t : Addr), H3 t = none → Same H1 (upd (upd H3 t (.tup [.int z, .int m2])) Dw' (.lst (us ++ [.ref t]))) ∧ LsM K (upd (upd H3 t (.tup [.int z, .int m2])) Dw' (.lst (us ++ [.ref t]))) Dw' ((d ++ [(z, m2)]).map pI) ∧ (upd H3 t (.tup [.int z, .int m2])) Dw' = some (.lst us) ∧ (d ++ [(z, m2)]).length = j + 1 ∧ ∀ p ∈ d ++ [(z, m2)], 0 ≤ p.1 ∧ p.1 < 2000000000000 := fun z z0 z1 m2 t ht => by
          have S4 := Same.upd (o := .tup [.int z, .int m2]) ht
          have eD4 := S4 _ _ eD
          refine ⟨fun b q e => ?_, ⟨_, upd_same, ?_⟩, eD4, by rw [List.length_append, ldj]; rfl, fun p hp => ?_⟩
          · rw [upd_ne (ne_of_none e hDw)]
            exact S4 _ _ (S3 _ _ e)
          · rw [List.map_append]
            exact ((du.same S4).append (.cons (.tup (SqT.of upd_same) (.cons (.int _) (.cons (.int _) .nil))) .nil)).but (.lst eD4) .upd
          · rcases List.mem_append.mp hp with z | z
            · exact hb p z
            · cases List.mem_singleton.mp z
              exact ⟨z0, z1⟩
        have lt : us.length < sizeLine := Nat.lt_of_le_of_lt (show us.length ≤ 6 by omega) (by decide)
        refine ⟨_, rfl, _, _, rfl, rfl, (by show (0 : Int) < 5; decide), rfl, _, rfl, iteBB (fun _ => ?_) (fun _ => ?_)⟩
        · refine ⟨_, rfl, ?_⟩
          refine ⟨_, rfl, .inl ⟨rfl, _, SqL.of eD⟩, _, rfl, _, rfl, _, rfl, _, _, rfl, rfl, _, rfl, _, _, rfl, rfl, c, _, rfl, by omega, by omega, fun m2 _ _ => ?_⟩
          refine ⟨_, _, rfl, rfl, (by show (0 : Int) < 1000000; decide), _, _, rfl, rfl, two_le, fun t ht => ?_⟩
          obtain ⟨q1, q2, q3, q4, q5⟩ := fin (0 + (j : Int)) (by omega) (by omega) (1 + m2 % 1000000) t ht
          exact ⟨Dw', us, _, rfl, rfl, q3, lt, q1, _, _, _, q2, q4, q5, rfl⟩
        · refine ⟨_, rfl, .inl ⟨rfl, _, SqL.of eD⟩, _, rfl, _, rfl, _, rfl, _, _, rfl, rfl, _, rfl, _, _, rfl, rfl, c, _, rfl, by omega, by omega, fun m2 _ _ => ?_⟩
          refine ⟨_, _, rfl, rfl, (by show (0 : Int) < 1000000; decide), _, _, rfl, rfl, two_le, fun t ht => ?_⟩
          obtain ⟨q1, q2, q3, q4, q5⟩ := fin (so * 89 % 900000000000 + (0 + (j : Int)) * (1 + so % 1000003)) (by omega) (by omega) (1 + m2 % 1000000) t ht
          exact ⟨Dw', us, _, rfl, rfl, q3, lt, q1, _, _, _, q2, q4, q5, rfl⟩
      · rintro σ H3 ⟨S3, d, o7, o8, lsd, ldj, hb, rfl⟩
        have ll3 := ll.same S3
        refine ⟨_, rfl, .inl ⟨rfl, _, SqL.of ll3.at_⟩, _, rfl, dr, _, _, rfl, rfl, ll3.at_, Nat.lt_of_le_of_lt (show (ps.map fun p => V.ref p.1).length ≤ 60 by rw [List.length_map]; omega) (by decide), ?_⟩
        refine ⟨fun b q e => ?_, ps ++ [(Dw', d.map pI)], dd ++ [d], _, _, _, _, _, _, ⟨LLM.snoc ll3 lsd nDd, ?_⟩, by rw [List.length_append, ld]; rfl, ⟨fun x hx => ?_, fun x hx => ?_⟩, rfl⟩
        · rw [upd_ne (ne_of_none e hdr)]
          exact S3 _ _ (S1 _ _ e)
        · rw [List.map_append, List.map_append, ed]
          rfl
        · rcases List.mem_append.mp hx with z | z
          · exact ok.ne x z
          · cases List.mem_singleton.mp z
            exact ⟨by intro z; rw [z] at ldj; simp at ldj; omega, by omega⟩
        · rcases List.mem_append.mp hx with z | z
          · exact ok.bd x z
          · cases List.mem_singleton.mp z
            exact hb
    · rintro σ H1 ⟨S1, ps, dd, o3, o4, o5, o6, o7, o8, dw, ld, ok, rfl⟩
      exact ⟨_, rfl, k dr H1 ps dd S1 hdr dw (by omega) ok⟩
theorem ok_law_alike {f fN : Addr} {fd fdN : FuncData} (A : FnAt K mg "_law_alike" s_law_alike ["_law_found", "_law_due"] f fd) (A_law_number : FnAt K mg "_law_number" s_law_number ["_law_found", "_law_due"] fN fdN) (T : Txt K mg C C2 uR) : FnOk P w K mg base CX0 2 f fd ["_law_found", "_law_due"] (sp_alike K) := by
  have G_law_number : FnOk P w K mg base CX0 1 fN fdN _ sp_number := ok_law_number A_law_number T
  refine A.F.ok sc_law_alike (fun vs H Q E h => ?_) (fun cdv Ar outer s H vs Q E hr h => ?_)
  · obtain ⟨a, b, rs, rfl, _⟩ := h
    rfl
  · obtain ⟨r, q, rs, rfl, ⟨vs, ev, dv⟩, ⟨us, eu, du⟩, l6, k⟩ := h
    refine ⟨_, (pss_cons (ps_if (PW.pt (pw_or (pt_not (pt_val (pe_callB call_isi (by rfl) T.isinstance_ Boot.«isinstance» (pa_cons (pv 0) (pa_cons (pe_bltn rfl T.list_ Boot.«list» (v := .ty "list") rfl) pa_nil))))) (pw_or1 (pt_cmpR op_ne (pe_callB call_len_seq (by rfl) T.len_ Boot.«len» (pa_cons (pv 0) pa_nil)) (pe_callB call_len_seq (by rfl) T.len_ Boot.«len» (pa_cons (pv 1) pa_nil)) (nomark _))))) (pss_one (ps_ret pe_bl)) pss_nil)
      (pss_cons (ps_for PassesOwn.never rfl (pi_range1 rfl T.range_ (pa_cons (pe_callB call_len_seq (by rfl) T.len_ Boot.«len» (pa_cons (pv 1) pa_nil)) pa_nil)) (pg_name (i := 2) sc_law_alike.nd rfl (Or.inl rfl)) (pss_cons (ps_if (PW.pt (pw_or (pt_not (pt_val (pe_callB call_isiT (by rfl) T.isinstance_ Boot.«isinstance» (pa_cons (pe_ix ix_list (pv 0) (pv 2) (fun _ _ => rfl)) (pa_cons (pe_bltn rfl T.tuple_ Boot.«tuple» (v := .ty "tuple") rfl) pa_nil))))) (pw_or1 (pt_cmpR op_ne (pe_callB call_len_seq (by rfl) T.len_ Boot.«len» (pa_cons (pe_ix ix_list (pv 0) (pv 2) (fun _ _ => rfl)) pa_nil)) pe_int (nomark _))))) (pss_one (ps_ret pe_bl)) pss_nil)
      (pss_one (ps_if (PW.pt (pw_or (pt_not (pt_val (pe_call G_law_number (hr.mono (by decide)) rfl A_law_number.m A_law_number.F.kp A_law_number.b .nil pass0 (pa_cons (pe_ix ix_tup (pe_ix ix_list (pv 0) (pv 2) (fun _ _ => rfl)) pe_int (fun _ _ => rfl)) (pa_cons (pe_ix ix_tup (pe_ix ix_list (pv 1) (pv 2) (fun _ _ => rfl)) pe_int (fun _ _ => rfl)) pa_nil))))) (pw_or1 (pt_not (pt_val (pe_call G_law_number (hr.mono (by decide)) rfl A_law_number.m A_law_number.F.kp A_law_number.b .nil pass0 (pa_cons (pe_ix ix_tup (pe_ix ix_list (pv 0) (pv 2) (fun _ _ => rfl)) pe_int (fun _ _ => rfl)) (pa_cons (pe_ix ix_tup (pe_ix ix_list (pv 1) (pv 2) (fun _ _ => rfl)) pe_int (fun _ _ => rfl)) pa_nil)))))))) (pss_one (ps_ret pe_bl)) pss_nil))))
      (pss_one (ps_ret pe_bl)))), ?_⟩
    have lv := dv.length
    have lu := du.length
    rw [List.length_map] at lv lu
    have sb := sizeLine_big
    refine ⟨_, rfl, _, _, _, _, rfl, .lst ev, kit_ll, _, rfl, iteF ?_⟩
    refine ⟨_, rfl, r, _, rfl, .inl (SqL.of ev), _, rfl, q, _, rfl, .inl (SqL.of eu), rfl, _, rfl, iteBB (fun hc => ?_) (fun _ => ?_)⟩
    · rw [show vs.length = us.length by omega] at hc
      simp at hc
    refine ⟨_, rfl, q, _, rfl, .inl (SqL.of eu), _, rfl, by omega, by omega, for_range (lo := 0) (fun i σ H' => H' = H ∧ ∃ o2, σ = [some (.ref r), some (.ref q), o2]) ⟨rfl, none, rfl⟩ ?_ ?_⟩
    · rintro i σ H' hi ⟨rfl, o2, rfl⟩
      have hi' : i < rs.length := by omega
      have ef : rs[i]? = some rs[i] := List.getElem?_eq_getElem hi'
      generalize rs[i] = f1 at ef
      obtain ⟨x, ex, hx⟩ := dv.get (i := i) (d := pI f1) (by rw [List.getElem?_map, ef]; rfl)
      obtain ⟨y, ey, hy⟩ := du.get (i := i) (d := pI f1) (by rw [List.getElem?_map, ef]; rfl)
      obtain ⟨rx, vx, rfl, sx, dx⟩ := hx.un
      obtain ⟨a1, a2, rfl, g1, g2⟩ := dx.two
      rw [g1.int_eq, g2.int_eq] at sx
      obtain ⟨ry, vy, rfl, sy, dy⟩ := hy.un
      obtain ⟨c1, c2, rfl, g3, g4⟩ := dy.two
      rw [g3.int_eq, g4.int_eq] at sy
      refine ⟨_, rfl, _, rfl, r, _, _, _, rfl, rfl, SqL.of ev, atI0 ex, _, _, _, _, rfl, sx, kit_tt, _, rfl, iteF ?_⟩
      refine ⟨_, rfl, _, rfl, r, _, _, _, rfl, rfl, SqL.of ev, atI0 ex, rx, _, rfl, .inr sx, rfl, _, rfl, iteF ?_⟩
      refine ⟨_, rfl, _, rfl, r, _, _, _, rfl, rfl, SqL.of ev, atI0 ex, rx, _, 0, .int f1.1, rfl, rfl, sx, rfl, _, rfl, _, rfl, q, _, _, _, rfl, rfl, SqL.of eu, atI0 ey, ry, _, 0, .int f1.1, rfl, rfl, sy, rfl, f1.1, rfl, _, rfl, iteF ?_⟩
      refine ⟨_, rfl, _, rfl, r, _, _, _, rfl, rfl, SqL.of ev, atI0 ex, rx, _, 1, .int f1.2, rfl, rfl, sx, rfl, _, rfl, _, rfl, q, _, _, _, rfl, rfl, SqL.of eu, atI0 ey, ry, _, 1, .int f1.2, rfl, rfl, sy, rfl, f1.2, rfl, _, rfl, iteF ?_⟩
      exact ⟨rfl, _, rfl⟩
    · rintro σ H' ⟨rfl, o2, rfl⟩
      exact k
end
end K21
namespace K21
open PySem L2 FW PyProof.Rows
section
variable {P : Program} {w : World} {K : PySem.W.Frag} {mg : Str → Option Value} {base : Heap} {C C2 : Addr} {uR : Value}
theorem t4 : 4 ≤ sizeLine := by decide
theorem DwM.same {H H' : Hp} {dr : Addr} {ps : List (Addr × List Dt)} {dd : Dw} (h : DwM K H dr ps dd) (e : Same H H') : DwM K H' dr ps dd := ⟨h.ll.same e, h.eq⟩
theorem DwM.row {H : Hp} {dr : Addr} {ps : List (Addr × List Dt)} {dd : Dw} (h : DwM K H dr ps dd) {i : Nat} {d : List (Int × Int)} (hd : dd[i]? = some d) : ∃ q, ps[i]? = some q ∧ q.2 = d.map pI := by
  have ei : (ps.map (·.2))[i]? = some (d.map pI) := by rw [h.eq, List.getElem?_map, hd]; rfl
  rw [List.getElem?_map] at ei
  cases hq : ps[i]? with
  | none => rw [hq] at ei; cases ei
  | some q => rw [hq] at ei; exact ⟨q, rfl, Option.some.inj ei⟩
/-- the number that is chosen at i, and where it stands -/
structure NumAt (K : PySem.W.Frag) (H : Hp) (dr : Addr) (ps : List (Addr × List Dt)) (dd : Dw) (ix : Nat → Int) (i : Nat) (n : Int) (a : Addr) (ws : List V) (rp : Addr) (vb : V) : Prop where
  te : ∀ (h : Nat) (e : List (Key × V)), Te dd ix (h + 1) e (.tup [.str "draw", .int i]) n [i]
  bd : 0 ≤ n ∧ n < 2000000000000
  at1 : atI (ps.map fun p => V.ref p.1) i = some (.ref a)
  at2 : H a = some (.lst ws)
  at3 : atI ws (ix i) = some (.ref rp)
  at4 : SqT K H rp [.int n, vb]
theorem NumAt.same {H H' : Hp} {dr : Addr} {ps : List (Addr × List Dt)} {dd : Dw} {ix : Nat → Int} {i : Nat} {n : Int} {a : Addr} {ws : List V} {rp : Addr} {vb : V} (h : NumAt K H dr ps dd ix i n a ws rp vb) (e : Same H H') : NumAt K H' dr ps dd ix i n a ws rp vb := ⟨h.te, h.bd, h.at1, e _ _ h.at2, h.at3, e.tup h.at4⟩
theorem num_at {H : Hp} {dr : Addr} {ps : List (Addr × List Dt)} {dd : Dw} {ix : Nat → Int} (h : DwM K H dr ps dd) (ok : DwOk dd) (io : IxOk dd ix) {i : Nat} (hi : i < dd.length) : ∃ n a ws rp vb, NumAt K H dr ps dd ix i n a ws rp vb := by
  have hd : dd[i]? = some dd[i] := List.getElem?_eq_getElem hi
  obtain ⟨j, p, e1, e2⟩ := io i _ hd
  obtain ⟨q, eq, e3⟩ := h.row hd
  obtain ⟨ws, ew, dw⟩ := h.ll.it q (List.mem_of_getElem? eq)
  rw [e3] at dw
  obtain ⟨x, ex, hx⟩ := dw.get (i := j) (d := pI p) (by rw [List.getElem?_map, e2]; rfl)
  obtain ⟨rp, vs, rfl, sp, dp⟩ := hx.un
  obtain ⟨a1, b1, rfl, g1, g2⟩ := dp.two
  rw [g1.int_eq] at sp
  exact ⟨p.1, q.1, ws, rp, b1, fun h e => .draw i j _ p hd e1 e2, ok.bd _ (List.mem_of_getElem? hd) p (List.mem_of_getElem? e2), atI_nat (by rw [List.getElem?_map, eq]; rfl), ew, by rw [e1]; exact atI_nat ex, sp⟩
theorem ix_at (M : Nat) (ix : Nat → Int) {i : Nat} (hi : i < M) : atI ((List.range M).map fun i => V.int (ix i)) i = some (.int (ix i)) := atI_nat (by rw [List.getElem?_map, List.getElem?_range hi]; rfl)
theorem cast1 (s : Nat) : (s : Int) + 1 = ((s + 1 : Nat) : Int) := by omega
set_option maxHeartbeats 4000000 in
theorem ok_law_case {f : Addr} {fd : FuncData} (A : FnAt K mg "_law_case" s_law_case ["_law_site", "_law_draws_here", "_law_chosen", "_law_cell"] f fd) (T : Txt K mg C C2 uR) : FnOk P w K mg base CX0 1 f fd ["_law_site", "_law_draws_here", "_law_chosen", "_law_cell"] (sp_case K) := by
  refine A.F.ok sc_law_case (fun vs H Q E h => ?_) (fun cdv Ar outer s' H vs Q E hr h => ?_)
  · obtain ⟨s, dr, du, cell, ps, dd, ix, rfl, _⟩ := h
    rfl
  · obtain ⟨s, dr, du, cell, ps, dd, ix, rfl, dw, ok, io, hs, l60, eu, k⟩ := h
    refine ⟨_, (pss_cons (ps_set (i := 4) sc_law_case.nd rfl (Or.inl rfl) (pe_tup (pa_cons pe_str (pa_cons (pv 0) pa_nil))))
      (pss_cons (ps_set (i := 5) sc_law_case.nd rfl (Or.inl rfl) (pe_ix ix_tup (pe_ix ix_list (pe_ix ix_list (pv 1) (pv 0) (fun _ _ => rfl)) (pe_ix ix_list (pv 2) (pv 0) (fun _ _ => rfl)) (fun _ _ => rfl)) pe_int (fun _ _ => rfl)))
      (pss_cons (ps_if (pt_cmpR op_eq (pe_op op_mod (pv 3) pe_int) pe_int (nomark _)) (pss_one (ps_ret (pe_tup (pa_cons (pv 4) (pa_cons (pv 5) (pa_cons (pe_lst (pa_cons (pv 0) pa_nil)) pa_nil)))))) pss_nil)
      (pss_cons (ps_if (PW.pt (pw_and (pt_cmpR op_eq (pe_op op_mod (pv 3) pe_int) pe_int (nomark _)) (pw_and1 (pt_cmpR op_lt (pe_op op_add (pv 0) pe_int) (pe_callB call_len_seq (by rfl) T.len_ Boot.«len» (pa_cons (pv 1) pa_nil)) (nomark _))))) (pss_cons (ps_set (i := 6) sc_law_case.nd rfl (Or.inl rfl) (pe_tup (pa_cons pe_str (pa_cons (pv 4) (pa_cons (pe_tup (pa_cons pe_str (pa_cons (pe_op op_add (pv 0) pe_int) pa_nil))) (pa_cons (pe_tup (pa_cons pe_str (pa_cons pe_int pa_nil))) pa_nil))))))
      (pss_cons (ps_if (pt_cmpR op_eq (pe_op op_mod (pv 3) pe_int) pe_int (nomark _)) (pss_one (ps_set (i := 6) sc_law_case.nd rfl (Or.inl rfl) (pe_tup (pa_cons pe_str (pa_cons (pv 4) (pa_cons (pe_tup (pa_cons pe_str (pa_cons pe_int pa_nil))) (pa_cons (pe_tup (pa_cons pe_str (pa_cons (pe_op op_add (pv 0) pe_int) pa_nil))) pa_nil))))))) pss_nil)
      (pss_cons (ps_if (pt_cmpR op_eq (pe_cmpR op_ne (pv 5) pe_int (nomark _)) (pe_cmpR op_eq (pe_op op_mod (pv 3) pe_int) pe_int (nomark _)) (nomark _)) (pss_one (ps_ret (pe_tup (pa_cons (pv 6) (pa_cons pe_int (pa_cons (pe_lst (pa_cons (pv 0) pa_nil)) pa_nil)))))) pss_nil)
      (pss_one (ps_ret (pe_tup (pa_cons (pv 6) (pa_cons (pe_ix ix_tup (pe_ix ix_list (pe_ix ix_list (pv 1) (pe_op op_add (pv 0) pe_int) (fun _ _ => rfl)) (pe_ix ix_list (pv 2) (pe_op op_add (pv 0) pe_int) (fun _ _ => rfl)) (fun _ _ => rfl)) pe_int (fun _ _ => rfl)) (pa_cons (pe_lst (pa_cons (pv 0) (pa_cons (pe_op op_add (pv 0) pe_int) pa_nil))) pa_nil))))))))) pss_nil)
      (pss_one (ps_ret (pe_tup (pa_cons (pe_tup (pa_cons pe_str (pa_cons pe_int (pa_cons (pv 4) (pa_cons (pe_tup (pa_cons pe_str (pa_cons pe_str (pa_cons (pe_tup (pa_cons pe_str (pa_cons pe_int pa_nil))) (pa_cons (pe_tup (pa_cons pe_str (pa_cons pe_int pa_nil))) pa_nil))))) pa_nil))))) (pa_cons (pe_op op_mod (pe_op op_mulB pe_int (pv 5)) pe_int) (pa_cons (pe_lst (pa_cons (pv 0) pa_nil)) pa_nil)))))))))), ?_⟩
    obtain ⟨n, a1, ws, rp, vb, na⟩ := num_at dw ok io hs
    refine ⟨_, rfl, two_le, fun td htd => ?_⟩
    have S1 := Same.upd (o := .tup [.str "draw", .int s]) htd
    have hd1 : DatAt K (upd H td (.tup [.str "draw", .int s])) (.ref td) (.tup [.str "draw", .int s]) := .tup (SqT.of upd_same) (.cons (.str _) (.cons (.int _) .nil))
    generalize upd H td (.tup [.str "draw", .int s]) = H1 at S1 hd1
    have na := na.same S1
    have dw1 := dw.same S1
    have eu1 := S1 _ _ eu
    refine ⟨_, rfl, _, rfl, dr, _, _, .ref a1, rfl, rfl, SqL.of dw1.ll.at_, na.at1, _, rfl, _, rfl, du, _, _, .int (ix s), rfl, rfl, SqL.of eu1, ix_at _ ix hs, a1, ws, _, .ref rp, rfl, rfl, SqL.of na.at2, na.at3, rp, _, 0, .int n, rfl, rfl, na.at4, rfl, ?_⟩
    refine ⟨_, rfl, _, _, rfl, rfl, (by show (0 : Int) < 3; decide), rfl, _, rfl, iteBB (fun _ => ?_) (fun _ => ?_)⟩
    · refine ⟨_, rfl, _, rfl, _, rfl, t1, fun l hl => ?_⟩
      have U8 := Same.upd (o := .lst [.int s]) hl
      have el : (upd H1 l (.lst [.int s])) l = some (.lst [.int s]) := upd_same
      have fl := S1.free hl
      generalize upd H1 l (.lst [.int s]) = J5 at U8 el
      refine ⟨t3, fun r hr => ?_⟩
      have U9 := Same.upd (o := .tup [.ref td, .int n, .ref l]) hr
      exact k r (.ref td) l _ _ [s] _ (S1.trans (U8.trans U9)) (SqT.of upd_same) (hd1.same (U8.trans U9)) fl (U9 _ _ el) (na.te _ _) (by simp) (by simpa using hs)
    refine ⟨_, rfl, _, _, rfl, rfl, (by show (0 : Int) < 3; decide), rfl, _, rfl, iteBB (fun _ => ?_) (fun _ => ?_)⟩
    · refine ⟨_, rfl, _, _, rfl, rfl, _, rfl, dr, _, rfl, .inl (SqL.of dw1.ll.at_), _, _, rfl, rfl, _, rfl, iteBB (fun hc => ?_) (fun _ => ?_)⟩
      · have lp : ps.length = dd.length := by
          have := congrArg List.length dw.eq
          rwa [List.length_map, List.length_map] at this
        have hlt : s + 1 < dd.length := by
          have := of_decide_eq_true hc
          rw [List.length_map] at this
          omega
        obtain ⟨n2, a2, ws2, rp2, vb2, nb⟩ := num_at dw1 ok io hlt
        refine ⟨_, rfl, _, rfl, _, _, rfl, rfl, two_le, fun ta hta => ?_⟩
        have U1 := Same.upd (o := .tup [.str "draw", .int ((s : Int) + 1)]) hta
        have da : DatAt K (upd H1 ta (.tup [.str "draw", .int ((s : Int) + 1)])) (.ref ta) (.tup [.str "draw", .int ((s + 1 : Nat) : Int)]) := .tup (SqT.of upd_same) (.cons (.str _) (.cons (.int _) .nil))
        generalize upd H1 ta (.tup [.str "draw", .int ((s : Int) + 1)]) = J1 at U1 da
        refine ⟨two_le, fun tb htb => ?_⟩
        have U2 := Same.upd (o := .tup [.str "num", .int 7]) htb
        have db : DatAt K (upd J1 tb (.tup [.str "num", .int 7])) (.ref tb) (.tup [.str "num", .int 7]) := .tup (SqT.of upd_same) (.cons (.str _) (.cons (.int _) .nil))
        generalize upd J1 tb (.tup [.str "num", .int 7]) = J2 at U2 db
        refine ⟨t4, fun tc htc => ?_⟩
        have U3 := Same.upd (o := .tup [.str "if", .ref td, .ref ta, .ref tb]) htc
        have U13 := (U1.trans U2).trans U3
        have dc : DatAt K (upd J2 tc (.tup [.str "if", .ref td, .ref ta, .ref tb])) (.ref tc) (.tup [.str "if", .tup [.str "draw", .int s], .tup [.str "draw", .int ((s + 1 : Nat) : Int)], .tup [.str "num", .int 7]]) := .tup (SqT.of upd_same) (.cons (.str _) (.cons (hd1.same U13) (.cons (da.same (U2.trans U3)) (.cons (db.same U3) .nil))))
        generalize upd J2 tc (.tup [.str "if", .ref td, .ref ta, .ref tb]) = J3 at U3 U13 dc
        refine ⟨_, rfl, _, _, rfl, rfl, (by show (0 : Int) < 2; decide), rfl, _, rfl, iteBB (fun ev => ?_) (fun ev => ?_)⟩
        · clear dc da db U3 U1 U2
          refine ⟨_, rfl, two_le, fun ta hta => ?_⟩
          have U1 := Same.upd (o := .tup [.str "num", .int 7]) hta
          have da : DatAt K (upd J3 ta (.tup [.str "num", .int 7])) (.ref ta) (.tup [.str "num", .int 7]) := .tup (SqT.of upd_same) (.cons (.str _) (.cons (.int _) .nil))
          generalize upd J3 ta (.tup [.str "num", .int 7]) = J1 at U1 da
          refine ⟨_, rfl, _, _, rfl, rfl, two_le, fun tb htb => ?_⟩
          have U2 := Same.upd (o := .tup [.str "draw", .int ((s : Int) + 1)]) htb
          have db : DatAt K (upd J1 tb (.tup [.str "draw", .int ((s : Int) + 1)])) (.ref tb) (.tup [.str "draw", .int ((s + 1 : Nat) : Int)]) := .tup (SqT.of upd_same) (.cons (.str _) (.cons (.int _) .nil))
          generalize upd J1 tb (.tup [.str "draw", .int ((s : Int) + 1)]) = J2 at U2 db
          refine ⟨t4, fun tc htc => ?_⟩
          have U3 := Same.upd (o := .tup [.str "if", .ref td, .ref ta, .ref tb]) htc
          have U13 := U13.trans ((U1.trans U2).trans U3)
          have dc : DatAt K (upd J2 tc (.tup [.str "if", .ref td, .ref ta, .ref tb])) (.ref tc) (.tup [.str "if", .tup [.str "draw", .int s], .tup [.str "num", .int 7], .tup [.str "draw", .int ((s + 1 : Nat) : Int)]]) := .tup (SqT.of upd_same) (.cons (.str _) (.cons (hd1.same U13) (.cons (da.same (U2.trans U3)) (.cons (db.same U3) .nil))))
          generalize upd J2 tc (.tup [.str "if", .ref td, .ref ta, .ref tb]) = J3 at U3 U13 dc
          refine ⟨_, rfl, rfl, _, rfl, _, _, rfl, rfl, (by show (0 : Int) < 2; decide), rfl, rfl, _, rfl, iteBB (fun hc => ?_) (fun hc => ?_)⟩
          · rw [ev] at hc
            have hn : n ≠ 0 := by simpa using hc
            refine ⟨_, rfl, _, rfl, t1, fun l hl => ?_⟩
            have U8 := Same.upd (o := .lst [.int s]) hl
            have el : (upd J3 l (.lst [.int s])) l = some (.lst [.int s]) := upd_same
            have fl := (S1.trans U13).free hl
            generalize upd J3 l (.lst [.int s]) = J5 at U8 el
            refine ⟨t3, fun r hr => ?_⟩
            have U9 := Same.upd (o := .tup [.ref tc, .int 7, .ref l]) hr
            exact k r (.ref tc) l _ _ [s] _ (S1.trans (U13.trans (U8.trans U9))) (SqT.of upd_same) (dc.same (U8.trans U9)) fl (U9 _ _ el) (.ifT _ _ _ n 7 [s] [] (na.te _ _) hn (.num 7)) (by simp) (by simpa using hs)
          · rw [ev] at hc
            have hn : n = 0 := by simpa using hc
            have nb := nb.same U13
            refine ⟨_, rfl, _, rfl, _, rfl, _, _, rfl, rfl, dr, _, _, .ref a2, rfl, rfl, SqL.of (dw1.same U13).ll.at_, nb.at1, _, rfl, _, rfl, _, _, rfl, rfl, du, _, _, .int (ix (s + 1)), rfl, rfl, SqL.of (U13 _ _ eu1), ix_at _ ix hlt, a2, ws2, _, .ref rp2, rfl, rfl, SqL.of nb.at2, nb.at3, rp2, _, 0, .int n2, rfl, rfl, nb.at4, rfl, ?_⟩
            refine ⟨_, rfl, _, rfl, _, _, rfl, rfl, two_le, fun l hl => ?_⟩
            have U8 := Same.upd (o := .lst [.int s, .int ((s : Int) + 1)]) hl
            have el : (upd J3 l (.lst [.int s, .int ((s : Int) + 1)])) l = some (.lst [.int s, .int ((s : Int) + 1)]) := upd_same
            have fl := (S1.trans U13).free hl
            generalize upd J3 l (.lst [.int s, .int ((s : Int) + 1)]) = J5 at U8 el
            refine ⟨t3, fun r hr => ?_⟩
            have U9 := Same.upd (o := .tup [.ref tc, .int n2, .ref l]) hr
            exact k r (.ref tc) l _ _ [s, s + 1] _ (S1.trans (U13.trans (U8.trans U9))) (SqT.of upd_same) (dc.same (U8.trans U9)) fl (U9 _ _ el) (.ifF _ _ _ n n2 [s] [s + 1] (na.te _ _) hn (nb.te _ _)) (by simp) (by
              intro i hi
              rcases List.mem_cons.mp hi with z | z
              · rw [z]; exact hs
              · cases List.mem_singleton.mp z; exact hlt)
        · refine ⟨_, rfl, rfl, _, rfl, _, _, rfl, rfl, (by show (0 : Int) < 2; decide), rfl, rfl, _, rfl, iteBB (fun hc => ?_) (fun hc => ?_)⟩
          · rw [ev] at hc
            have hn : n = 0 := by simpa using hc
            refine ⟨_, rfl, _, rfl, t1, fun l hl => ?_⟩
            have U8 := Same.upd (o := .lst [.int s]) hl
            have el : (upd J3 l (.lst [.int s])) l = some (.lst [.int s]) := upd_same
            have fl := (S1.trans U13).free hl
            generalize upd J3 l (.lst [.int s]) = J5 at U8 el
            refine ⟨t3, fun r hr => ?_⟩
            have U9 := Same.upd (o := .tup [.ref tc, .int 7, .ref l]) hr
            exact k r (.ref tc) l _ _ [s] _ (S1.trans (U13.trans (U8.trans U9))) (SqT.of upd_same) (dc.same (U8.trans U9)) fl (U9 _ _ el) (.ifF _ _ _ n 7 [s] [] (na.te _ _) hn (.num 7)) (by simp) (by simpa using hs)
          · rw [ev] at hc
            have hn : n ≠ 0 := by simpa using hc
            have nb := nb.same U13
            refine ⟨_, rfl, _, rfl, _, rfl, _, _, rfl, rfl, dr, _, _, .ref a2, rfl, rfl, SqL.of (dw1.same U13).ll.at_, nb.at1, _, rfl, _, rfl, _, _, rfl, rfl, du, _, _, .int (ix (s + 1)), rfl, rfl, SqL.of (U13 _ _ eu1), ix_at _ ix hlt, a2, ws2, _, .ref rp2, rfl, rfl, SqL.of nb.at2, nb.at3, rp2, _, 0, .int n2, rfl, rfl, nb.at4, rfl, ?_⟩
            refine ⟨_, rfl, _, rfl, _, _, rfl, rfl, two_le, fun l hl => ?_⟩
            have U8 := Same.upd (o := .lst [.int s, .int ((s : Int) + 1)]) hl
            have el : (upd J3 l (.lst [.int s, .int ((s : Int) + 1)])) l = some (.lst [.int s, .int ((s : Int) + 1)]) := upd_same
            have fl := (S1.trans U13).free hl
            generalize upd J3 l (.lst [.int s, .int ((s : Int) + 1)]) = J5 at U8 el
            refine ⟨t3, fun r hr => ?_⟩
            have U9 := Same.upd (o := .tup [.ref tc, .int n2, .ref l]) hr
            exact k r (.ref tc) l _ _ [s, s + 1] _ (S1.trans (U13.trans (U8.trans U9))) (SqT.of upd_same) (dc.same (U8.trans U9)) fl (U9 _ _ el) (.ifT _ _ _ n n2 [s] [s + 1] (na.te _ _) hn (nb.te _ _)) (by simp) (by
              intro i hi
              rcases List.mem_cons.mp hi with z | z
              · rw [z]; exact hs
              · cases List.mem_singleton.mp z; exact hlt)
      · skip
        obtain ⟨b0, b1⟩ := na.bd
        refine ⟨_, rfl, two_le, fun ta hta => ?_⟩
        have U1 := Same.upd (o := .tup [.str "slot", .int 4]) hta
        have da : DatAt K (upd H1 ta (.tup [.str "slot", .int 4])) (.ref ta) (.tup [.str "slot", .int 4]) := .tup (SqT.of upd_same) (.cons (.str _) (.cons (.int _) .nil))
        generalize upd H1 ta (.tup [.str "slot", .int 4]) = J1 at U1 da
        refine ⟨two_le, fun tb htb => ?_⟩
        have U2 := Same.upd (o := .tup [.str "slot", .int 4]) htb
        have db : DatAt K (upd J1 tb (.tup [.str "slot", .int 4])) (.ref tb) (.tup [.str "slot", .int 4]) := .tup (SqT.of upd_same) (.cons (.str _) (.cons (.int _) .nil))
        generalize upd J1 tb (.tup [.str "slot", .int 4]) = J2 at U2 db
        refine ⟨t4, fun tc htc => ?_⟩
        have U3 := Same.upd (o := .tup [.str "op", .str "+", .ref ta, .ref tb]) htc
        have dc : DatAt K (upd J2 tc (.tup [.str "op", .str "+", .ref ta, .ref tb])) (.ref tc) (.tup [.str "op", .str "+", .tup [.str "slot", .int 4], .tup [.str "slot", .int 4]]) := .tup (SqT.of upd_same) (.cons (.str _) (.cons (.str _) (.cons (da.same (U2.trans U3)) (.cons (db.same U3) .nil))))
        generalize upd J2 tc (.tup [.str "op", .str "+", .ref ta, .ref tb]) = J3 at U3 dc
        have U13 := (U1.trans U2).trans U3
        refine ⟨t4, fun te hte => ?_⟩
        have U4 := Same.upd (o := .tup [.str "bind", .int 4, .ref td, .ref tc]) hte
        have de : DatAt K (upd J3 te (.tup [.str "bind", .int 4, .ref td, .ref tc])) (.ref te) (.tup [.str "bind", .int 4, .tup [.str "draw", .int s], .tup [.str "op", .str "+", .tup [.str "slot", .int 4], .tup [.str "slot", .int 4]]]) := .tup (SqT.of upd_same) (.cons (.str _) (.cons (.int _) (.cons (hd1.same (U13.trans U4)) (.cons (dc.same U4) .nil))))
        generalize upd J3 te (.tup [.str "bind", .int 4, .ref td, .ref tc]) = J4 at U4 de
        refine ⟨_, rfl, _, _, rfl, rfl, small_mul (by omega), _, _, rfl, rfl, (by show (0 : Int) < 1000000000000; decide), _, rfl, t1, fun l hl => ?_⟩
        have U5 := Same.upd (o := .lst [.int s]) hl
        have el : (upd J4 l (.lst [.int s])) l = some (.lst [.int s]) := upd_same
        have fl := (S1.trans (U13.trans U4)).free hl
        generalize upd J4 l (.lst [.int s]) = J5 at U5 el
        refine ⟨t3, fun r hr => ?_⟩
        have U6 := Same.upd (o := .tup [.ref te, .int (2 * n % 1000000000000), .ref l]) hr
        have ee : 2 * n % 1000000000000 = (n + n) % 1000000000000 := by rw [show 2 * n = n + n by omega]
        refine k r (.ref te) l _ _ [s] _ (S1.trans ((U13.trans U4).trans (U5.trans U6))) (SqT.of upd_same) (de.same (U5.trans U6)) fl (U6 _ _ el) ?_ (by simp) (by simpa using hs)
        rw [ee]
        exact .bind 4 _ _ n _ [s] [] (by decide) (na.te _ _) (.add _ _ n n [] [] (.slot 4 n rfl) (.slot 4 n rfl))
    · refine iteF ?_
      obtain ⟨b0, b1⟩ := na.bd
      refine ⟨_, rfl, two_le, fun ta hta => ?_⟩
      have U1 := Same.upd (o := .tup [.str "slot", .int 4]) hta
      have da : DatAt K (upd H1 ta (.tup [.str "slot", .int 4])) (.ref ta) (.tup [.str "slot", .int 4]) := .tup (SqT.of upd_same) (.cons (.str _) (.cons (.int _) .nil))
      generalize upd H1 ta (.tup [.str "slot", .int 4]) = J1 at U1 da
      refine ⟨two_le, fun tb htb => ?_⟩
      have U2 := Same.upd (o := .tup [.str "slot", .int 4]) htb
      have db : DatAt K (upd J1 tb (.tup [.str "slot", .int 4])) (.ref tb) (.tup [.str "slot", .int 4]) := .tup (SqT.of upd_same) (.cons (.str _) (.cons (.int _) .nil))
      generalize upd J1 tb (.tup [.str "slot", .int 4]) = J2 at U2 db
      refine ⟨t4, fun tc htc => ?_⟩
      have U3 := Same.upd (o := .tup [.str "op", .str "+", .ref ta, .ref tb]) htc
      have dc : DatAt K (upd J2 tc (.tup [.str "op", .str "+", .ref ta, .ref tb])) (.ref tc) (.tup [.str "op", .str "+", .tup [.str "slot", .int 4], .tup [.str "slot", .int 4]]) := .tup (SqT.of upd_same) (.cons (.str _) (.cons (.str _) (.cons (da.same (U2.trans U3)) (.cons (db.same U3) .nil))))
      generalize upd J2 tc (.tup [.str "op", .str "+", .ref ta, .ref tb]) = J3 at U3 dc
      have U13 := (U1.trans U2).trans U3
      refine ⟨t4, fun te hte => ?_⟩
      have U4 := Same.upd (o := .tup [.str "bind", .int 4, .ref td, .ref tc]) hte
      have de : DatAt K (upd J3 te (.tup [.str "bind", .int 4, .ref td, .ref tc])) (.ref te) (.tup [.str "bind", .int 4, .tup [.str "draw", .int s], .tup [.str "op", .str "+", .tup [.str "slot", .int 4], .tup [.str "slot", .int 4]]]) := .tup (SqT.of upd_same) (.cons (.str _) (.cons (.int _) (.cons (hd1.same (U13.trans U4)) (.cons (dc.same U4) .nil))))
      generalize upd J3 te (.tup [.str "bind", .int 4, .ref td, .ref tc]) = J4 at U4 de
      refine ⟨_, rfl, _, _, rfl, rfl, small_mul (by omega), _, _, rfl, rfl, (by show (0 : Int) < 1000000000000; decide), _, rfl, t1, fun l hl => ?_⟩
      have U5 := Same.upd (o := .lst [.int s]) hl
      have el : (upd J4 l (.lst [.int s])) l = some (.lst [.int s]) := upd_same
      have fl := (S1.trans (U13.trans U4)).free hl
      generalize upd J4 l (.lst [.int s]) = J5 at U5 el
      refine ⟨t3, fun r hr => ?_⟩
      have U6 := Same.upd (o := .tup [.ref te, .int (2 * n % 1000000000000), .ref l]) hr
      have ee : 2 * n % 1000000000000 = (n + n) % 1000000000000 := by rw [show 2 * n = n + n by omega]
      refine k r (.ref te) l _ _ [s] _ (S1.trans ((U13.trans U4).trans (U5.trans U6))) (SqT.of upd_same) (de.same (U5.trans U6)) fl (U6 _ _ el) ?_ (by simp) (by simpa using hs)
      rw [ee]
      exact .bind 4 _ _ n _ [s] [] (by decide) (na.te _ _) (.add _ _ n n [] [] (.slot 4 n rfl) (.slot 4 n rfl))
end
end K21
namespace K21
open PySem L2 FW PyProof.Rows
section
variable {P : Program} {w : World} {K : PySem.W.Frag} {mg : Str → Option Value} {base : Heap} {C C2 : Addr} {uR : Value}
def sp_law (K : PySem.W.Frag) : Sp := fun vs H Q _ => ∃ (a : Addr) (ns : List Int), vs = [.ref a] ∧ SqL K H a (ns.map V.int) ∧ ns.length ≤ 63 ∧ (∀ n ∈ ns, Builtin.Int.intBits n ≤ 2 ^ 20) ∧ ∀ H', Q (.bl true) H'
theorem cut_take (xs : List V) (k : Nat) : cutV xs none (some (k : Int)) = xs.take k := by
  unfold cutV
  rw [HT.sIx_none, HT.sIx_nat, List.drop_zero, Nat.sub_zero]
  rw [List.take_eq_take_iff]
  omega
structure U5 where
  x : Addr
  tk : Addr
  r : Addr
  d : Addr
  ix : Nat → Int
structure CF (K : PySem.W.Frag) (H : Hp) (C C2 dr hg Du Hn Rw hd : Addr) (ps qs : List (Addr × List Dt)) (dd : Dw) (us : List U5) : Prop where
  dw : DwM K H dr ps dd
  hw : DwM K H hg qs dd
  du : H Du = some (.lst (us.map fun u => V.ref u.d))
  hn : H Hn = some (.lst (us.map fun u => V.ref u.x))
  rw_ : H Rw = some (.lst (us.map fun u => V.ref u.r))
  hd_ : H hd = some (.dK e0)
  ds : ∀ u ∈ us, H u.d = some (.lst ((List.range dd.length).map fun i => V.int (u.ix i)))
  ha : ∀ u ∈ us, HandAt H C C2 u.x u.tk dd.length u.ix
theorem mem3 {α : Type} {u a b c : α} (h : u ∈ [a, b, c]) : u = a ∨ u = b ∨ u = c := by simpa using h
theorem range_ne {α : Type} {n : Nat} (h : 0 < n) (g : Nat → α) : (List.range n).map g ≠ [] := by
  intro z
  have := congrArg List.length z
  simp at this
  omega
theorem DwM.len {H : Hp} {dr : Addr} {ps : List (Addr × List Dt)} {dd : Dw} (h : DwM K H dr ps dd) : ps.length = dd.length := by
  have := congrArg List.length h.eq
  rwa [List.length_map, List.length_map] at this
theorem DwM.inn {H : Hp} {dr : Addr} {ps : List (Addr × List Dt)} {dd : Dw} (h : DwM K H dr ps dd) (ok : DwOk dd) : ∀ p ∈ ps, p.2 ≠ [] := fun p hp z => by
  have : p.2 ∈ dd.map (fun d => d.map pI) := by rw [← h.eq]; exact List.mem_map_of_mem (f := (·.2)) hp
  obtain ⟨d, hd, e⟩ := List.mem_map.mp this
  rw [z] at e
  exact (ok.ne d hd).1 (List.map_eq_nil_iff.mp e)
theorem DwM.cold {H H' : Hp} {dr : Addr} {ps : List (Addr × List Dt)} {dd : Dw} (h : DwM K H dr ps dd) (ok : DwOk dd) (l1 : 0 < dd.length) (c : Cold H H') : DwM K H' dr ps dd :=
  ⟨h.ll.cold c (fun z => by have := h.len; rw [z] at this; simp at this; omega) (h.inn ok), h.eq⟩
theorem lst_ne {xs : List V} (h : xs ≠ []) : (HO.lst xs) ≠ .lst [] := fun z => h (by injection z)
theorem CF.cold {H H' : Hp} {dr hg Du Hn Rw hd : Addr} {ps qs : List (Addr × List Dt)} {dd : Dw} {us : List U5} (f : CF K H C C2 dr hg Du Hn Rw hd ps qs dd us) (ok : DwOk dd) (l1 : 0 < dd.length) (lu : us.length = 3) (c : Cold H H') : CF K H' C C2 dr hg Du Hn Rw hd ps qs dd us := by
  have nu : ∀ (g : U5 → V), us.map g ≠ [] := fun g z => by
    have := congrArg List.length z
    simp at this
    rw [this] at lu
    cases lu
  refine ⟨f.dw.cold ok l1 c, f.hw.cold ok l1 c, c _ _ (lst_ne (nu _)) f.du, c _ _ (lst_ne (nu _)) f.hn, c _ _ (lst_ne (nu _)) f.rw_, c _ _ (fun z => nomatch z) f.hd_, fun u hu => c _ _ (lst_ne (range_ne l1 _)) (f.ds u hu), fun u hu => ?_⟩
  obtain ⟨dx, ⟨h1, h2⟩ | ⟨ch, h1, h2, h3⟩⟩ := f.ha u hu
  · exact ⟨dx, .inl ⟨c _ _ (fun z => nomatch z) h1, h2⟩⟩
  · exact ⟨dx, .inr ⟨ch, c _ _ (fun z => nomatch z) h1, c _ _ (lst_ne (range_ne l1 _)) h2, h3⟩⟩
/-- the changing lists: of each hand what it has taken, and what the law has noted -/
def Hot (K : PySem.W.Frag) (H : Hp) (us : List U5) (rows : Nat → List (Int × Int)) : Prop := ∀ j u, us[j]? = some u → LsM K H u.tk ((rows j).map pI) ∧ LsM K H u.r ((rows j).map pI)
structure Nds (us : List U5) : Prop where
  tr : ∀ (i j : Nat) (u v : U5), us[i]? = some u → us[j]? = some v → u.tk ≠ v.r
  tt : ∀ (i j : Nat) (u v : U5), us[i]? = some u → us[j]? = some v → i ≠ j → u.tk ≠ v.tk
  rr : ∀ (i j : Nat) (u v : U5), us[i]? = some u → us[j]? = some v → i ≠ j → u.r ≠ v.r
def ZsOk (dd : Dw) (zs : List Int) : Prop := ∀ (t : Nat) (z : Int) (d : List (Int × Int)), zs[t]? = some z → dd[t]? = some d → 0 ≤ z ∧ z < (d.length : Int)
theorem ZsOk.snoc {dd : Dw} {zs : List Int} {d : List (Int × Int)} {z : Int} (h : ZsOk dd zs) (hd : dd[zs.length]? = some d) (z0 : 0 ≤ z) (z1 : z < (d.length : Int)) : ZsOk dd (zs ++ [z]) := fun t y e h1 h2 => by
  by_cases ht : t < zs.length
  · rw [List.getElem?_append_left ht] at h1
    exact h t y e h1 h2
  · rw [List.getElem?_append_right (by omega)] at h1
    have : t - zs.length = 0 := by
      have := (List.getElem?_eq_some_iff.mp h1).1
      simp at this
      omega
    rw [this] at h1
    simp at h1
    subst h1
    have et : t = zs.length := by omega
    rw [et, hd] at h2
    cases h2
    exact ⟨z0, z1⟩
theorem ZsOk.io {dd : Dw} {zs : List Int} (h : ZsOk dd zs) (l : zs.length = dd.length) : IxOk dd (fun t => zs.getD t 0) := fun i d hd => by
  have hi : i < zs.length := by
    have := (List.getElem?_eq_some_iff.mp hd).1
    omega
  have e : zs[i]? = some zs[i] := List.getElem?_eq_getElem hi
  obtain ⟨z0, z1⟩ := h i _ d e hd
  have hj : (zs[i]).toNat < d.length := by omega
  refine ⟨(zs[i]).toNat, d[(zs[i]).toNat], ?_, List.getElem?_eq_getElem hj⟩
  show zs.getD i 0 = _
  rw [List.getD_eq_getElem?_getD, e]
  show zs[i] = _
  omega
theorem as_range (zs : List Int) : zs.map V.int = (List.range zs.length).map fun t => V.int (zs.getD t 0) := by
  refine List.ext_getElem (by simp) fun i h1 h2 => ?_
  have hi : i < zs.length := by simpa using h1
  simp [List.getD_eq_getElem?_getD, hi]
/-- the classes, as they stand to each other -/
structure Isi (K : PySem.W.Frag) (C C2 : Addr) : Prop where
  a : PySem.W.findIn K (.ref C2) "__class__" = some (some (.builtin "object.__class__"))
  b : PySem.W.specialIn K (.builtin "object.__class__") "__get__" = some (some (.builtin "getset_descriptor.__get__"))
  c : PySem.W.takesIn K (.builtin "object.__class__") = some true
  d : PySem.W.mroIn K C2 (.type "object") = some true
  e1 : PySem.W.isClsIn K C = true
  e2 : PySem.W.typeIn K (.ref C) = some (.type "type")
  e3 : PySem.W.subIn K (.ref C2) (.ref C) = some true
theorem Isi.e {K : PySem.W.Frag} {C C2 : Addr} (h : Isi K C C2) : PySem.W.kitOne K (.ref C2) (.ref C) = some true := by
  unfold PySem.W.kitOne
  split
  · rfl
  · have e1 : (PySem.W.clsIn K C).isSome = true := h.e1
    show (if ((PySem.W.clsIn K C).isSome && PySem.W.typeIn K (.ref C) == some (.type "type")) = true then PySem.W.subIn K (.ref C2) (.ref C) else none) = some true
    rw [e1, h.e2]
    exact h.e3
theorem rows_eq (ix : Nat → Int) (rs : List (Int × Int)) (l : List Nat) : rs.map pI ++ asks ix l = (rs ++ l.map fun (i : Nat) => ((i : Int), ix i)).map pI := by
  rw [List.map_append, List.map_map]
  rfl
theorem hgts_ints (zs : List Int) : Dt.hgts (zs.map Dt.int) ≤ 30 := by
  induction zs with
  | nil => simp [Dt.hgts]
  | cons z zs ih => simp only [List.map_cons, Dt.hgts, Dt.hgt]; omega
theorem hgts_prs (d : List (Int × Int)) : Dt.hgts (d.map pI) ≤ 30 := by
  induction d with
  | nil => simp [Dt.hgts]
  | cons z zs ih => simp only [List.map_cons, Dt.hgts, Dt.hgt]; omega
theorem dats_ints {H : Hp} (zs : List Int) : DatsAt K H (zs.map V.int) (zs.map Dt.int) := by
  induction zs with
  | nil => exact .nil
  | cons z zs ih => exact .cons (.int z) ih
set_option maxHeartbeats 16000000 in
theorem ok_law {f f1 f2 f3 f4 f5 f6 f7 f8 f9 fa fb fT fH fL g1 g2 : Addr} {fd d1 d2 d3 d4 d5 d6 d7 d8 d9 da db dT dH dL e1 e2 : FuncData} (A : FnAt K mg "law" s_law ["_law_script"] f fd)
    (A_parts_of : FnAt K mg "parts_of" s_parts_of ["term"] f1 d1) (A_counted : FnAt K mg "counted" s_counted ["outcome"] f2 d2) (A_figured_op : FnAt K mg "figured_op" s_figured_op ["sign", "one", "other"] f3 d3) (A_figured : FnAt K mg "figured" s_figured ["term", "values"] f4 d4) (A_told : FnAt K mg "told" s_told ["term", "held", "draws", "hand"] f5 d5)
    (A_law_cell_at : FnAt K mg "_law_cell_at" s_law_cell_at ["_law_script", "_law_k"] f6 d6) (A_law_mix : FnAt K mg "_law_mix" s_law_mix ["_law_cell", "_law_k"] f7 d7) (A_law_draws : FnAt K mg "_law_draws" s_law_draws ["_law_cell", "_law_many"] f8 d8) (A_law_number : FnAt K mg "_law_number" s_law_number ["_law_found", "_law_due"] f9 d9)
    (A_law_alike : FnAt K mg "_law_alike" s_law_alike ["_law_found", "_law_due"] fa da) (A_law_case : FnAt K mg "_law_case" s_law_case ["_law_site", "_law_draws_here", "_law_chosen", "_law_cell"] fb db)
    (FT : Fun K "take" "Hand.take" s_Hand_take fT dT) (b_take : Binds K dT ["self", "site", "draw"] []) (M_take : Meth K C "take" fT) (M_take2 : Meth K C2 "take" fT) (M_index1 : Meth K C "index_at" g1) (F1 : Fun K "index_at" "Hand.index_at" s_Hand_index_at g1 e1) (b_index1 : Binds K e1 ["self", "site", "draw"] [])
    (M_index2 : Meth K C2 "index_at" g2) (F2 : Fun K "index_at" "Listed.index_at" s_Listed_index_at g2 e2) (b_index2 : Binds K e2 ["self", "site", "draw"] [])
    (M_Hand : Mk K C fH) (FH : Fun K "__init__" "Hand.__init__" s_Hand_init fH dH) (b_Hand_init : Binds K dH ["self"] []) (M_Listed : Mk K C2 fL) (FL : Fun K "__init__" "Listed.__init__" s_Listed_init fL dL) (b_Listed_init : Binds K dL ["self", "choices"] [])
    (CM : ClsM K C "__init__" fH) (I5 : Isi K C C2) (T : Txt K mg C C2 uR) :
    FnOk P w K mg base CX0 8 f fd ["_law_script"] (sp_law K) := by
  have G_told : FnOk P w K mg base CX0 7 f5 d5 _ (sp_told K C C2 3) := ok_told A_told A_parts_of A_figured A_figured_op A_counted FT b_take M_take M_take2 M_index1 F1 b_index1 M_index2 F2 b_index2 T 3
  have G_take : FnOk P w K mg base CX0 2 fT dT ["self", "site", "draw"] (sp_take K C C2) := ok_take FT M_index1 F1 b_index1 M_index2 F2 b_index2 T
  have G_law_cell_at : FnOk P w K mg base CX0 1 f6 d6 _ (sp_cell_at K) := ok_law_cell_at A_law_cell_at T
  have G_law_mix : FnOk P w K mg base CX0 1 f7 d7 _ sp_mix := ok_law_mix A_law_mix
  have G_law_draws : FnOk P w K mg base CX0 2 f8 d8 _ (sp_draws K) := ok_law_draws A_law_draws A_law_mix T
  have G_law_number : FnOk P w K mg base CX0 1 f9 d9 _ sp_number := ok_law_number A_law_number T
  have G_law_alike : FnOk P w K mg base CX0 2 fa da _ (sp_alike K) := ok_law_alike A_law_alike A_law_number T
  have G_law_case : FnOk P w K mg base CX0 1 fb db _ (sp_case K) := ok_law_case A_law_case T
  have G_Hand_init : FnOk P w K mg base CX0 1 fH dH ["self"] (sp_init C) := ok_init FH T.cl T.nT
  have G_Listed_init : FnOk P w K mg base CX0 2 fL dL ["self", "choices"] (sp_init2 K C2) := ok_init2 FL CM FH b_Hand_init T
  refine A.F.ok sc_law (fun vs H Q E h => ?_) (fun cdv Ar outer s' H vs Q E hr h => ?_)
  · obtain ⟨a, ns, rfl, _⟩ := h
    rfl
  · obtain ⟨sc, ns, rfl, hl, few, _, kk⟩ := h
    refine ⟨_, (pss_cons (ps_set (i := 1) sc_law.nd rfl (Or.inl rfl) (pe_op op_add pe_int (pe_op op_mod (pe_call G_law_cell_at (hr.mono (by decide)) rfl A_law_cell_at.m A_law_cell_at.F.kp A_law_cell_at.b .nil pass0 (pa_cons (pv 0) (pa_cons pe_int pa_nil))) pe_int)))
      (pss_cons (ps_set (i := 2) sc_law.nd rfl (Or.inr rfl) (pe_call G_law_draws (hr.mono (by decide)) rfl A_law_draws.m A_law_draws.F.kp A_law_draws.b .nil pass0 (pa_cons (pe_call G_law_cell_at (hr.mono (by decide)) rfl A_law_cell_at.m A_law_cell_at.F.kp A_law_cell_at.b .nil pass0 (pa_cons (pv 0) (pa_cons pe_int pa_nil))) (pa_cons (pv 1) pa_nil))))
      (pss_cons (ps_comp (i := 3) rfl sc_law.nd rfl (Or.inl rfl) (Nc := ["_law_k", "_law_script", "_law_draws_here"]) (caps2 1 0 2 2 [(".0", .local), ("_law_k", .local), ("_law_mix", .globalImplicit), ("_law_cell_at", .globalImplicit), ("len", .globalImplicit), ("_law_draws_here", .cell), ("_law_script", .cell)] rfl rfl rfl (by decide +kernel) (by decide +kernel) rfl rfl (by decide) (by decide +kernel) rfl rfl rfl rfl rfl rfl rfl rfl) (pi_range1 rfl T.range_ (pa_cons (pv 1) pa_nil)) (fun _ _ _ _ => (pg_name (i := 0) (show List.Nodup (["_law_k", "_law_script", "_law_draws_here"] : List Str) by decide +kernel) rfl (Or.inl rfl))) (fun _ _ _ _ => pts_nil) (fun _ _ _ _ => by exact (pe_op op_mod (pe_call G_law_mix (hr.mono (by decide)) rfl A_law_mix.m A_law_mix.F.kp A_law_mix.b .nil pass0 (pa_cons (pe_call G_law_cell_at (hr.mono (by decide)) rfl A_law_cell_at.m A_law_cell_at.F.kp A_law_cell_at.b .nil pass0 (pa_cons (pv 1) (pa_cons pe_int pa_nil))) (pa_cons (pv 0) pa_nil))) (pe_callB (call_len_seqK (K := K) rfl) (by rfl) T.len_ Boot.«len» (pa_cons (pe_ix (ix_listK (K := K) rfl) (pv 2) (pv 0) (fun _ _ => rfl)) pa_nil)))))
      (pss_cons (ps_comp (i := 4) rfl sc_law.nd rfl (Or.inl rfl) (Nc := ["_law_draw"]) (caps0 rfl (by decide +kernel) (by decide +kernel) (by decide +kernel)) (pi_list (pv 2)) (fun _ _ _ _ => (pg_name (i := 0) (show List.Nodup (["_law_draw"] : List Str) by decide +kernel) rfl (Or.inl rfl))) (fun _ _ _ _ => pts_nil) (fun _ _ _ _ => by exact (pe_op op_sub (pe_callB (call_len_seqK (K := K) rfl) (by rfl) T.len_ Boot.«len» (pa_cons (pv 0) pa_nil)) pe_int)))
      (pss_cons (ps_set (i := 5) sc_law.nd rfl (Or.inl rfl) (pe_lst (pa_cons (pe_comp rfl (Nc := ["_law_draw"]) (caps0 rfl (by decide +kernel) (by decide +kernel) (by decide +kernel)) (pi_list (pv 2)) (fun _ _ _ _ => (pg_name (i := 0) (show List.Nodup (["_law_draw"] : List Str) by decide +kernel) rfl (Or.inl rfl))) (fun _ _ _ _ => pts_nil) (fun _ _ _ _ => pe_int)) (pa_cons (pe_callTy call_list_of (by rfl) T.list_ Boot.«list» (pa_cons (pv 3) pa_nil)) (pa_cons (pe_callTy call_list_of (by rfl) T.list_ Boot.«list» (pa_cons (pv 4) pa_nil)) pa_nil)))))
      (pss_cons (ps_set (i := 6) sc_law.nd rfl (Or.inl rfl) (pe_lst (pa_cons (pe_callTy call_list_of (by rfl) T.list_ Boot.«list» (pa_cons (pv 3) pa_nil)) (pa_cons (pe_callTy call_list_of (by rfl) T.list_ Boot.«list» (pa_cons (pv 4) pa_nil)) pa_nil))))
      (pss_cons (ps_set (i := 7) sc_law.nd rfl (Or.inl rfl) (pe_lst (pa_cons (pe_make0 M_Hand G_Hand_init (hr.mono (by decide)) rfl T.Hand_ b_Hand_init .nil pass0) (pa_cons (pe_make M_Listed G_Listed_init (hr.mono (by decide)) rfl T.Listed_ b_Listed_init .nil pass0 (pa_cons (pe_ix ix_list (pv 6) pe_int (fun _ _ => rfl)) pa_nil)) (pa_cons (pe_make M_Listed G_Listed_init (hr.mono (by decide)) rfl T.Listed_ b_Listed_init .nil pass0 (pa_cons (pe_ix ix_list (pv 6) pe_int (fun _ _ => rfl)) pa_nil)) pa_nil)))))
      (pss_cons (ps_if (pt_not (pt_val (pe_callB call_isiC (by rfl) T.isinstance_ Boot.«isinstance» (pa_cons (pe_ix ix_list (pv 7) pe_int (fun _ _ => rfl)) (pa_cons (pe_glob rfl T.Hand_ (v := .ref C) rfl) pa_nil))))) (pss_one (ps_ret pe_bl)) pss_nil)
      (pss_cons (ps_expr (pe_bm0 PySem.F.plainAttrs_list PySem.F.slot_list_reverse PySem.F.type_list_reverse mt_reverse (pe_ix ix_list (pv 6) pe_int (fun _ _ => rfl))))
      (pss_cons (ps_expr (pe_bm PySem.F.plainAttrs_list PySem.F.slot_list_append PySem.F.type_list_append mt_append (pe_ix ix_list (pv 6) pe_int (fun _ _ => rfl)) (pa_cons pe_int pa_nil)))
      (pss_cons (ps_set (i := 8) sc_law.nd rfl (Or.inl rfl) (pe_disp (pps_cons pe_int pe_int (pps_cons pe_int pe_int pps_nil)) rfl rfl (by simp) (by decide)))
      (pss_cons (ps_set (i := 9) sc_law.nd rfl (Or.inl rfl) (pe_lst (pa_cons (pe_lst pa_nil) (pa_cons (pe_lst pa_nil) (pa_cons (pe_lst pa_nil) pa_nil)))))
      (pss_cons (ps_comp (i := 10) rfl sc_law.nd rfl (Or.inl rfl) (Nc := ["_law_draw"]) (caps0 rfl (by decide +kernel) (by decide +kernel) (by decide +kernel)) (pi_list (pv 2)) (fun _ _ _ _ => (pg_name (i := 0) (show List.Nodup (["_law_draw"] : List Str) by decide +kernel) rfl (Or.inl rfl))) (fun _ _ _ _ => pts_nil) (fun _ _ _ _ => by exact (pe_callTy (call_list_ofK (K := K) rfl) (by rfl) T.list_ Boot.«list» (pa_cons (pv 0) pa_nil))))
      (pss_cons (ps_for PassesOwn.never rfl (pi_list (pe_slice sl_list (pv 0) po_none (po_some pe_int))) (pg_name (i := 11) sc_law.nd rfl (Or.inl rfl)) (pss_cons (ps_set (i := 12) sc_law.nd rfl (Or.inl rfl) (pe_op op_mod (pe_call G_law_mix (hr.mono (by decide)) rfl A_law_mix.m A_law_mix.F.kp A_law_mix.b .nil pass0 (pa_cons (pv 11) (pa_cons pe_int pa_nil))) (pv 1)))
      (pss_cons (ps_set (i := 13) sc_law.nd rfl (Or.inl rfl) (pe_op op_mod (pv 11) pe_int))
      (pss_cons (ps_asg (pe_call G_law_case (hr.mono (by decide)) rfl A_law_case.m A_law_case.F.kp A_law_case.b .nil pass0 (pa_cons (pv 12) (pa_cons (pv 2) (pa_cons (pe_ix ix_list (pv 5) (pv 13) (fun _ _ => rfl)) (pa_cons (pe_op op_fdivP (pv 11) pe_int) pa_nil))))) (pg_tup rfl (pgs_cons (pg_name (i := 14) sc_law.nd rfl (Or.inl rfl)) (pgs_cons (pg_name (i := 15) sc_law.nd rfl (Or.inl rfl)) (pgs_cons (pg_name (i := 16) sc_law.nd rfl (Or.inl rfl)) pgs_nil)))))
      (pss_cons (ps_if (pt_not (pt_val (pe_call G_law_number (hr.mono (by decide)) rfl A_law_number.m A_law_number.F.kp A_law_number.b .nil pass0 (pa_cons (pe_call G_told (hr.mono (by decide)) rfl A_told.m A_told.F.kp A_told.b .nil pass0 (pa_cons (pv 14) (pa_cons (pv 8) (pa_cons (pv 10) (pa_cons (pe_ix ix_list (pv 7) (pv 13) (fun _ _ => rfl)) pa_nil))))) (pa_cons (pv 15) pa_nil))))) (pss_one (ps_ret pe_bl)) pss_nil)
      (pss_cons (ps_if (pt_not (pt_val (pe_call G_law_number (hr.mono (by decide)) rfl A_law_number.m A_law_number.F.kp A_law_number.b .nil pass0 (pa_cons (pe_meth2 (pe_ix ix_list (pv 7) (pv 13) (fun _ _ => rfl)) T.cl M_take G_take (hr.mono (by decide)) b_take pass0 T.cl2 M_take2 G_take (hr.mono (by decide)) b_take pass0 (pa_cons (pv 12) (pa_cons (pe_callTy call_list_of (by rfl) T.list_ Boot.«list» (pa_cons (pe_ix ix_list (pv 2) (pv 12) (fun _ _ => rfl)) pa_nil)) pa_nil))) (pa_cons (pe_ix ix_list (pe_ix ix_list (pv 5) (pv 13) (fun _ _ => rfl)) (pv 12) (fun _ _ => rfl)) pa_nil))))) (pss_one (ps_ret pe_bl)) pss_nil)
      (pss_one (ps_for PassesOwn.never rfl (pi_list (pe_op op_cat (pv 16) (pe_lst (pa_cons (pv 12) pa_nil)))) (pg_name (i := 17) sc_law.nd rfl (Or.inl rfl)) (pss_one (ps_expr (pe_bm PySem.F.plainAttrs_list PySem.F.slot_list_append PySem.F.type_list_append mt_append (pe_ix ix_list (pv 9) (pv 13) (fun _ _ => rfl)) (pa_cons (pe_tup (pa_cons (pv 17) (pa_cons (pe_ix ix_list (pe_ix ix_list (pv 5) (pv 13) (fun _ _ => rfl)) (pv 17) (fun _ _ => rfl)) pa_nil))) pa_nil))))))))))))
      (pss_cons (ps_for PassesOwn.never rfl (pi_range1 rfl T.range_ (pa_cons pe_int pa_nil)) (pg_name (i := 13) sc_law.nd rfl (Or.inl rfl)) (pss_one (ps_if (pt_not (pt_val (pe_call G_law_alike (hr.mono (by decide)) rfl A_law_alike.m A_law_alike.F.kp A_law_alike.b .nil pass0 (pa_cons (pe_fld (pe_ix ix_list (pv 7) (pv 13) (fun _ _ => rfl)) rfl) (pa_cons (pe_ix ix_list (pv 9) (pv 13) (fun _ _ => rfl)) pa_nil))))) (pss_one (ps_ret pe_bl)) pss_nil)))
      (pss_cons (ps_expr (pe_bm0 PySem.F.plainAttrs_list PySem.F.slot_list_reverse PySem.F.type_list_reverse mt_reverse (pv 3)))
      (pss_one (ps_ret (pe_and (pe_cmpR (op_eqLL hr.units) (pv 10) (pv 2) (nomark _)) (pe_and (pe_cmpR (op_eqLL hr.units) (pv 6) (pe_lst (pa_cons (pv 3) (pa_cons (pe_op op_cat (pv 4) (pe_lst (pa_cons pe_int pa_nil))) pa_nil))) (nomark _)) (pe_one (pe_cmpR (op_eqDi hr.units) (pv 8) (pe_disp (pps_cons pe_int pe_int (pps_cons pe_int pe_int pps_nil)) rfl rfl (by simp) (by decide)) (nomark _))))))))))))))))))))))), ?_⟩
    -- many, draws_here
    refine ⟨_, rfl, sc, ns, 0, rfl, hl, fun c0 => ?_⟩
    have z0 := Int.emod_nonneg c0 (show (60 : Int) ≠ 0 by decide)
    have z1 := Int.emod_lt_of_pos c0 (show (0 : Int) < 60 by decide)
    refine ⟨_, _, rfl, rfl, (by show (0 : Int) < 60; decide), _, _, rfl, rfl, ?_⟩
    refine ⟨_, rfl, sc, ns, 1, rfl, hl, fun c1 => ⟨_, rfl, c1, _, rfl, by omega, by omega, fun dr H1 ps dd S1 hdr dw ld ok => ?_⟩⟩
    have l1 : 0 < dd.length := by omega
    have l60 : dd.length ≤ 60 := by omega
    dsimp only
    rw [← ld]
    clear z0 z1 ld
    have hl := S1.seq hl
    -- chosen
    refine ⟨_, rfl, _, rfl, by omega, by omega, fun Ch hCh => ?_⟩
    refine comp_range (lo := 0) (D := Ch) (fun i σ ys H' => (∃ o1, σ = [o1, some (.ref sc), some (.ref dr)]) ∧ Same H1 H' ∧ H' Ch = some (.lst ys) ∧ ∃ zs : List Int, ys = zs.map V.int ∧ zs.length = i ∧ ZsOk dd zs)
      ⟨⟨none, rfl⟩, .upd hCh, upd_same, [], rfl, rfl, (fun _ _ _ h => by simp at h)⟩ ?_ ?_ ?_
    · rintro i σ ys H' hi ⟨_, S, eC, zs, rfl, lz, _⟩
      exact ⟨eC, by rw [List.length_map]; exact Nat.lt_of_le_of_lt (show zs.length ≤ 60 by omega) (by decide)⟩
    · rintro i σ ys H' hi ⟨⟨o1, rfl⟩, S, eC, zs, rfl, lz, zk⟩ N hN
      have hi' : i < dd.length := by omega
      have hd : dd[i]? = some dd[i] := List.getElem?_eq_getElem hi'
      obtain ⟨q, eq, e3⟩ := (dw.same S).row hd
      obtain ⟨ws, ew, dws⟩ := (dw.same S).ll.it q (List.mem_of_getElem? eq)
      rw [e3] at dws
      have lw := dws.length
      rw [List.length_map] at lw
      have hne := (ok.ne _ (List.mem_of_getElem? hd)).1
      have hpos : 0 < (dd[i]).length := List.length_pos_iff.mpr hne
      refine iteT (B := True) ?_
      refine ⟨_, rfl, sc, ns, 2, rfl, S.seq hl, fun c2 => ⟨_, rfl, c2, _, rfl, by omega, by omega, fun m m0 m1 => ?_⟩⟩
      refine ⟨_, rfl, _, rfl, dr, _, _, .ref q.1, rfl, rfl, SqL.of (dw.same S).ll.at_, atI0 (by rw [List.getElem?_map, eq]; rfl), q.1, ws, rfl, .inl (SqL.of ew), _, _, rfl, rfl, (by show (0 : Int) < (ws.length : Nat); omega), ?_⟩
      refine ⟨eC, hN _ _ _ ⟨⟨_, rfl⟩, fun b o e => ?_, upd_same, zs ++ [m % (ws.length : Nat)], by rw [List.map_append]; rfl, by rw [List.length_append, lz]; rfl, zk.snoc (d := dd[i]) (by rw [lz]; exact hd) (Int.emod_nonneg _ (by omega)) ?_⟩⟩
      · rw [upd_ne (ne_of_none e hCh)]
        exact S _ _ e
      · have := Int.emod_lt_of_pos m (show (0 : Int) < (ws.length : Nat) by omega)
        omega
    rintro σ ys H2 ⟨_, S2, eC, zs, rfl, lz, zk⟩
    have lz : zs.length = dd.length := by omega
    have dw2 := dw.same S2
    -- last
    refine ⟨_, rfl, dr, rfl, ⟨_, SqL.of dw2.ll.at_⟩, fun La hLa => ?_⟩
    refine comp_list (K := K) (a := dr) (D := La) (xs := ps.map fun p => V.ref p.1) (fun i σ ys H' => (∃ o1, σ = [o1]) ∧ Same H2 H' ∧ H' La = some (.lst ys) ∧ ys = ((dd.take i).map fun d => ((d.length : Int) - 1)).map V.int)
      ⟨⟨none, rfl⟩, .upd hLa, upd_same, rfl⟩ ?_ ?_ ?_
    · rintro i σ ys H' hi ⟨_, S, eK, rfl⟩
      exact ⟨SqL.of (S _ _ dw2.ll.at_), eK, Nat.lt_of_le_of_lt (show (((dd.take i).map fun d => ((d.length : Int) - 1)).map V.int).length ≤ 60 by rw [List.length_map, List.length_map, List.length_take]; omega) (by decide)⟩
    · rintro i x σ ys H' hx ⟨⟨o1, rfl⟩, S, eK, rfl⟩ N hN
      obtain ⟨p0, e0', rfl⟩ := map_get hx
      have hi' : i < dd.length := by
        have := (List.getElem?_eq_some_iff.mp e0').1
        have := dw.len
        omega
      have hd : dd[i]? = some dd[i] := List.getElem?_eq_getElem hi'
      obtain ⟨q, eq, e3⟩ := dw.row hd
      rw [e0'] at eq
      cases eq
      obtain ⟨ws, ew, dws⟩ := ((dw2.same S).ll.it p0 (List.mem_of_getElem? e0'))
      rw [e3] at dws
      have lw := dws.length
      rw [List.length_map] at lw
      refine iteT (B := True) ?_
      refine ⟨_, rfl, p0.1, ws, rfl, .inl (SqL.of ew), _, _, rfl, rfl, ?_⟩
      refine ⟨eK, hN _ _ _ ⟨⟨_, rfl⟩, fun b o e => ?_, upd_same, ?_⟩⟩
      · rw [upd_ne (ne_of_none e hLa)]
        exact S _ _ e
      · rw [take_snoc' hd, List.map_append, List.map_append, lw]
        rfl
    rintro σ ys H3 ⟨_, S3, eLa, rfl⟩
    rw [List.take_of_length_le (by rw [List.length_map]; have := dw.len; omega)] at eLa
    have dw3 := dw2.same S3
    have nLC : La ≠ Ch := (ne_of_none eC hLa).symm
    have eC3 := S3 _ _ eC
    obtain ⟨zl, hzl⟩ : ∃ zl, (dd.map fun d => ((d.length : Int) - 1)) = zl := ⟨_, rfl⟩
    have zlk : ZsOk dd zl := fun t z d h1 h2 => by
      rw [← hzl, List.getElem?_map, h2] at h1
      cases h1
      have := List.length_pos_iff.mpr (ok.ne d (List.mem_of_getElem? h2)).1
      show 0 ≤ (d.length : Int) - 1 ∧ (d.length : Int) - 1 < (d.length : Int)
      omega
    have lzl : zl.length = dd.length := by rw [← hzl, List.length_map]
    rw [hzl] at eLa
    -- due
    refine ⟨_, rfl, dr, rfl, ⟨_, SqL.of dw3.ll.at_⟩, fun d0 hd0 => ?_⟩
    refine comp_list (K := K) (a := dr) (D := d0) (xs := ps.map fun p => V.ref p.1) (fun i σ ys H' => (∃ o1, σ = [o1]) ∧ Same H3 H' ∧ H' d0 = some (.lst ys) ∧ ys = (List.range i).map fun _ => V.int 0)
      ⟨⟨none, rfl⟩, .upd hd0, upd_same, rfl⟩ ?_ ?_ ?_
    · rintro i σ ys H' hi ⟨_, S, eK, rfl⟩
      rw [List.length_map] at hi
      have := dw.len
      exact ⟨SqL.of (S _ _ dw3.ll.at_), eK, Nat.lt_of_le_of_lt (show ((List.range i).map fun _ => V.int 0).length ≤ 60 by rw [List.length_map, List.length_range]; omega) (by decide)⟩
    · rintro i x σ ys H' hx ⟨⟨o1, rfl⟩, S, eK, rfl⟩ N hN
      refine iteT (B := True) ?_
      refine ⟨eK, hN _ _ _ ⟨⟨_, rfl⟩, fun b o e => ?_, upd_same, by rw [List.range_succ, List.map_append]; rfl⟩⟩
      rw [upd_ne (ne_of_none e hd0)]
      exact S _ _ e
    rintro σ ys H4 ⟨_, S4, ed0, rfl⟩
    rw [List.length_map, dw.len] at ed0
    have eC4 := S4 _ _ eC3
    have eLa4 := S4 _ _ eLa
    refine ⟨_, rfl, Ch, _, rfl, .inl (SqL.of eC4), fun d1 hd1 => ?_⟩
    have S5 := Same.upd (o := .lst (zs.map V.int)) hd1
    have ed1 : (upd H4 d1 (.lst (zs.map V.int))) d1 = some (.lst (zs.map V.int)) := upd_same
    generalize upd H4 d1 (.lst (zs.map V.int)) = H5 at S5 ed1
    refine ⟨_, rfl, La, _, rfl, .inl (SqL.of (S5 _ _ eLa4)), fun d2 hd2 => ?_⟩
    have S6 := Same.upd (o := .lst (zl.map V.int)) hd2
    have ed2 : (upd H5 d2 (.lst (zl.map V.int))) d2 = some (.lst (zl.map V.int)) := upd_same
    generalize upd H5 d2 (.lst (zl.map V.int)) = H6 at S6 ed2
    refine ⟨t3, fun Du hDu => ?_⟩
    have S7 := Same.upd (o := .lst [.ref d0, .ref d1, .ref d2]) hDu
    have eDu : (upd H6 Du (.lst [.ref d0, .ref d1, .ref d2])) Du = some (.lst [.ref d0, .ref d1, .ref d2]) := upd_same
    generalize upd H6 Du (.lst [.ref d0, .ref d1, .ref d2]) = H7 at S7 eDu
    have S47 := S5.trans (S6.trans S7)
    have dw7 := (dw3.same S4).same S47
    have eC7 := S47 _ _ eC4
    have eLa7 := S47 _ _ eLa4
    have ed0 := S47 _ _ ed0
    have ed1 := (S6.trans S7) _ _ ed1
    have ed2 := S7 _ _ ed2
    have S17 := S2.trans (S3.trans (S4.trans S47))
    clear S2 S3 S4 S5 S6 S7 S47 eC eC3 eC4 eLa eLa4 dw2 dw3 hd0 hd1 hd2 hDu hLa
    -- lists
    refine ⟨_, rfl, Ch, _, rfl, .inl (SqL.of eC7), fun l0 hl0 => ?_⟩
    have S8 := Same.upd (o := .lst (zs.map V.int)) hl0
    have el0 : (upd H7 l0 (.lst (zs.map V.int))) l0 = some (.lst (zs.map V.int)) := upd_same
    generalize upd H7 l0 (.lst (zs.map V.int)) = H8 at S8 el0
    refine ⟨_, rfl, La, _, rfl, .inl (SqL.of (S8 _ _ eLa7)), fun l1' hl1 => ?_⟩
    have S9 := Same.upd (o := .lst (zl.map V.int)) hl1
    have el1 : (upd H8 l1' (.lst (zl.map V.int))) l1' = some (.lst (zl.map V.int)) := upd_same
    have n01 : l0 ≠ l1' := ne_of_none el0 hl1
    have hl1 := S8.free hl1
    generalize upd H8 l1' (.lst (zl.map V.int)) = H9 at S9 el1
    refine ⟨two_le, fun Ls hLs => ?_⟩
    have S10 := Same.upd (o := .lst [.ref l0, .ref l1']) hLs
    have eLs : (upd H9 Ls (.lst [.ref l0, .ref l1'])) Ls = some (.lst [.ref l0, .ref l1']) := upd_same
    have nL0 : Ls ≠ l0 := (ne_of_none (S9 _ _ el0) hLs).symm
    have nL1 : Ls ≠ l1' := (ne_of_none el1 hLs).symm
    generalize upd H9 Ls (.lst [.ref l0, .ref l1']) = Ha at S10 eLs
    have el0 := (S9.trans S10) _ _ el0
    have el1 := S10 _ _ el1
    have S7a := S8.trans (S9.trans S10)
    clear S8 S9 S10 hLs
    -- hands
    refine fun x0 dx0 nx0 ndx0 nex0 => ⟨x0, dx0, rfl, upd_same, fun tk0 htk0 => ⟨rfl, ?_⟩⟩
    have Q0 : Same Ha (upd (upd (upd (upd Ha dx0 (.own x0)) x0 (.ins C dx0 [])) tk0 (.lst [])) x0 (.ins C dx0 [("taken", .ref tk0)])) := fun b o e => by
      have q1 := ne_of_none e nx0
      have q2 := ne_of_none e ndx0
      have e' : (upd (upd Ha dx0 (.own x0)) x0 (.ins C dx0 [])) b = some o := by rw [upd_ne q1, upd_ne q2]; exact e
      rw [upd_ne q1, upd_ne (ne_of_none e' htk0)]
      exact e'
    have nxt0 : x0 ≠ tk0 := ne_of_none (show (upd (upd Ha dx0 (.own x0)) x0 (.ins C dx0 [])) x0 = some (.ins C dx0 []) from upd_same) htk0
    have ftk0 : Ha tk0 = none := by
      by_cases z : tk0 = x0
      · exact absurd z.symm nxt0
      · rw [upd_ne z] at htk0
        by_cases z2 : tk0 = dx0
        · subst z2; rw [upd_same] at htk0; cases htk0
        · rw [upd_ne z2] at htk0; exact htk0
    have ex0 : (upd (upd (upd (upd Ha dx0 (.own x0)) x0 (.ins C dx0 [])) tk0 (.lst [])) x0 (.ins C dx0 [("taken", .ref tk0)])) x0 = some (.ins C dx0 [("taken", .ref tk0)]) := upd_same
    have et0 : (upd (upd (upd (upd Ha dx0 (.own x0)) x0 (.ins C dx0 [])) tk0 (.lst [])) x0 (.ins C dx0 [("taken", .ref tk0)])) tk0 = some (.lst []) := by rw [upd_ne nxt0.symm, upd_same]
    generalize upd (upd (upd (upd Ha dx0 (.own x0)) x0 (.ins C dx0 [])) tk0 (.lst [])) x0 (.ins C dx0 [("taken", .ref tk0)]) = Hb at Q0 ex0 et0
    clear htk0 nex0
    refine ⟨_, rfl, Ls, _, 0, .ref l0, rfl, rfl, SqL.of (Q0 _ _ eLs), rfl, fun x1 dx1 nx1 ndx1 nex1 => ?_⟩
    have R1 : Same Hb (upd (upd Hb dx1 (.own x1)) x1 (.ins C2 dx1 [])) := fun b o e => by rw [upd_ne (ne_of_none e nx1), upd_ne (ne_of_none e ndx1)]; exact e
    refine ⟨x1, dx1, l0, _, rfl, upd_same, R1 _ _ (Q0 _ _ el0), fun tk1 ch1 Hc B1 htk1 hch1 nct1 ex1 et1 ec1 => ⟨rfl, ?_⟩⟩
    have Q1 : Same Hb Hc := fun b o e => B1 _ _ (ne_of_none e nx1) (R1 _ _ e)
    have ftk1 := R1.free htk1
    have fch1 := R1.free hch1
    clear R1 B1 htk1 hch1 nex1
    have Qa1 := Q0.trans Q1
    refine ⟨_, rfl, Ls, _, 1, .ref l1', rfl, rfl, SqL.of (Qa1 _ _ eLs), rfl, fun x2 dx2 nx2 ndx2 nex2 => ?_⟩
    have R2 : Same Hc (upd (upd Hc dx2 (.own x2)) x2 (.ins C2 dx2 [])) := fun b o e => by rw [upd_ne (ne_of_none e nx2), upd_ne (ne_of_none e ndx2)]; exact e
    refine ⟨x2, dx2, l1', _, rfl, upd_same, R2 _ _ (Qa1 _ _ el1), fun tk2 ch2 Hd B2 htk2 hch2 nct2 ex2 et2 ec2 => ⟨rfl, ?_⟩⟩
    have Q2 : Same Hc Hd := fun b o e => B2 _ _ (ne_of_none e nx2) (R2 _ _ e)
    have ftk2 := R2.free htk2
    have fch2 := R2.free hch2
    clear R2 B2 htk2 hch2 nex2
    have Qa2 := Qa1.trans Q2
    refine ⟨t3, fun Hn hHn => ?_⟩
    have Q3 := Same.upd (o := .lst [.ref x0, .ref x1, .ref x2]) hHn
    have eHn : (upd Hd Hn (.lst [.ref x0, .ref x1, .ref x2])) Hn = some (.lst [.ref x0, .ref x1, .ref x2]) := upd_same
    have fHn := Qa2.free hHn
    generalize upd Hd Hn (.lst [.ref x0, .ref x1, .ref x2]) = He at Q3 eHn
    have Qae := Qa2.trans Q3
    have Q13 := Q1.trans (Q2.trans Q3)
    have Q23 := Q2.trans Q3
    have ex0 := Q13 _ _ ex0
    have n_t01 : tk0 ≠ tk1 := ne_of_none et0 ftk1
    have n_t02 : tk0 ≠ tk2 := ne_of_none (Q1 _ _ et0) ftk2
    have n_t12 : tk1 ≠ tk2 := ne_of_none et1 ftk2
    have et0 := Q13 _ _ et0
    have ex1 := Q23 _ _ ex1
    have et1 := Q23 _ _ et1
    have ec1 := Q23 _ _ ec1
    have ex2 := Q3 _ _ ex2
    have et2 := Q3 _ _ et2
    have ec2 := Q3 _ _ ec2
    -- isinstance
    refine ⟨_, rfl, Hn, _, 1, .ref x1, rfl, rfl, SqL.of eHn, rfl, .ref x1, C, .ref C2, true, rfl, .ins ex1 T.cl2 I5.a I5.b I5.c I5.d, I5.e, _, rfl, iteF ?_⟩
    -- lists[0].reverse(), lists[1].append(7)
    have el0e := Qae _ _ el0
    have el1e := Qae _ _ el1
    refine ⟨_, rfl, Ls, _, 0, .ref l0, rfl, rfl, SqL.of (Qae _ _ eLs), rfl, .inl ⟨rfl, _, SqL.of el0e⟩, l0, _, rfl, rfl, el0e, ?_⟩
    have B1 : BtA l0 He (upd He l0 (.lst (zs.map V.int).reverse)) := .upd
    have el0f : (upd He l0 (.lst (zs.map V.int).reverse)) l0 = some (.lst (zs.reverse.map V.int)) := by rw [upd_same, List.map_reverse]
    generalize upd He l0 (.lst (zs.map V.int).reverse) = Hf at B1 el0f
    have el1f := B1 _ _ n01.symm el1e
    refine ⟨_, rfl, Ls, _, 1, .ref l1', rfl, rfl, SqL.of (B1 _ _ nL0 (Qae _ _ eLs)), rfl, .inl ⟨rfl, _, SqL.of el1f⟩, l1', _, _, rfl, rfl, el1f, Nat.lt_of_le_of_lt (show (zl.map V.int).length ≤ 60 by rw [List.length_map]; omega) (by decide), ?_⟩
    have B2 : BtA l1' Hf (upd Hf l1' (.lst (zl.map V.int ++ [.int 7]))) := .upd
    have el1g : (upd Hf l1' (.lst (zl.map V.int ++ [.int 7]))) l1' = some (.lst ((zl ++ [7]).map V.int)) := by rw [upd_same, List.map_append]; rfl
    generalize upd Hf l1' (.lst (zl.map V.int ++ [.int 7])) = Hg at B2 el1g
    have BB : ∀ {b : Addr} {o : HO}, b ≠ l0 → b ≠ l1' → He b = some o → Hg b = some o := fun {b o} q1 q2 e => B2 _ _ q2 (B1 _ _ q1 e)
    have SB : Same H7 Hg := fun b o e => BB (ne_of_none e hl0) (ne_of_none e hl1) (Qae _ _ (S7a _ _ e))
    have nf : ∀ {b : Addr}, Ha b = none → b ≠ l0 ∧ b ≠ l1' := fun {b} h => ⟨(ne_of_none el0 h).symm, (ne_of_none el1 h).symm⟩
    have el0g := B2 _ _ n01 el0f
    have eLsg := BB nL0 nL1 (Qae _ _ eLs)
    have g_tk0 := nf ftk0
    have g_tk1 := nf (Q0.free ftk1)
    have g_tk2 := nf (Qa1.free ftk2)
    have g_ch1 := nf (Q0.free fch1)
    have g_ch2 := nf (Qa1.free fch2)
    have g_Hn := nf fHn
    have g_x0 := nf nx0
    have g_x1 := nf (Q0.free nx1)
    have g_x2 := nf (Qa1.free nx2)
    have eHn := BB g_Hn.1 g_Hn.2 eHn
    have ex0 := BB g_x0.1 g_x0.2 ex0
    have ex1 := BB g_x1.1 g_x1.2 ex1
    have ex2 := BB g_x2.1 g_x2.2 ex2
    have et0 := BB g_tk0.1 g_tk0.2 et0
    have et1 := BB g_tk1.1 g_tk1.2 et1
    have et2 := BB g_tk2.1 g_tk2.2 et2
    have ec1 := BB g_ch1.1 g_ch1.2 ec1
    have ec2 := BB g_ch2.1 g_ch2.2 ec2
    have nCl0 : Ch ≠ l0 := ne_of_none eC7 hl0
    have nCl1 : Ch ≠ l1' := ne_of_none eC7 hl1
    clear g_tk0 g_tk1 g_tk2 g_ch1 g_ch2 g_Hn g_x0 g_x1 g_x2 B1 B2 BB el0f el1f el0e el1e Q13 Q23 Q3 Q2 Q1 Q0 Qa1 Qa2 Qae nf el0 el1 eLs
    have dwg := dw7.same SB
    have eCg := SB _ _ eC7
    have eLag := SB _ _ eLa7
    have eDug := SB _ _ eDu
    have ed0 := SB _ _ ed0
    have ed1 := SB _ _ ed1
    have ed2 := SB _ _ ed2
    -- held
    refine fun hd hhd => ⟨upd_same, e0, rfl, (by show 2 ≤ 15; decide), ?_⟩
    rw [show mergeK [] e0 = e0 from rfl]
    have W1 : Same Hg (upd (upd Hg hd (.dK [])) hd (.dK e0)) := fun b q e => by rw [upd_ne (ne_of_none e hhd), upd_ne (ne_of_none e hhd)]; exact e
    have ehd : (upd (upd Hg hd (.dK [])) hd (.dK e0)) hd = some (.dK e0) := upd_same
    generalize upd (upd Hg hd (.dK [])) hd (.dK e0) = Hh at W1 ehd
    -- rows
    refine ⟨Nat.zero_le _, fun r0 hr0 => ?_⟩
    have W2 := Same.upd (o := .lst []) hr0
    have er0 : (upd Hh r0 (.lst [])) r0 = some (.lst []) := upd_same
    generalize upd Hh r0 (.lst []) = Hi at W2 er0
    refine ⟨Nat.zero_le _, fun r1 hr1 => ?_⟩
    have W3 := Same.upd (o := .lst []) hr1
    have er1 : (upd Hi r1 (.lst [])) r1 = some (.lst []) := upd_same
    generalize upd Hi r1 (.lst []) = Hj at W3 er1
    refine ⟨Nat.zero_le _, fun r2 hr2 => ?_⟩
    have W4 := Same.upd (o := .lst []) hr2
    have er2 : (upd Hj r2 (.lst [])) r2 = some (.lst []) := upd_same
    generalize upd Hj r2 (.lst []) = Hk at W4 er2
    refine ⟨t3, fun Rw hRw => ?_⟩
    have W5 := Same.upd (o := .lst [.ref r0, .ref r1, .ref r2]) hRw
    have eRw : (upd Hk Rw (.lst [.ref r0, .ref r1, .ref r2])) Rw = some (.lst [.ref r0, .ref r1, .ref r2]) := upd_same
    generalize upd Hk Rw (.lst [.ref r0, .ref r1, .ref r2]) = Hm at W5 eRw
    have W12 := W1.trans W2
    have W13 := W12.trans W3
    have n_r01 : r0 ≠ r1 := ne_of_none er0 hr1
    have n_r02 : r0 ≠ r2 := ne_of_none (W3 _ _ er0) hr2
    have n_r12 : r1 ≠ r2 := ne_of_none er1 hr2
    have ntr : ∀ {b : Addr} {o : HO}, Hg b = some o → b ≠ r0 ∧ b ≠ r1 ∧ b ≠ r2 := fun {b o} e => ⟨ne_of_none (W1 _ _ e) hr0, ne_of_none (W12 _ _ e) hr1, ne_of_none (W13 _ _ e) hr2⟩
    have tr0 := ntr et0
    have tr1 := ntr et1
    have tr2 := ntr et2
    have Wgm := W13.trans (W4.trans W5)
    have er0 := (W3.trans (W4.trans W5)) _ _ er0
    have er1 := (W4.trans W5) _ _ er1
    have er2 := W5 _ _ er2
    have ehd := (W2.trans (W3.trans (W4.trans W5))) _ _ ehd
    have dwm := dwg.same Wgm
    -- handed
    refine ⟨_, rfl, dr, rfl, ⟨_, SqL.of dwm.ll.at_⟩, fun hg hhg => ?_⟩
    refine comp_list (K := K) (a := dr) (D := hg) (xs := ps.map fun p => V.ref p.1) (fun i σ ys H' => (∃ o1, σ = [o1]) ∧ Same Hm H' ∧ H' hg = some (.lst ys) ∧ ∃ qs : List (Addr × List Dt), ys = qs.map (fun q => V.ref q.1) ∧ qs.map (·.2) = (ps.take i).map (·.2) ∧ ∀ q ∈ qs, LsM K H' q.1 q.2 ∧ q.1 ≠ hg)
      ⟨⟨none, rfl⟩, .upd hhg, upd_same, [], rfl, rfl, (fun _ h => nomatch h)⟩ ?_ ?_ ?_
    · rintro i σ ys H' hi ⟨_, S2, eK, qs, rfl, eq, _⟩
      have q1 := congrArg List.length eq
      have q2 := dw.len
      rw [List.length_map, List.length_map, List.length_take] at q1
      exact ⟨SqL.of (S2 _ _ dwm.ll.at_), eK, Nat.lt_of_le_of_lt (show (qs.map fun q => V.ref q.1).length ≤ 60 by rw [List.length_map]; omega) (by decide)⟩
    · rintro i x σ ys H' hx ⟨⟨o1, rfl⟩, S2, eK, qs, rfl, eq, hq⟩ N hN
      obtain ⟨p0, e0', rfl⟩ := map_get hx
      obtain ⟨ws, ew, dws⟩ := (dwm.ll.it p0 (List.mem_of_getElem? e0')).same S2
      refine iteT (B := True) ?_
      refine ⟨_, rfl, p0.1, ws, rfl, .inl (SqL.of ew), fun c hc => ?_⟩
      have S3 : Same H' (upd H' c (.lst ws)) := .upd hc
      have e5 := S3 _ _ eK
      have ncD : c ≠ hg := (ne_of_none eK hc).symm
      refine ⟨e5, hN _ _ _ ⟨⟨_, rfl⟩, fun b o e => ?_, upd_same, qs ++ [(c, p0.2)], by rw [List.map_append]; rfl, ?_, fun q z => ?_⟩⟩
      · rw [upd_ne (ne_of_none e hhg)]
        exact S3 _ _ (S2 _ _ e)
      · rw [List.map_append, take_snoc' e0', List.map_append, eq]
        rfl
      · rcases List.mem_append.mp z with z | z
        · exact ⟨((hq q z).1.same S3).but (.lst e5) .upd (hq q z).2, (hq q z).2⟩
        · cases List.mem_singleton.mp z
          exact ⟨LsM.but (a := hg) ⟨ws, upd_same, dws.same S3⟩ (.lst e5) .upd ncD, ncD⟩
    rintro σ ys Hp' ⟨_, Smp, eK, qs, rfl, eqs, hq⟩
    rw [List.take_of_length_le (by rw [List.length_map]; exact Nat.le_refl _)] at eqs
    have hw : DwM K Hp' hg qs dd := ⟨⟨eK, fun q z => (hq q z).1, fun q z => (hq q z).2⟩, eqs.trans dw.eq⟩
    have Sgp := Wgm.trans Smp
    obtain ⟨us, hus⟩ : ∃ us : List U5, us = [⟨x0, tk0, r0, d0, fun _ => 0⟩, ⟨x1, tk1, r1, d1, fun t => zs.getD t 0⟩, ⟨x2, tk2, r2, d2, fun t => zl.getD t 0⟩] := ⟨_, rfl⟩
    have lus : us.length = 3 := by rw [hus]; rfl
    have cf : CF K Hp' C C2 dr hg Du Hn Rw hd ps qs dd us := by
      refine ⟨dwg.same Sgp, hw, by rw [hus]; exact Sgp _ _ eDug, by rw [hus]; exact Sgp _ _ eHn, by rw [hus]; exact Smp _ _ eRw, Smp _ _ ehd, fun u hu => ?_, fun u hu => ?_⟩
      · rw [hus] at hu
        rcases mem3 hu with rfl | rfl | rfl
        · exact Sgp _ _ ed0
        · show Hp' d1 = some (.lst ((List.range dd.length).map fun t => V.int (zs.getD t 0)))
          rw [← lz, ← as_range]; exact Sgp _ _ ed1
        · show Hp' d2 = some (.lst ((List.range dd.length).map fun t => V.int (zl.getD t 0)))
          rw [← lzl, ← as_range]; exact Sgp _ _ ed2
      · rw [hus] at hu
        rcases mem3 hu with rfl | rfl | rfl
        · exact ⟨dx0, .inl ⟨Sgp _ _ ex0, fun _ => rfl⟩⟩
        · exact ⟨dx1, .inr ⟨ch1, Sgp _ _ ex1, (by show Hp' ch1 = some (.lst ((List.range dd.length).map fun t => V.int (zs.getD t 0))); rw [← lz, ← as_range]; exact Sgp _ _ ec1), nct1⟩⟩
        · exact ⟨dx2, .inr ⟨ch2, Sgp _ _ ex2, (by show Hp' ch2 = some (.lst ((List.range dd.length).map fun t => V.int (zl.getD t 0))); rw [← lzl, ← as_range]; exact Sgp _ _ ec2), nct2⟩⟩
    have ios : ∀ u ∈ us, IxOk dd u.ix := fun u hu => by
      rw [hus] at hu
      rcases mem3 hu with rfl | rfl | rfl
      · intro i d hd
        exact ⟨0, d[0]'(List.length_pos_iff.mpr (ok.ne d (List.mem_of_getElem? hd)).1), rfl, List.getElem?_eq_getElem _⟩
      · exact zk.io lz
      · exact zlk.io lzl
    have emp : ∀ u ∈ us, Hp' u.tk = some (.lst []) ∧ Hp' u.r = some (.lst []) := fun u hu => by
      rw [hus] at hu
      rcases mem3 hu with rfl | rfl | rfl
      · exact ⟨Sgp _ _ et0, Smp _ _ er0⟩
      · exact ⟨Sgp _ _ et1, Smp _ _ er1⟩
      · exact ⟨Sgp _ _ et2, Smp _ _ er2⟩
    have nds : Nds us := by
      rw [hus]
      refine ⟨fun i j u v h1 h2 => ?_, fun i j u v h1 h2 hij => ?_, fun i j u v h1 h2 hij => ?_⟩
      all_goals
        match i, j, h1, h2 with
        | 0, 0, h1, h2 => cases h1; cases h2; first | exact absurd rfl hij | exact tr0.1
        | 0, 1, h1, h2 => cases h1; cases h2; first | exact n_t01 | exact n_r01 | exact tr0.2.1
        | 0, 2, h1, h2 => cases h1; cases h2; first | exact n_t02 | exact n_r02 | exact tr0.2.2
        | 1, 0, h1, h2 => cases h1; cases h2; first | exact n_t01.symm | exact n_r01.symm | exact tr1.1
        | 1, 1, h1, h2 => cases h1; cases h2; first | exact absurd rfl hij | exact tr1.2.1
        | 1, 2, h1, h2 => cases h1; cases h2; first | exact n_t12 | exact n_r12 | exact tr1.2.2
        | 2, 0, h1, h2 => cases h1; cases h2; first | exact n_t02.symm | exact n_r02.symm | exact tr2.1
        | 2, 1, h1, h2 => cases h1; cases h2; first | exact n_t12.symm | exact n_r12.symm | exact tr2.2.1
        | 2, 2, h1, h2 => cases h1; cases h2; first | exact absurd rfl hij | exact tr2.2.2
        | i + 3, _, h1, _ => simp at h1
        | _, j + 3, _, h2 => simp at h2
    have hot0 : Hot K Hp' us (fun _ => []) := fun j u hu => ⟨⟨_, (emp u (List.mem_of_getElem? hu)).1, .nil⟩, ⟨_, (emp u (List.mem_of_getElem? hu)).2, .nil⟩⟩
    have eCp := Sgp _ _ eCg
    have eLap := Sgp _ _ eLag
    have eLsp := Sgp _ _ eLsg
    have el0p := Sgp _ _ el0g
    have el1p := Sgp _ _ el1g
    have SHp : Same H1 Hp' := S17.trans (SB.trans Sgp)
    have hlp := SHp.seq hl
    clear hus ed0 ed1 ed2 ex0 ex1 ex2 et0 et1 et2 ec1 ec2 er0 er1 er2 ehd eDug eHn eRw tr0 tr1 tr2 ntr n_t01 n_t02 n_t12 n_r01 n_r02 n_r12 hw dwm dwg W1 W2 W3 W4 W5 W12 W13 Wgm Smp Sgp hq eK eCg eLag eLsg el0g el1g SB S17 S7a dw7 eC7 eLa7 eDu hhd hr0 hr1 hr2 hRw hhg
    -- for cell in script[:60]
    refine ⟨_, rfl, _, rfl, sc, _, rfl, hlp, fun p hp => ⟨p, rfl, ⟨_, SqL.of upd_same⟩, ?_⟩⟩
    have ec : cutV (ns.map V.int) none (some 60) = (ns.take 60).map V.int := by
      have := cut_take (ns.map V.int) 60
      rw [← List.map_take] at this
      exact this
    rw [ec]
    have m60 : (ns.take 60).length ≤ 60 := by rw [List.length_take]; omega
    generalize ns.take 60 = ms at m60
    have Sp := Same.upd (o := .lst (ms.map V.int)) hp
    have ep : (upd Hp' p (.lst (ms.map V.int))) p = some (.lst (ms.map V.int)) := upd_same
    have npz : ∀ u ∈ us, p ≠ u.tk ∧ p ≠ u.r := fun u hu => ⟨(ne_of_none (emp u hu).1 hp).symm, (ne_of_none (emp u hu).2 hp).symm⟩
    have c0' : Cold Hp' (upd Hp' p (.lst (ms.map V.int))) := Cold.refl.same Sp
    have hot0 : Hot K (upd Hp' p (.lst (ms.map V.int))) us (fun _ => []) := fun j u hu => ⟨(hot0 j u hu).1.same Sp, (hot0 j u hu).2.same Sp⟩
    generalize upd Hp' p (.lst (ms.map V.int)) = Hz at ep c0' hot0
    clear Sp hp
    refine for_list (K := K) (a := p) (xs := ms.map V.int) (fun i σ H' => H' p = some (.lst (ms.map V.int)) ∧ Cold Hp' H' ∧ ∃ (rows : Nat → List (Int × Int)) (o11 o12 o13 o14 o15 o16 o17 : Option V), Hot K H' us rows ∧ (∀ j, (rows j).length ≤ 3 * i) ∧ σ = [some (.ref sc), some (.int (dd.length : Nat)), some (.ref dr), some (.ref Ch), some (.ref La), some (.ref Du), some (.ref Ls), some (.ref Hn), some (.ref hd), some (.ref Rw), some (.ref hg), o11, o12, o13, o14, o15, o16, o17])
      ⟨ep, c0', fun _ => [], none, none, none, none, none, none, none, hot0, (fun _ => Nat.zero_le _), rfl⟩ (fun i σ H' _ z => SqL.of z.1) ?_ ?_
    · rintro i x σ H2 hx ⟨ep, cold, rows, o11, o12, o13, o14, o15, o16, o17, hot, lrw, rfl⟩
      have hi : i < 60 := by
        have := (List.getElem?_eq_some_iff.mp hx).1
        rw [List.length_map] at this
        omega
      obtain ⟨c, _, rfl⟩ := map_get hx
      refine ⟨_, rfl, c, 3, rfl, by decide, by decide, fun m m0 m1 => ⟨_, rfl, _, _, rfl, rfl, (by show (0 : Int) < (dd.length : Nat); omega), ?_⟩⟩
      have s0 := Int.emod_nonneg m (show ((dd.length : Nat) : Int) ≠ 0 by omega)
      have s1 := Int.emod_lt_of_pos m (show (0 : Int) < (dd.length : Nat) by omega)
      obtain ⟨s, es⟩ : ∃ s : Nat, m % (dd.length : Nat) = (s : Int) := ⟨_, (Int.toNat_of_nonneg s0).symm⟩
      dsimp only
      rw [es]
      have hs : s < dd.length := by omega
      refine ⟨_, rfl, _, _, rfl, rfl, (by show (0 : Int) < 3; decide), ?_⟩
      have j0 := Int.emod_nonneg c (show (3 : Int) ≠ 0 by decide)
      have j1 := Int.emod_lt_of_pos c (show (0 : Int) < 3 by decide)
      obtain ⟨j, ej⟩ : ∃ j : Nat, c % 3 = (j : Int) := ⟨_, (Int.toNat_of_nonneg j0).symm⟩
      dsimp only
      rw [ej]
      have hj : j < us.length := by omega
      obtain ⟨u, eu⟩ : ∃ u, us[j]? = some u := ⟨_, List.getElem?_eq_getElem hj⟩
      have mu := List.mem_of_getElem? eu
      obtain ⟨em1, em2⟩ := emp u mu
      have atU : ∀ (g : U5 → V), atI (us.map g) (j : Int) = some (g u) := fun g => atI_nat (by rw [List.getElem?_map, eu]; rfl)
      have f2 := cf.cold ok l1 lus cold
      -- case
      refine ⟨_, rfl, _, rfl, _, rfl, _, rfl, Du, _, _, .ref u.d, rfl, rfl, SqL.of f2.du, atU fun u => V.ref u.d, _, rfl, _, _, rfl, rfl, (by constructor <;> decide +kernel), s, dr, u.d, _, ps, dd, u.ix, rfl, f2.dw, ok, ios u mu, hs, l60, f2.ds u mu, fun r vt l t n as H3 S3 sr hvt fl el te las has => ?_⟩
      refine ⟨r, _, rfl, sr, rfl, _, _, rfl, _, _, rfl, _, _, rfl, rfl, ?_⟩
      have cold3 := cold.same S3
      have f3 := cf.cold ok l1 lus cold3
      obtain ⟨h3t, h3r⟩ := hot j u eu
      have h3t := h3t.same S3
      have nlt : l ≠ u.tk := let ⟨_, e, _⟩ := (hot j u eu).1; (ne_of_none e fl).symm
      have nlr : l ≠ u.r := let ⟨_, e, _⟩ := (hot j u eu).2; (ne_of_none e fl).symm
      have nq : ∀ q ∈ qs, q.1 ≠ u.tk := fun q hq z => by
        obtain ⟨ws, ew, dws⟩ := cf.hw.ll.it q hq
        rw [z, em1] at ew
        cases ew
        exact cf.hw.inn ok q hq (List.eq_nil_of_length_eq_zero dws.length.symm)
      have nhg : hg ≠ u.tk := fun z => by
        have := cf.hw.ll.at_
        rw [z, em1] at this
        have e := congrArg (fun o => match o with | some (HO.lst l) => l.length | _ => 0) this
        simp at e
        have := cf.hw.len
        omega
      have lrj := lrw j
      refine ⟨_, rfl, _, rfl, _, rfl, _, rfl, _, rfl, Hn, _, _, .ref u.x, rfl, rfl, SqL.of f3.hn, atU fun u => V.ref u.x, vt, hd, hg, u.x, u.tk, dd.length, u.ix, dd, qs, e0, t, n, as, (rows j).map pI, rfl, hvt, f3.hd_, f3.hw.ll, f3.hw.eq, nq, nhg, rfl, f3.ha u mu, h3t, by rw [List.length_map]; omega, te, fun H4 B4 ls4 => ⟨_, rfl, n, rfl, _, rfl, iteF ?_⟩⟩
      have cold4 := cold3.then em1 B4
      have f4 := cf.cold ok l1 lus cold4
      have hdd : dd[s]? = some dd[s] := List.getElem?_eq_getElem hs
      obtain ⟨q, eq, _⟩ := f4.dw.row hdd
      obtain ⟨ws, ew, _⟩ := f4.dw.ll.it q (List.mem_of_getElem? eq)
      rw [rows_eq] at ls4
      have lr4 : (rows j ++ as.map fun (i : Nat) => ((i : Int), u.ix i)).length ≤ 1000 := by rw [List.length_append, List.length_map]; omega
      -- take
      have ha4 := f4.ha u mu
      obtain ⟨dx, ⟨k1, k2⟩ | ⟨ch, k1, k2, k3⟩⟩ := id ha4
      · refine ⟨_, rfl, _, rfl, Hn, _, _, .ref u.x, rfl, rfl, SqL.of f4.hn, atU fun u => V.ref u.x, u.x, dx, _, rfl, rfl, .inl ⟨k1, _, rfl, _, rfl, _, rfl, dr, _, _, .ref q.1, rfl, rfl, SqL.of f4.dw.ll.at_, atI_nat (by rw [List.getElem?_map, eq]; rfl), q.1, ws, rfl, .inl (SqL.of ew), fun D hD => ?_⟩⟩
        have SD := Same.upd (o := .lst ws) hD
        refine ⟨u.x, u.tk, s, dd.length, u.ix, _, _, rfl, ha4.same SD, hs, ls4.same SD, by rw [List.length_map]; omega, fun H5 B5' ls5 => ?_⟩
        have B5 := (BtA.of SD).trans B5'
        have cold5 := cold4.then em1 B5
        have f5 := cf.cold ok l1 lus cold5
        refine ⟨_, rfl, _, rfl, Du, _, _, .ref u.d, rfl, rfl, SqL.of f5.du, atU fun u => V.ref u.d, _, rfl, u.d, _, _, .int (u.ix s), rfl, rfl, SqL.of (f5.ds u mu), ix_at _ u.ix hs, u.ix s, rfl, _, rfl, iteF ?_⟩
        have B35 := B4.trans B5
        have el5 := B35 _ _ nlt el
        refine ⟨_, rfl, _, rfl, t1, fun l2 hl2 => ?_⟩
        have S6 := Same.upd (o := .lst [.int s]) hl2
        have el2 : (upd H5 l2 (.lst [.int s])) l2 = some (.lst [.int s]) := upd_same
        generalize upd H5 l2 (.lst [.int s]) = H6 at S6 el2
        refine ⟨l, l2, _, _, rfl, rfl, S6 _ _ el5, el2, Nat.le_trans (show (as.map fun (i : Nat) => V.int (i : Int)).length + 1 ≤ 3 by rw [List.length_map]; omega) (by decide), fun L hL => ?_⟩
        have S7 := Same.upd (o := .lst ((as.map fun (i : Nat) => V.int (i : Int)) ++ [.int s])) hL
        have eL : (upd H6 L (.lst ((as.map fun (i : Nat) => V.int (i : Int)) ++ [.int s]))) L = some (.lst ((as ++ [s]).map fun (i : Nat) => V.int (i : Int))) := by rw [upd_same, List.map_append]; rfl
        obtain ⟨ust, e3t, _⟩ := id h3t
        have nrt : u.r ≠ u.tk := (nds.tr j j u u eu eu).symm
        have h5r : LsM K H5 u.r ((rows j).map pI) := (h3r.same S3).but (.lst e3t) B35 nrt
        have nLr : L ≠ u.r := let ⟨_, e, _⟩ := h5r; (ne_of_none (S6 _ _ e) hL).symm
        generalize upd H6 L (.lst ((as.map fun (i : Nat) => V.int (i : Int)) ++ [.int s])) = H7 at S7 eL
        have S57 := S6.trans S7
        have cold7 := cold5.same S57
        have ls7t := ls5.same S57
        have h7r := h5r.same S57
        refine ⟨L, rfl, ⟨_, SqL.of eL⟩, for_list (K := K) (a := L) (xs := (as ++ [s]).map fun (i : Nat) => V.int (i : Int)) (fun k σ H' => H' L = some (.lst ((as ++ [s]).map fun (i : Nat) => V.int (i : Int))) ∧ BtA u.r H7 H' ∧ LsM K H' u.r ((rows j).map pI ++ asks u.ix ((as ++ [s]).take k)) ∧ ∃ o17, σ = [some (.ref sc), some (.int (dd.length : Nat)), some (.ref dr), some (.ref Ch), some (.ref La), some (.ref Du), some (.ref Ls), some (.ref Hn), some (.ref hd), some (.ref Rw), some (.ref hg), some (.int c), some (.int s), some (.int j), some vt, some (.int n), some (.ref l), o17])
          ⟨eL, .refl, by rw [show asks u.ix ((as ++ [s]).take 0) = [] from rfl, List.append_nil]; exact h7r, _, rfl⟩ (fun k σ H' _ z => SqL.of z.1) ?_ ?_⟩
        · rintro k x σ H8 hx ⟨eL8, B8, lr8, o17, rfl⟩
          obtain ⟨at', eat, rfl⟩ := map_get hx
          have hat : at' < dd.length := by
            rcases List.mem_append.mp (List.mem_of_getElem? eat) with z | z
            · exact has _ z
            · cases List.mem_singleton.mp z
              exact hs
          have cold8 := cold7.then em2 B8
          have f8 := cf.cold ok l1 lus cold8
          obtain ⟨us', er8, du8⟩ := lr8
          have lu8 := du8.length
          rw [List.length_append, List.length_map, asks, List.length_map, List.length_take, List.length_append] at lu8
          simp only [List.length_cons, List.length_nil] at lu8
          refine ⟨_, rfl, _, rfl, Rw, _, _, .ref u.r, rfl, rfl, SqL.of f8.rw_, atU fun u => V.ref u.r, .inl ⟨rfl, _, SqL.of er8⟩, _, rfl, _, rfl, _, rfl, Du, _, _, .ref u.d, rfl, rfl, SqL.of f8.du, atU fun u => V.ref u.d, _, rfl, u.d, _, _, .int (u.ix at'), rfl, rfl, SqL.of (f8.ds u mu), ix_at _ u.ix hat, two_le, fun t9 ht9 => ?_⟩
          have S9 := Same.upd (o := .tup [.int at', .int (u.ix at')]) ht9
          refine ⟨u.r, us', _, rfl, rfl, S9 _ _ er8, Nat.lt_of_le_of_lt (show us'.length ≤ 1000 by omega) (by decide), ?_⟩
          refine ⟨BtA.upd _ _ nLr (S9 _ _ eL8), (B8.trans (BtA.of S9)).trans .upd, ⟨_, upd_same, ?_⟩, _, rfl⟩
          rw [take_snoc' eat, asks_app, ← List.append_assoc]
          exact ((du8.same S9).append (.cons (.tup (SqT.of upd_same) (.cons (.int _) (.cons (.int _) .nil))) .nil)).but (.lst (S9 _ _ er8)) .upd
        · rintro σ H8 ⟨eL8, B8, lr8, o17, rfl⟩
          rw [List.take_of_length_le (by rw [List.length_map]; exact Nat.le_refl _), rows_eq] at lr8
          have cold8 := cold7.then em2 B8
          obtain ⟨_, e7r, _⟩ := id h7r
          refine ⟨B8 _ _ (npz u mu).2 (S57 _ _ (B35 _ _ (npz u mu).1 (S3 _ _ ep))), cold8, fun j' => if j' = j then rows j ++ (as ++ [s]).map (fun (i : Nat) => ((i : Int), u.ix i)) else rows j', _, _, _, _, _, _, _, fun j' u' hu' => ?_, fun j' => ?_, rfl⟩
          · show LsM K H8 u'.tk ((if j' = j then rows j ++ (as ++ [s]).map (fun (i : Nat) => ((i : Int), u.ix i)) else rows j').map pI) ∧ LsM K H8 u'.r ((if j' = j then rows j ++ (as ++ [s]).map (fun (i : Nat) => ((i : Int), u.ix i)) else rows j').map pI)
            by_cases z : j' = j
            · rw [if_pos z]
              rw [z, eu] at hu'
              cases hu'
              refine ⟨?_, lr8⟩
              have e : (rows j ++ (as ++ [s]).map (fun (i : Nat) => ((i : Int), u.ix i))).map pI = (rows j ++ as.map (fun (i : Nat) => ((i : Int), u.ix i))).map pI ++ [pI ((s : Int), u.ix s)] := by simp [List.map_append, List.append_assoc]
              rw [e]
              exact ls7t.but (.lst e7r) B8 nrt.symm
            · rw [if_neg z]
              obtain ⟨q1, q2⟩ := hot j' u' hu'
              exact ⟨(((q1.same S3).but (.lst e3t) B35 (nds.tt j' j u' u hu' eu z)).same S57).but (.lst e7r) B8 (nds.tr j' j u' u hu' eu), (((q2.same S3).but (.lst e3t) B35 (nds.tr j j' u u' eu hu').symm).same S57).but (.lst e7r) B8 (nds.rr j' j u' u hu' eu z)⟩
          · show (if j' = j then rows j ++ (as ++ [s]).map (fun (i : Nat) => ((i : Int), u.ix i)) else rows j').length ≤ 3 * (i + 1)
            have := lrw j'
            split
            · rw [List.length_append, List.length_map, List.length_append]
              simp only [List.length_cons, List.length_nil]
              omega
            · omega
      · refine ⟨_, rfl, _, rfl, Hn, _, _, .ref u.x, rfl, rfl, SqL.of f4.hn, atU fun u => V.ref u.x, u.x, dx, _, rfl, rfl, .inr ⟨k1, _, rfl, _, rfl, _, rfl, dr, _, _, .ref q.1, rfl, rfl, SqL.of f4.dw.ll.at_, atI_nat (by rw [List.getElem?_map, eq]; rfl), q.1, ws, rfl, .inl (SqL.of ew), fun D hD => ?_⟩⟩
        have SD := Same.upd (o := .lst ws) hD
        refine ⟨u.x, u.tk, s, dd.length, u.ix, _, _, rfl, ha4.same SD, hs, ls4.same SD, by rw [List.length_map]; omega, fun H5 B5' ls5 => ?_⟩
        have B5 := (BtA.of SD).trans B5'
        have cold5 := cold4.then em1 B5
        have f5 := cf.cold ok l1 lus cold5
        refine ⟨_, rfl, _, rfl, Du, _, _, .ref u.d, rfl, rfl, SqL.of f5.du, atU fun u => V.ref u.d, _, rfl, u.d, _, _, .int (u.ix s), rfl, rfl, SqL.of (f5.ds u mu), ix_at _ u.ix hs, u.ix s, rfl, _, rfl, iteF ?_⟩
        have B35 := B4.trans B5
        have el5 := B35 _ _ nlt el
        refine ⟨_, rfl, _, rfl, t1, fun l2 hl2 => ?_⟩
        have S6 := Same.upd (o := .lst [.int s]) hl2
        have el2 : (upd H5 l2 (.lst [.int s])) l2 = some (.lst [.int s]) := upd_same
        generalize upd H5 l2 (.lst [.int s]) = H6 at S6 el2
        refine ⟨l, l2, _, _, rfl, rfl, S6 _ _ el5, el2, Nat.le_trans (show (as.map fun (i : Nat) => V.int (i : Int)).length + 1 ≤ 3 by rw [List.length_map]; omega) (by decide), fun L hL => ?_⟩
        have S7 := Same.upd (o := .lst ((as.map fun (i : Nat) => V.int (i : Int)) ++ [.int s])) hL
        have eL : (upd H6 L (.lst ((as.map fun (i : Nat) => V.int (i : Int)) ++ [.int s]))) L = some (.lst ((as ++ [s]).map fun (i : Nat) => V.int (i : Int))) := by rw [upd_same, List.map_append]; rfl
        obtain ⟨ust, e3t, _⟩ := id h3t
        have nrt : u.r ≠ u.tk := (nds.tr j j u u eu eu).symm
        have h5r : LsM K H5 u.r ((rows j).map pI) := (h3r.same S3).but (.lst e3t) B35 nrt
        have nLr : L ≠ u.r := let ⟨_, e, _⟩ := h5r; (ne_of_none (S6 _ _ e) hL).symm
        generalize upd H6 L (.lst ((as.map fun (i : Nat) => V.int (i : Int)) ++ [.int s])) = H7 at S7 eL
        have S57 := S6.trans S7
        have cold7 := cold5.same S57
        have ls7t := ls5.same S57
        have h7r := h5r.same S57
        refine ⟨L, rfl, ⟨_, SqL.of eL⟩, for_list (K := K) (a := L) (xs := (as ++ [s]).map fun (i : Nat) => V.int (i : Int)) (fun k σ H' => H' L = some (.lst ((as ++ [s]).map fun (i : Nat) => V.int (i : Int))) ∧ BtA u.r H7 H' ∧ LsM K H' u.r ((rows j).map pI ++ asks u.ix ((as ++ [s]).take k)) ∧ ∃ o17, σ = [some (.ref sc), some (.int (dd.length : Nat)), some (.ref dr), some (.ref Ch), some (.ref La), some (.ref Du), some (.ref Ls), some (.ref Hn), some (.ref hd), some (.ref Rw), some (.ref hg), some (.int c), some (.int s), some (.int j), some vt, some (.int n), some (.ref l), o17])
          ⟨eL, .refl, by rw [show asks u.ix ((as ++ [s]).take 0) = [] from rfl, List.append_nil]; exact h7r, _, rfl⟩ (fun k σ H' _ z => SqL.of z.1) ?_ ?_⟩
        · rintro k x σ H8 hx ⟨eL8, B8, lr8, o17, rfl⟩
          obtain ⟨at', eat, rfl⟩ := map_get hx
          have hat : at' < dd.length := by
            rcases List.mem_append.mp (List.mem_of_getElem? eat) with z | z
            · exact has _ z
            · cases List.mem_singleton.mp z
              exact hs
          have cold8 := cold7.then em2 B8
          have f8 := cf.cold ok l1 lus cold8
          obtain ⟨us', er8, du8⟩ := lr8
          have lu8 := du8.length
          rw [List.length_append, List.length_map, asks, List.length_map, List.length_take, List.length_append] at lu8
          simp only [List.length_cons, List.length_nil] at lu8
          refine ⟨_, rfl, _, rfl, Rw, _, _, .ref u.r, rfl, rfl, SqL.of f8.rw_, atU fun u => V.ref u.r, .inl ⟨rfl, _, SqL.of er8⟩, _, rfl, _, rfl, _, rfl, Du, _, _, .ref u.d, rfl, rfl, SqL.of f8.du, atU fun u => V.ref u.d, _, rfl, u.d, _, _, .int (u.ix at'), rfl, rfl, SqL.of (f8.ds u mu), ix_at _ u.ix hat, two_le, fun t9 ht9 => ?_⟩
          have S9 := Same.upd (o := .tup [.int at', .int (u.ix at')]) ht9
          refine ⟨u.r, us', _, rfl, rfl, S9 _ _ er8, Nat.lt_of_le_of_lt (show us'.length ≤ 1000 by omega) (by decide), ?_⟩
          refine ⟨BtA.upd _ _ nLr (S9 _ _ eL8), (B8.trans (BtA.of S9)).trans .upd, ⟨_, upd_same, ?_⟩, _, rfl⟩
          rw [take_snoc' eat, asks_app, ← List.append_assoc]
          exact ((du8.same S9).append (.cons (.tup (SqT.of upd_same) (.cons (.int _) (.cons (.int _) .nil))) .nil)).but (.lst (S9 _ _ er8)) .upd
        · rintro σ H8 ⟨eL8, B8, lr8, o17, rfl⟩
          rw [List.take_of_length_le (by rw [List.length_map]; exact Nat.le_refl _), rows_eq] at lr8
          have cold8 := cold7.then em2 B8
          obtain ⟨_, e7r, _⟩ := id h7r
          refine ⟨B8 _ _ (npz u mu).2 (S57 _ _ (B35 _ _ (npz u mu).1 (S3 _ _ ep))), cold8, fun j' => if j' = j then rows j ++ (as ++ [s]).map (fun (i : Nat) => ((i : Int), u.ix i)) else rows j', _, _, _, _, _, _, _, fun j' u' hu' => ?_, fun j' => ?_, rfl⟩
          · show LsM K H8 u'.tk ((if j' = j then rows j ++ (as ++ [s]).map (fun (i : Nat) => ((i : Int), u.ix i)) else rows j').map pI) ∧ LsM K H8 u'.r ((if j' = j then rows j ++ (as ++ [s]).map (fun (i : Nat) => ((i : Int), u.ix i)) else rows j').map pI)
            by_cases z : j' = j
            · rw [if_pos z]
              rw [z, eu] at hu'
              cases hu'
              refine ⟨?_, lr8⟩
              have e : (rows j ++ (as ++ [s]).map (fun (i : Nat) => ((i : Int), u.ix i))).map pI = (rows j ++ as.map (fun (i : Nat) => ((i : Int), u.ix i))).map pI ++ [pI ((s : Int), u.ix s)] := by simp [List.map_append, List.append_assoc]
              rw [e]
              exact ls7t.but (.lst e7r) B8 nrt.symm
            · rw [if_neg z]
              obtain ⟨q1, q2⟩ := hot j' u' hu'
              exact ⟨(((q1.same S3).but (.lst e3t) B35 (nds.tt j' j u' u hu' eu z)).same S57).but (.lst e7r) B8 (nds.tr j' j u' u hu' eu), (((q2.same S3).but (.lst e3t) B35 (nds.tr j j' u u' eu hu').symm).same S57).but (.lst e7r) B8 (nds.rr j' j u' u hu' eu z)⟩
          · show (if j' = j then rows j ++ (as ++ [s]).map (fun (i : Nat) => ((i : Int), u.ix i)) else rows j').length ≤ 3 * (i + 1)
            have := lrw j'
            split
            · rw [List.length_append, List.length_map, List.length_append]
              simp only [List.length_cons, List.length_nil]
              omega
            · omega
    rintro σ H2 ⟨ep, cold, rows, o11, o12, o13, o14, o15, o16, o17, hot, lrw, rfl⟩
    rw [List.length_map] at lrw
    have f2 := cf.cold ok l1 lus cold
    have hzs : zs.map V.int ≠ [] := fun z => by
      have := congrArg List.length z
      simp at this
      rw [this] at lz
      simp at lz
      omega
    have hzl : zl.map V.int ≠ [] := fun z => by
      have := congrArg List.length z
      simp at this
      rw [this] at lzl
      simp at lzl
      omega
    have eC2 := cold _ _ (lst_ne hzs) eCp
    have eLa2 := cold _ _ (lst_ne hzl) eLap
    have eLs2 := cold _ _ (lst_ne (by simp)) eLsp
    have el02 := cold _ _ (lst_ne (fun z => hzs (by rw [List.map_reverse] at z; exact List.reverse_eq_nil_iff.mp z))) el0p
    have el12 := cold _ _ (lst_ne (by simp)) el1p
    -- for who in range(3)
    refine ⟨3, rfl, by decide, by decide, for_range (lo := 0) (fun i σ H' => H' = H2 ∧ ∃ o13, σ = [some (.ref sc), some (.int (dd.length : Nat)), some (.ref dr), some (.ref Ch), some (.ref La), some (.ref Du), some (.ref Ls), some (.ref Hn), some (.ref hd), some (.ref Rw), some (.ref hg), o11, o12, o13, o14, o15, o16, o17]) ⟨rfl, _, rfl⟩ ?_ ?_⟩
    · rintro j σ H' hj ⟨rfl, o13, rfl⟩
      have hj' : j < us.length := by
        have : j < 3 := hj
        omega
      obtain ⟨u, eu⟩ : ∃ u, us[j]? = some u := ⟨_, List.getElem?_eq_getElem hj'⟩
      have mu := List.mem_of_getElem? eu
      have atU : ∀ (g : U5 → V), atI (us.map g) (0 + (j : Int)) = some (g u) := fun g => atI0 (by rw [List.getElem?_map, eu]; rfl)
      obtain ⟨h1, h2⟩ := hot j u eu
      have lrj := lrw j
      obtain ⟨dx, ⟨k1, k2⟩ | ⟨ch, k1, k2, k3⟩⟩ := f2.ha u mu
      · exact ⟨_, rfl, _, rfl, Hn, _, _, .ref u.x, rfl, rfl, SqL.of f2.hn, atU fun u => V.ref u.x, u.x, C, dx, _, .ref u.tk, rfl, k1, T.cl, T.nT, rfl, _, rfl, _, rfl, Rw, _, _, .ref u.r, rfl, rfl, SqL.of f2.rw_, atU fun u => V.ref u.r, u.tk, u.r, rows j, rfl, h1, h2, by omega, _, rfl, iteF ⟨rfl, _, rfl⟩⟩
      · exact ⟨_, rfl, _, rfl, Hn, _, _, .ref u.x, rfl, rfl, SqL.of f2.hn, atU fun u => V.ref u.x, u.x, C2, dx, _, .ref u.tk, rfl, k1, T.cl2, T.nT2, rfl, _, rfl, _, rfl, Rw, _, _, .ref u.r, rfl, rfl, SqL.of f2.rw_, atU fun u => V.ref u.r, u.tk, u.r, rows j, rfl, h1, h2, by omega, _, rfl, iteF ⟨rfl, _, rfl⟩⟩
    rintro σ H' ⟨rfl, o13, rfl⟩
    -- chosen.reverse()
    refine ⟨_, rfl, .inl ⟨rfl, _, SqL.of eC2⟩, Ch, _, rfl, rfl, eC2, ?_⟩
    have B : BtA Ch H' (upd H' Ch (.lst (zs.map V.int).reverse)) := .upd
    have eC3 : (upd H' Ch (.lst (zs.map V.int).reverse)) Ch = some (.lst (zs.reverse.map V.int)) := by rw [upd_same, List.map_reverse]
    have neC : ∀ {b : Addr} {xs : List V}, H' b = some (.lst xs) → (∀ z : Int, V.int z ∉ xs) → b ≠ Ch := fun {b xs} e h z => by
      subst z
      rw [eC2] at e
      cases e
      obtain ⟨z0, zr, hz⟩ := List.exists_cons_of_ne_nil (fun z => hzs (by rw [z]; rfl) : zs ≠ [])
      exact h z0 (by rw [hz]; exact List.mem_cons_self ..)
    have outer : ∀ {b : Addr} {qs' : List (Addr × List Dt)}, LLM K H' b qs' → b ≠ Ch := fun {b qs'} ll => neC ll.at_ fun z hz => by
      obtain ⟨q, _, e⟩ := List.mem_map.mp hz
      cases e
    have inner : ∀ {b : Addr} {qs' : List (Addr × List Dt)}, DwM K H' b qs' dd → ∀ q ∈ qs', q.1 ≠ Ch := fun {b qs'} dwx q hq => by
      obtain ⟨ws, ew, dws⟩ := dwx.ll.it q hq
      refine neC ew fun z hz => ?_
      obtain ⟨k', hk'⟩ := List.getElem?_of_mem hz
      obtain ⟨d', ed', hd'⟩ := dws.get' hk'
      have : q.2 ∈ dd.map (fun d => d.map pI) := by rw [← dwx.eq]; exact List.mem_map_of_mem (f := (·.2)) hq
      obtain ⟨d2, _, e2⟩ := List.mem_map.mp this
      rw [← e2] at ed'
      obtain ⟨pp, _, rfl⟩ := map_get ed'
      obtain ⟨_, _, e3, _⟩ := hd'.un
      cases e3
    have dwz : LLM K (upd H' Ch (.lst (zs.map V.int).reverse)) dr ps := f2.dw.ll.but (.lst eC2) B (outer f2.dw.ll) (inner f2.dw)
    have hwz : LLM K (upd H' Ch (.lst (zs.map V.int).reverse)) hg qs := f2.hw.ll.but (.lst eC2) B (outer f2.hw.ll) (inner f2.hw)
    have eLs3 := B _ _ (neC eLs2 (by simp)) eLs2
    have el03 := B _ _ nCl0.symm el02
    have el13 := B _ _ nCl1.symm el12
    have eLa3 := B _ _ nLC eLa2
    have ehd3 := B _ _ (ne_dl f2.hd_ eC2).symm f2.hd_
    generalize upd H' Ch (.lst (zs.map V.int).reverse) = Hy at eC3 dwz hwz eLs3 el03 el13 eLa3 ehd3
    refine ⟨_, rfl, _, rfl, hg, dr, qs, ps, rfl, rfl, hwz, dwz, f2.hw.eq.trans f2.dw.eq.symm, fun q hq => ?_, _, rfl, iteT ?_⟩
    · have : q.2 ∈ dd.map (fun d => d.map pI) := by rw [← f2.hw.eq]; exact List.mem_map_of_mem (f := (·.2)) hq
      obtain ⟨d2, _, e2⟩ := List.mem_map.mp this
      rw [← e2]
      exact hgts_prs d2
    refine ⟨_, rfl, _, rfl, _, rfl, t1, fun l7 hl7 => ?_⟩
    have Sa := Same.upd (o := .lst [.int 7]) hl7
    have el7 : (upd Hy l7 (.lst [.int 7])) l7 = some (.lst [.int 7]) := upd_same
    generalize upd Hy l7 (.lst [.int 7]) = Hx at Sa el7
    refine ⟨La, l7, _, _, rfl, rfl, Sa _ _ eLa3, el7, Nat.le_trans (show (zl.map V.int).length + 1 ≤ 61 by rw [List.length_map]; omega) (by decide), fun nl hnl => ?_⟩
    have Sb := Same.upd (o := .lst (zl.map V.int ++ [.int 7])) hnl
    have enl : (upd Hx nl (.lst (zl.map V.int ++ [.int 7]))) nl = some (.lst ((zl ++ [7]).map V.int)) := by rw [upd_same, List.map_append]; rfl
    generalize upd Hx nl (.lst (zl.map V.int ++ [.int 7])) = Hw at Sb enl
    refine ⟨two_le, fun nn hnn => ?_⟩
    have Sc := Same.upd (o := .lst [.ref Ch, .ref nl]) hnn
    have enn : (upd Hw nn (.lst [.ref Ch, .ref nl])) nn = some (.lst [.ref Ch, .ref nl]) := upd_same
    have nnC : Ch ≠ nn := ne_of_none (Sb _ _ (Sa _ _ eC3)) hnn
    have nnl : nl ≠ nn := ne_of_none enl hnn
    generalize upd Hw nn (.lst [.ref Ch, .ref nl]) = Hv at Sc enn
    have Sac := Sa.trans (Sb.trans Sc)
    have neL : ∀ {b : Addr} {ys : List Int}, Hv b = some (.lst (ys.map V.int)) → b ≠ Ls := fun {b ys} e z => by
      subst z
      rw [Sac _ _ eLs3] at e
      injection e with e
      injection e with e
      have : V.ref l0 ∈ ys.map V.int := by rw [← e]; exact List.mem_cons_self ..
      obtain ⟨_, _, e'⟩ := List.mem_map.mp this
      cases e'
    have la : LLM K Hv Ls [(l0, zs.reverse.map Dt.int), (l1', (zl ++ [7]).map Dt.int)] := ⟨Sac _ _ eLs3, fun q hq => by
      rcases List.mem_cons.mp hq with z | z
      · rw [z]; exact ⟨_, Sac _ _ el03, dats_ints _⟩
      · cases List.mem_singleton.mp z; exact ⟨_, Sac _ _ el13, dats_ints _⟩, fun q hq => by
      rcases List.mem_cons.mp hq with z | z
      · rw [z]; exact neL (Sac _ _ el03)
      · cases List.mem_singleton.mp z; exact neL (Sac _ _ el13)⟩
    have lb : LLM K Hv nn [(Ch, zs.reverse.map Dt.int), (nl, (zl ++ [7]).map Dt.int)] := ⟨enn, fun q hq => by
      rcases List.mem_cons.mp hq with z | z
      · rw [z]; exact ⟨_, Sac _ _ eC3, dats_ints _⟩
      · cases List.mem_singleton.mp z; exact ⟨_, Sc _ _ enl, dats_ints _⟩, fun q hq => by
      rcases List.mem_cons.mp hq with z | z
      · rw [z]; exact nnC
      · cases List.mem_singleton.mp z; exact nnl⟩
    refine ⟨Ls, nn, _, _, rfl, rfl, la, lb, rfl, fun q hq => ?_, _, rfl, iteT ?_⟩
    · rcases List.mem_cons.mp hq with z | z
      · rw [z]; exact hgts_ints _
      · cases List.mem_singleton.mp z; exact hgts_ints _
    refine ⟨_, rfl, fun h2' hh2 => ⟨upd_same, e0, rfl, (by show 2 ≤ 15; decide), ?_⟩⟩
    rw [show mergeK [] e0 = e0 from rfl]
    have Sd : Same Hv (upd (upd Hv h2' (.dK [])) h2' (.dK e0)) := fun b q e => by rw [upd_ne (ne_of_none e hh2), upd_ne (ne_of_none e hh2)]; exact e
    refine ⟨hd, h2', e0, e0, rfl, rfl, Sd _ _ (Sac _ _ ehd3), upd_same, rfl, fun kv hkv => ?_, kk _⟩
    rcases List.mem_cons.mp hkv with z | z
    · rw [z]
      exact ⟨.int 5, .int 5, rfl, .int 5, .int 5, by simp [Dt.hgt]⟩
    · cases List.mem_singleton.mp z
      exact ⟨.int 1, .int 1, rfl, .int 1, .int 1, by simp [Dt.hgt]⟩
end
end K21
namespace K21
open PySem L2 FW PyProof.Rows
theorem all_mk {l : PySem.W.OpenLaw} {w : World} {K : PySem.W.Frag} {mg : Str → Option Value} {fa C C2 gT gJ gL gH gI : Addr} {f0 f1 f2 f3 f4 f5 f6 f7 f8 f9 f10 f11 : Addr} {d0 d1 d2 d3 d4 d5 d6 d7 d8 d9 d10 d11 : FuncData} {uR : Value} (hfa : mg "law" = some (.ref fa))
    (A0 : FnAt K mg "law" s_law ["_law_script"] f0 d0)
    (A1 : FnAt K mg "parts_of" s_parts_of ["term"] f1 d1)
    (A2 : FnAt K mg "counted" s_counted ["outcome"] f2 d2)
    (A3 : FnAt K mg "figured_op" s_figured_op ["sign", "one", "other"] f3 d3)
    (A4 : FnAt K mg "figured" s_figured ["term", "values"] f4 d4)
    (A5 : FnAt K mg "told" s_told ["term", "held", "draws", "hand"] f5 d5)
    (A6 : FnAt K mg "_law_cell_at" s_law_cell_at ["_law_script", "_law_k"] f6 d6)
    (A7 : FnAt K mg "_law_mix" s_law_mix ["_law_cell", "_law_k"] f7 d7)
    (A8 : FnAt K mg "_law_draws" s_law_draws ["_law_cell", "_law_many"] f8 d8)
    (A9 : FnAt K mg "_law_number" s_law_number ["_law_found", "_law_due"] f9 d9)
    (A10 : FnAt K mg "_law_alike" s_law_alike ["_law_found", "_law_due"] f10 d10)
    (A11 : FnAt K mg "_law_case" s_law_case ["_law_site", "_law_draws_here", "_law_chosen", "_law_cell"] f11 d11)
    {odT anT : Option Addr} {slT : Array (Option Value)} {ocT kVT dcT pmT cdT ctT : Value} (lT : K.lookup gT = some ⟨ocT, odT, .func (PySem.W.fnOf "take" "Hand.take" (defArgs s_Hand_take) (defBody s_Hand_take) (defScope s_Hand_take) .none kVT dcT pmT anT cdT ctT), slT⟩) (cT : PySem.W.codeIn K cdT "Hand.take" = true) (kT : PySem.W.keepIn K (.ref gT) = true)
    {odJ anJ : Option Addr} {slJ : Array (Option Value)} {ocJ kVJ dcJ pmJ cdJ ctJ : Value} (lJ : K.lookup gJ = some ⟨ocJ, odJ, .func (PySem.W.fnOf "index_at" "Hand.index_at" (defArgs s_Hand_index_at) (defBody s_Hand_index_at) (defScope s_Hand_index_at) .none kVJ dcJ pmJ anJ cdJ ctJ), slJ⟩) (cJ : PySem.W.codeIn K cdJ "Hand.index_at" = true) (kJ : PySem.W.keepIn K (.ref gJ) = true)
    {odL anL : Option Addr} {slL : Array (Option Value)} {ocL kVL dcL pmL cdL ctL : Value} (lL : K.lookup gL = some ⟨ocL, odL, .func (PySem.W.fnOf "index_at" "Listed.index_at" (defArgs s_Listed_index_at) (defBody s_Listed_index_at) (defScope s_Listed_index_at) .none kVL dcL pmL anL cdL ctL), slL⟩) (cL : PySem.W.codeIn K cdL "Listed.index_at" = true) (kL : PySem.W.keepIn K (.ref gL) = true)
    {odH anH : Option Addr} {slH : Array (Option Value)} {ocH kVH dcH pmH cdH ctH : Value} (lH : K.lookup gH = some ⟨ocH, odH, .func (PySem.W.fnOf "__init__" "Hand.__init__" (defArgs s_Hand_init) (defBody s_Hand_init) (defScope s_Hand_init) .none kVH dcH pmH anH cdH ctH), slH⟩) (cH : PySem.W.codeIn K cdH "Hand.__init__" = true) (kH : PySem.W.keepIn K (.ref gH) = true)
    {odI anI : Option Addr} {slI : Array (Option Value)} {ocI kVI dcI pmI cdI ctI : Value} (lI : K.lookup gI = some ⟨ocI, odI, .func (PySem.W.fnOf "__init__" "Listed.__init__" (defArgs s_Listed_init) (defBody s_Listed_init) (defScope s_Listed_init) .none kVI dcI pmI anI cdI ctI), slI⟩) (cI : PySem.W.codeIn K cdI "Listed.__init__" = true) (kI : PySem.W.keepIn K (.ref gI) = true)
    (MT : Meth K C "take" gT) (MT2 : Meth K C2 "take" gT) (MJ : Meth K C "index_at" gJ) (ML : Meth K C2 "index_at" gL) (MH : Mk K C gH) (MI : Mk K C2 gI) (CM : ClsM K C "__init__" gH) (I5 : Isi K C C2)
    (T : Txt K mg C C2 uR)
    (hb : ∀ (s : Shared) (v : Value), BindsTo s d0 ⟨[v], []⟩ [("_law_script", v)]) :
    ∃ fd : FuncData, (∀ (s : Shared) (v : Value), BindsTo s fd ⟨[v], []⟩ [("_law_script", v)]) ∧ ∀ base : Heap, K.In base → base.Ns mainGlobals mg → FnOk l.prog w K mg base CX0 8 fa fd ["_law_script"] (sp_law K) := by
  have e := hfa.symm.trans A0.m
  cases e
  have FT := fun_mk (st := s_Hand_take) lT cT kT
  have bT := FT.binds (ps := ["self", "site", "draw"]) fun _ _ _ _ _ _ us hl => match us, hl with | [_, _, _], _ => rfl
  have FJ := fun_mk (st := s_Hand_index_at) lJ cJ kJ
  have bJ := FJ.binds (ps := ["self", "site", "draw"]) fun _ _ _ _ _ _ us hl => match us, hl with | [_, _, _], _ => rfl
  have FL := fun_mk (st := s_Listed_index_at) lL cL kL
  have bL := FL.binds (ps := ["self", "site", "draw"]) fun _ _ _ _ _ _ us hl => match us, hl with | [_, _, _], _ => rfl
  have FH := fun_mk (st := s_Hand_init) lH cH kH
  have bH := FH.binds (ps := ["self"]) fun _ _ _ _ _ _ us hl => match us, hl with | [_], _ => rfl
  have FI := fun_mk (st := s_Listed_init) lI cI kI
  have bI := FI.binds (ps := ["self", "choices"]) fun _ _ _ _ _ _ us hl => match us, hl with | [_, _], _ => rfl
  exact ⟨d0, hb, fun base _ _ => ok_law A0 A1 A2 A3 A4 A5 A6 A7 A8 A9 A10 A11 FT bT MT MT2 MJ FJ bJ ML FL bL MH FH bH MI FI bI CM I5 T⟩
theorem walk {l : PySem.W.OpenLaw} {q : Program} {loose : List Str} {XP : (Str → Option Value) → Heap → Prop} {YP : World → Heap → Prop} {d : DefRec} {K : Params → PySem.W.Frag} (hn : l.most = some 63) (hdf : d.params.defaults = [])
    (hY : ∀ (w : World) (h : Heap), YP w h → (K w.params).In h)
    (F : ∀ (w : World) (mg : Str → Option Value) (fa : Addr) (h : Heap), (K w.params).In h → h.Ns mainGlobals mg → mg d.name = some (.ref fa) →
      ∃ fd : FuncData, (∀ (s : Shared) (u : Value), BindsTo s fd ⟨[u], []⟩ [("_law_script", u)]) ∧ ∀ base : Heap, (K w.params).In base → base.Ns mainGlobals mg → FnOk l.prog w (K w.params) mg base CX0 8 fa fd ["_law_script"] (sp_law (K w.params))) :
    PySem.W.WalkO q loose XP YP l.row.toRowW d [] (fun f vs => PySem.call f vs) :=
  L2.walk_ofB (n := 63) (k := 8) (x := "_law_script") (CX := fun _ => CX0) (sp := fun w => sp_law (K w.params)) hn (by decide) hdf ⟨rfl, by decide, by decide⟩ hY F (fun _ _ a ns hl hb _ hS => ⟨a, ns, rfl, hS, hl, hb, fun _ => rfl⟩) fun _ _ _ _ _ z => z
end K21
open PySem PySem.W PyProof.Rows L2
set_option maxRecDepth 100000 in
set_option maxHeartbeats 0 in
theorem PySem.Challenge.cw_flipwright_k21_hands_and_choices_holds : PySem.Challenge.rw_flipwright_k21_hands_and_choices.Holds := by
  w_on; o_law; k_head; (case hw => w_witness2)
  k_fill
  refine K21.walk (l := PySem.Challenge.rw_flipwright_k21_hands_and_choices) rfl rfl (fun w h Y => PySem.W.kIn_of Y) ?F
  case F =>
    intro w mg fa h KX G hmg
    refine' K21.all_mk hmg (fnAt_mk KX G ?a0 ?l0 ?c0 ?k0 (fun _ _ _ _ _ _ us hl => match us, hl with | [_], _ => rfl))
      (fnAt_mk KX G ?a1 ?l1 ?c1 ?k1 (fun _ _ _ _ _ _ us hl => match us, hl with | [_], _ => rfl))
      (fnAt_mk KX G ?a2 ?l2 ?c2 ?k2 (fun _ _ _ _ _ _ us hl => match us, hl with | [_], _ => rfl))
      (fnAt_mk KX G ?a3 ?l3 ?c3 ?k3 (fun _ _ _ _ _ _ us hl => match us, hl with | [_, _, _], _ => rfl))
      (fnAt_mk KX G ?a4 ?l4 ?c4 ?k4 (fun _ _ _ _ _ _ us hl => match us, hl with | [_, _], _ => rfl))
      (fnAt_mk KX G ?a5 ?l5 ?c5 ?k5 (fun _ _ _ _ _ _ us hl => match us, hl with | [_, _, _, _], _ => rfl))
      (fnAt_mk KX G ?a6 ?l6 ?c6 ?k6 (fun _ _ _ _ _ _ us hl => match us, hl with | [_, _], _ => rfl))
      (fnAt_mk KX G ?a7 ?l7 ?c7 ?k7 (fun _ _ _ _ _ _ us hl => match us, hl with | [_, _], _ => rfl))
      (fnAt_mk KX G ?a8 ?l8 ?c8 ?k8 (fun _ _ _ _ _ _ us hl => match us, hl with | [_, _], _ => rfl))
      (fnAt_mk KX G ?a9 ?l9 ?c9 ?k9 (fun _ _ _ _ _ _ us hl => match us, hl with | [_, _], _ => rfl))
      (fnAt_mk KX G ?a10 ?l10 ?c10 ?k10 (fun _ _ _ _ _ _ us hl => match us, hl with | [_, _], _ => rfl))
      (fnAt_mk KX G ?a11 ?l11 ?c11 ?k11 (fun _ _ _ _ _ _ us hl => match us, hl with | [_, _, _, _], _ => rfl))
      ?mlT ?mcT ?mqT ?mlJ ?mcJ ?mqJ ?mlL ?mcL ?mqL ?mlH ?mcH ?mqH ?mlI ?mcI ?mqI
      ⟨?t1, ?t2, ?t3⟩ ⟨?u1, ?u2, ?u3⟩ ⟨?v1, ?v2, ?v3⟩ ⟨?w1, ?w2, ?w3⟩ ⟨?mkH, ?aiH, ?fiH, ?kcH⟩ ⟨?mkI, ?aiI, ?fiI, ?kcI⟩ ⟨?cm1, ?cm2, ?cm3, ?cm4⟩ ⟨?i1, ?i2, ?i3, ?i4, ?i5, ?i6, ?i7⟩ ⟨⟨?pg, ?hd, ?po, ?sa⟩, ⟨?pg2, ?hd2, ?po2, ?sa2⟩, ?nT, ?nT2, ?nC2, PySem.W.mg_of KX G ?gC, PySem.W.mg_of KX G ?gL, PySem.W.mg_of KX G ?gR, ?rd, PySem.W.mg_none_of KX G ?z0, PySem.W.mg_none_of KX G ?z1, PySem.W.mg_none_of KX G ?z2, PySem.W.mg_none_of KX G ?z3, PySem.W.mg_none_of KX G ?z4, PySem.W.mg_none_of KX G ?z5, PySem.W.mg_none_of KX G ?z6, PySem.W.mg_none_of KX G ?z7⟩ ?hb
    (case a0 => k_is); (case l0 => k_is); (case c0 => k_is); (case k0 => k_is)
    (case a1 => k_is); (case l1 => k_is); (case c1 => k_is); (case k1 => k_is)
    (case a2 => k_is); (case l2 => k_is); (case c2 => k_is); (case k2 => k_is)
    (case a3 => k_is); (case l3 => k_is); (case c3 => k_is); (case k3 => k_is)
    (case a4 => k_is); (case l4 => k_is); (case c4 => k_is); (case k4 => k_is)
    (case a5 => k_is); (case l5 => k_is); (case c5 => k_is); (case k5 => k_is)
    (case a6 => k_is); (case l6 => k_is); (case c6 => k_is); (case k6 => k_is)
    (case a7 => k_is); (case l7 => k_is); (case c7 => k_is); (case k7 => k_is)
    (case a8 => k_is); (case l8 => k_is); (case c8 => k_is); (case k8 => k_is)
    (case a9 => k_is); (case l9 => k_is); (case c9 => k_is); (case k9 => k_is)
    (case a10 => k_is); (case l10 => k_is); (case c10 => k_is); (case k10 => k_is)
    (case a11 => k_is); (case l11 => k_is); (case c11 => k_is); (case k11 => k_is)
    (case gC => k_is); (case gL => k_is); (case gR => k_is); (case aiH => k_is); (case aiI => k_is); (case t1 => k_is); (case v1 => k_is); (case w1 => k_is); (case u1 => k_is); (case mlT => k_is); (case mcT => k_is); (case mqT => k_is); (case mlJ => k_is); (case mcJ => k_is); (case mqJ => k_is); (case mlL => k_is); (case mcL => k_is); (case mqL => k_is); (case mlH => k_is); (case mcH => k_is); (case mqH => k_is); (case mlI => k_is); (case mcI => k_is); (case mqI => k_is); (case t2 => k_is); (case t3 => k_is); (case u2 => k_is); (case u3 => k_is); (case v2 => k_is); (case v3 => k_is); (case w2 => k_is); (case w3 => k_is); (case mkH => k_is); (case fiH => k_is); (case kcH => k_is); (case mkI => k_is); (case fiI => k_is); (case kcI => k_is); (case cm1 => k_is); (case cm2 => k_is); (case cm3 => k_is); (case cm4 => k_is); (case i1 => k_is); (case i2 => k_is); (case i3 => k_is); (case i4 => k_is); (case i5 => k_is); (case i6 => k_is); (case i7 => k_is); (case pg => k_is); (case hd => k_is); (case po => k_is); (case sa => k_is); (case pg2 => k_is); (case hd2 => k_is); (case po2 => k_is); (case sa2 => k_is)
    (case nT => unfold L2.NoAttr; k_is); (case nT2 => unfold L2.NoAttr; k_is); (case nC2 => unfold L2.NoAttr; k_is)
    (case z0 => k_is); (case z1 => k_is); (case z2 => k_is); (case z3 => k_is); (case z4 => k_is); (case z5 => k_is); (case z6 => k_is); (case z7 => k_is)
    (case rd => exact ⟨_, rfl⟩)
    (case hb => exact fun s u => .of_eq rfl)
