import PyProof.Rows.All
import Wide.All
import OpenK.AllK
import Wide.FinOn
import PyProof.EqAt
import PyProof.EqKinds
import PyProof.TupleCall
import Lean
import PySem.Challenge.RW_flipwright_k43_prices_by_rows
set_option Elab.async false
set_option linter.all false
set_option maxRecDepth 100000
namespace L2
open PySem PySem.Spec PyProof.Rows
/-- a key: an int or a str -/
abbrev Key := Sum Int Str
def keyIs : Key → Value → Bool
  | .inl k, v => Value.isInt k v
  | .inr x, v => Value.isStrOf x v
def keyH (w : World) : Key → Int
  | .inl k => hashInt k
  | .inr x => hashStr w x
theorem keyIs_shape : ∀ {k : Key} {v : Value}, keyIs k v = true → (∃ i t, k = Sum.inl i ∧ v = Value.int i t) ∨ (∃ x t, k = Sum.inr x ∧ v = Value.str x t)
  | .inl i, v, h => by
    obtain ⟨t, e⟩ := Value.isInt_shape (k := i) (v := v) h
    exact .inl ⟨i, t, rfl, e⟩
  | .inr x, v, h => by
    obtain ⟨t, e⟩ := Value.isStrOf_shape (x := x) (v := v) h
    exact .inr ⟨x, t, rfl, e⟩
theorem keyIs_int (i : Int) (t : Tok) : keyIs (.inl i) (.int i t) = true := by simp [keyIs, Value.isInt]
theorem keyIs_str (x : Str) (t : Tok) : keyIs (.inr x) (.str x t) = true := by simp [keyIs, Value.isStrOf]
theorem key_ll (a b : Int) : decide ((Sum.inl a : Key) = Sum.inl b) = (a == b) := by
  by_cases e : a = b
  · subst e; simp
  · have h : ¬ (Sum.inl a : Key) = Sum.inl b := fun q => e (Sum.inl.inj q)
    rw [decide_eq_false h]
    exact (beq_eq_false_iff_ne.mpr e).symm
theorem key_rr (a b : Str) : decide ((Sum.inr a : Key) = Sum.inr b) = decide (a = b) := by
  by_cases e : a = b
  · subst e; simp
  · have h : ¬ (Sum.inr a : Key) = Sum.inr b := fun q => e (Sum.inr.inj q)
    rw [decide_eq_false h, decide_eq_false e]
theorem key_lr (a : Int) (b : Str) : decide ((Sum.inl a : Key) = Sum.inr b) = false := decide_eq_false (fun q => nomatch q)
theorem key_rl (a : Str) (b : Int) : decide ((Sum.inr a : Key) = Sum.inl b) = false := decide_eq_false (fun q => nomatch q)
def mixKind (prog : Program) (w : World) : PySem.KeyKind prog w Key where
  is := keyIs
  hash := keyH w
  inj := fun v a b ha hb => by
    rcases keyIs_shape ha with ⟨i, t, rfl, rfl⟩ | ⟨x, t, rfl, rfl⟩
    · rcases keyIs_shape hb with ⟨j, u, rfl, e⟩ | ⟨y, u, rfl, e⟩
      · injection e with e1 _; rw [e1]
      · exact nomatch e
    · rcases keyIs_shape hb with ⟨j, u, rfl, e⟩ | ⟨y, u, rfl, e⟩
      · exact nomatch e
      · injection e with e1 _; rw [e1]
  byValue := fun k v h => by
    rcases keyIs_shape h with ⟨i, t, rfl, rfl⟩ | ⟨x, t, rfl, rfl⟩ <;> rfl
  pyHash := fun hv h => by
    rcases keyIs_shape hv with ⟨i, t, rfl, rfl⟩ | ⟨x, t, rfl, rfl⟩
    · exact wpAny_pyHash_int h
    · exact wpAny_pyHash_str h
  eqBool := fun hu hv h => by
    rcases keyIs_shape hu with ⟨i, t, rfl, rfl⟩ | ⟨x, t, rfl, rfl⟩
    · rcases keyIs_shape hv with ⟨j, u, rfl, rfl⟩ | ⟨y, u, rfl, rfl⟩
      · rw [key_ll] at h; exact wpAny_eqBool_int h
      · rw [key_lr] at h; exact SeqAt.EqAt.int_str i t y u _ _ _ _ h
    · rcases keyIs_shape hv with ⟨j, u, rfl, rfl⟩ | ⟨y, u, rfl, rfl⟩
      · rw [key_rl] at h; exact SeqAt.EqAt.str_int x t j u _ _ _ _ h
      · rw [key_rr] at h; exact wpAny_eqBool_str h
  «strs» := fun k x t v h => by
    rcases keyIs_shape h with ⟨i, u, rfl, e⟩ | ⟨y, u, rfl, e⟩
    · exact nomatch e
    · injection e with e1 _
      subst e1
      cases v <;> rfl
theorem mixKind_int (prog : Program) (w : World) (i : Int) (t : Tok) : (mixKind prog w).is (.inl i) (.int i t) = true := keyIs_int i t
theorem mixKind_str (prog : Program) (w : World) (x : Str) (t : Tok) : (mixKind prog w).is (.inr x) (.str x t) = true := keyIs_str x t
end L2
namespace L2
open PySem PySem.Spec PyProof.Rows
/-- a value, without the heap -/
inductive V where
  | non | bl (b : Bool) | int (i : Int) | str (x : Str) | byt (b : Array UInt8) | flt (b : UInt64) | ref (a : Addr) | ty (n : String)
  deriving DecidableEq
def RelV : V → Value → Prop
  | .non, u => u = Value.none
  | .bl b, u => u = Value.bool b
  | .int i, u => ∃ t, u = Value.int i t
  | .str x, u => ∃ t, u = Value.str x t
  | .byt b, u => ∃ t, u = Value.bytes b t
  | .flt b, u => ∃ t, u = Value.float b t
  | .ref a, u => u = Value.ref a
  | .ty n, u => u = Value.type n
abbrev Vals : List V → List Value → Prop := Paired RelV
theorem Vals.length {xs : List V} {us : List Value} (r : Vals xs us) : xs.length = us.length := Paired.length r
theorem Vals.get : ∀ {xs : List V} {us : List Value} {i : Nat} {x : V}, Vals xs us → xs[i]? = some x → ∃ u, us[i]? = some u ∧ RelV x u
  | _, _, _, _, .nil, e => by simp at e
  | _, _, 0, _, .cons r _, e => by simp at e; subst e; exact ⟨_, rfl, r⟩
  | _, _, i + 1, x, .cons _ t, e => by
    obtain ⟨u, h1, h2⟩ := Vals.get (i := i) (x := x) t (by simpa using e)
    exact ⟨u, by simpa using h1, h2⟩
theorem Vals.append : ∀ {xs ys : List V} {us ws : List Value}, Vals xs us → Vals ys ws → Vals (xs ++ ys) (us ++ ws)
  | _, _, _, _, .nil, s => s
  | _, _, _, _, .cons r t, s => .cons r (Vals.append t s)
theorem Vals.take : ∀ {xs : List V} {us : List Value} (n : Nat), Vals xs us → Vals (xs.take n) (us.take n)
  | _, _, 0, _ => .nil
  | _, _, _ + 1, .nil => .nil
  | _, _, n + 1, .cons r t => .cons r (Vals.take n t)
theorem Vals.drop : ∀ {xs : List V} {us : List Value} (n : Nat), Vals xs us → Vals (xs.drop n) (us.drop n)
  | _, _, 0, r => r
  | _, _, _ + 1, .nil => .nil
  | _, _, n + 1, .cons _ t => Vals.drop n t
def RelO : Option V → Option Value → Prop
  | some v, some u => RelV v u
  | none, none => True
  | _, _ => False
def KV {κ : Type} : List (κ × V) → List (κ × Value) → Prop := Paired fun (p : κ × V) (q : κ × Value) => p.1 = q.1 ∧ RelV p.2 q.2
/-- a key of a dict (00_mix): an int or a text -/
def kV : Key → V
  | .inl i => .int i
  | .inr x => .str x
/-- what stands at a tracked address -/
inductive HO where
  /-- a list -/
  | lst (xs : List V)
  /-- a tuple (never changes) -/
  | tup (xs : List V)
  /-- a dict whose keys are ints and texts; one whose keys are tuples of ints and texts (the empty one is both) -/
  | dK (kvs : List (Key × V)) | dT (kvs : List (List Key × V))
  /-- a set of ints: its members, its size -/
  | set (S : Int → Bool) (n : Nat)
  /-- an instance of the class at C, its dict at dx, its attributes -/
  | ins (C dx : Addr) (fs : List (Str × V))
  /-- the dict of the instance at x -/
  | own (x : Addr)
  /-- the dict of an exception -/
  | xd (fs : List (Str × V))
  /-- a bound method, f of x -/
  | met (f x : Addr)
  /-- a range object lo, lo + 1, .. below hi -/
  | rng (lo hi : Int)
  /-- a thing that is known to the object (the script; a dict while a loop walks it): read, never written while it is so -/
  | frz (o : Obj) (u : HO)
  /-- a code object's table -/
  | tbl (ps : Array Value)
  /-- any other thing, by what is true of its one object (a def of one's own: SetO a S n := HO.ext fun h => ..) -/
  | ext (φ : Heap → Prop)
abbrev Hp := Addr → Option HO
def upd (H : Hp) (a : Addr) (o : HO) : Hp := fun b => if b = a then some o else H b
theorem upd_same {H : Hp} {a : Addr} {o : HO} : upd H a o a = some o := by unfold upd; rw [if_pos rfl]
theorem upd_ne {H : Hp} {a b : Addr} {o : HO} (h : b ≠ a) : upd H a o b = H b := by unfold upd; rw [if_neg h]
/-- two objects of different content stand apart -/
theorem ne_of {H : Hp} {a b : Addr} {o u : HO} (h : H a = some o) (h' : H b = some u) (d : o ≠ u) : a ≠ b := by
  intro e; subst e; rw [h] at h'; exact d (Option.some.inj h')
theorem ne_of_none {H : Hp} {a b : Addr} {o : HO} (h : H a = some o) (h' : H b = none) : a ≠ b := by
  intro e; subst e; rw [h] at h'; cases h'
section
variable (P : Program) (w : World)
def ObjOk (H : Hp) (h : Heap) (a : Addr) : HO → Prop
  | .lst xs => xs.length ≤ sizeLine ∧ ∃ (its : List Value) (n : Nat), Vals xs its ∧ h.get? a = some { cls := .type "list", data := .seq its.toArray n }
  | .tup xs => xs.length ≤ sizeLine ∧ ∃ its : List Value, Vals xs its ∧ IsTup h a its.toArray
  | .dK kvs => kvs.length ≤ sizeLine ∧ (a == sysModules) = false ∧ ∃ vs, KV kvs vs ∧ h.DictOf (mixKind P w) a vs
  | .dT kvs => kvs.length ≤ sizeLine ∧ (a == sysModules) = false ∧ ∃ xs : List (List Key × Addr × Value),
      Paired (fun (p : List Key × V) (q : List Key × Addr × Value) => p.1 = q.1 ∧ H q.2.1 = some (.tup (p.1.map kV)) ∧ RelV p.2 q.2.2) kvs xs ∧
      ∃ o es ep, h.get? a = some o ∧ o.ExactDict ∧ o.data = .dict es ep ∧ es.toList = xs.map (entryOfKey (tupleKind (mixKind P w))) ∧ (xs.map (·.1)).Nodup
  | .set S n => h.SetOf (intKind P w) a S n
  | .ins C dx fs => H dx = some (.own a) ∧ fs.length ≤ 1000 ∧ dx ≠ a ∧ h.get? a = some (PySem.W.instObj C dx) ∧
      ∃ mA, h.Ns1 dx mA ∧ (∀ f, RelO (fs.lookup f) (mA f)) ∧ PySem.Within mA (fs.map (·.1))
  | .own _ => ∃ o, h.get? a = some o
  | .xd fs => ∃ mA, h.Ns1 a mA ∧ ∀ f, RelO (fs.lookup f) (mA f)
  | .rng lo hi => ∃ t u v, h.get? a = some { cls := .type "range", data := .fields #[.int lo t, .int hi u, .int 1 v] }
  | .frz o u => h.get? a = some o ∧ ObjOk H h a u
  | .tbl ps => h.get? a = some { cls := .none, data := .fields ps }
  | .met f x => h.get? a = some (PySem.W.methodObj (.ref f) (.ref x))
  | .ext φ => φ h ∧ (∃ o, h.get? a = some o) ∧ ∀ h1 h2 : Heap, φ h1 → (∀ o, h1.get? a = some o → h2.get? a = some o) → φ h2
/-- the abstract heap is held -/
def HOk (H : Hp) (h : Heap) : Prop := ∀ a o, H a = some o → ObjOk P w H h a o
end
section
variable {P : Program} {w : World} {H H' : Hp} {h h' : Heap} {a : Addr} {o : HO}
theorem ObjOk.lt (x : ObjOk P w H h a o) : a < h.objs.size := by
  cases o with
  | lst xs => obtain ⟨_, _, _, _, e⟩ := x; exact Heap.lt_size e
  | tup xs => obtain ⟨_, _, _, p⟩ := x; exact p.lt
  | dK kvs => obtain ⟨_, _, _, _, o, _, _, e, _⟩ := x; exact Heap.lt_size e
  | dT kvs => obtain ⟨_, _, _, _, o, _, _, e, _⟩ := x; exact Heap.lt_size e
  | set S n => obtain ⟨o, _, _, _, e, _⟩ := x; exact Heap.lt_size e
  | ins C dx fs => obtain ⟨_, _, _, e, _⟩ := x; exact Heap.lt_size e
  | own y => obtain ⟨_, e⟩ := x; exact Heap.lt_size e
  | xd fs => obtain ⟨_, ⟨_, _, _, e, _⟩, _⟩ := x; exact Heap.lt_size e
  | rng lo hi => obtain ⟨_, _, _, e⟩ := x; exact Heap.lt_size e
  | frz ob u => obtain ⟨e, _⟩ := x; exact Heap.lt_size e
  | tbl ps => exact Heap.lt_size (show h.get? a = some _ from x)
  | met f y => exact Heap.lt_size (show h.get? a = some _ from x)
  | ext φ => obtain ⟨_, ⟨_, e⟩, _⟩ := x; exact Heap.lt_size e
theorem Paired.mapP {α β : Type} {F G : α → β → Prop} : ∀ {l₁ : List α} {l₂ : List β}, Paired F l₁ l₂ → (∀ a b, F a b → G a b) → Paired G l₁ l₂
  | _, _, .nil, _ => .nil
  | _, _, .cons r t, f => .cons (f _ _ r) (Paired.mapP t f)
/-- what an object's description leans on: its own object, its own dict, the tuples -/
theorem ObjOk.stay (x : ObjOk P w H h a o) (k : ∀ b u, (b = a ∨ H b = some (.own a)) → h.get? b = some u → h'.get? b = some u)
    (ho : ∀ b, H b = some (.own a) → H' b = some (.own a)) (ht : ∀ b xs, H b = some (.tup xs) → H' b = some (.tup xs)) : ObjOk P w H' h' a o := by
  induction o with
  | lst xs => obtain ⟨z, its, n, r, e⟩ := x; exact ⟨z, its, n, r, k _ _ (.inl rfl) e⟩
  | tup xs => obtain ⟨z, its, r, ob, e, c⟩ := x; exact ⟨z, its, r, ob, k _ _ (.inl rfl) e, c⟩
  | dK kvs => obtain ⟨z, y, vs, r, ob, es, ep, e, c⟩ := x; exact ⟨z, y, vs, r, ob, es, ep, k _ _ (.inl rfl) e, c⟩
  | dT kvs =>
    obtain ⟨z, y, xs, r, ob, es, ep, e, c⟩ := x
    exact ⟨z, y, xs, Paired.mapP r fun p q z => ⟨z.1, ht _ _ z.2.1, z.2.2⟩, ob, es, ep, k _ _ (.inl rfl) e, c⟩
  | set S n => obtain ⟨ob, es, ep, t, e, c⟩ := x; exact ⟨ob, es, ep, t, k _ _ (.inl rfl) e, c⟩
  | ins C dx fs =>
    obtain ⟨d, z, ne, e, mA, ⟨od, es, ep, e2, c⟩, r⟩ := x
    exact ⟨ho _ d, z, ne, k _ _ (.inl rfl) e, mA, ⟨od, es, ep, k _ _ (.inr d) e2, c⟩, r⟩
  | own y => obtain ⟨ob, e⟩ := x; exact ⟨ob, k _ _ (.inl rfl) e⟩
  | xd fs => obtain ⟨mA, ⟨od, es, ep, e, c⟩, r⟩ := x; exact ⟨mA, ⟨od, es, ep, k _ _ (.inl rfl) e, c⟩, r⟩
  | rng lo hi => obtain ⟨t, u, v, e⟩ := x; exact ⟨t, u, v, k _ _ (.inl rfl) e⟩
  | frz ob u ih => obtain ⟨e, q⟩ := x; exact ⟨k _ _ (.inl rfl) e, ih q⟩
  | tbl ps =>
    have e : h.get? a = some { cls := .none, data := .fields ps } := x
    show h'.get? a = some { cls := .none, data := .fields ps }
    exact k a _ (.inl rfl) e
  | met f y =>
    have e : h.get? a = some (PySem.W.methodObj (.ref f) (.ref y)) := x
    show h'.get? a = some (PySem.W.methodObj (.ref f) (.ref y))
    exact k a _ (.inl rfl) e
  | ext φ => obtain ⟨p, ⟨o, e⟩, st⟩ := x; exact ⟨st _ _ p fun o q => k _ _ (.inl rfl) q, ⟨o, k _ _ (.inl rfl) e⟩, st⟩
theorem HOk.lt (x : HOk P w H h) (e : H a = some o) : a < h.objs.size := (x a o e).lt
theorem HOk.fresh (x : HOk P w H h) (e : h.objs.size ≤ a) : H a = none := by
  cases q : H a with
  | none => rfl
  | some u => exact absurd (Nat.lt_of_lt_of_le (x.lt q) e) (Nat.lt_irrefl _)
/-- every object of the heap is kept -/
theorem HOk.kept (x : HOk P w H h) (k : ∀ b u, h.get? b = some u → h'.get? b = some u) : HOk P w H h' := fun a o e =>
  (x a o e).stay (fun b u _ q => k b u q) (fun _ q => q) fun _ _ q => q
/-- a new object is laid and tracked -/
theorem HOk.laid (x : HOk P w H h) (k : ∀ b u, h.get? b = some u → h'.get? b = some u) (hp : h.objs.size ≤ a) (new : ObjOk P w (upd H a o) h' a o) : HOk P w (upd H a o) h' := fun b u e => by
  have hn := x.fresh hp
  by_cases hb : b = a
  · subst hb; rw [upd_same] at e; cases e; exact new
  · rw [upd_ne hb] at e
    exact (x b u e).stay (fun c v _ q => k c v q) (fun c q => by rw [upd_ne (ne_of_none q hn)]; exact q) fun c xs q => by rw [upd_ne (ne_of_none q hn)]; exact q
end
/-- what may be read as u: it is u, or a known u -/
def Rd (H : Hp) (a : Addr) (u : HO) : Prop := H a = some u ∨ ∃ o, H a = some (.frz o u)
theorem Rd.ok {P : Program} {w : World} {H : Hp} {h : Heap} {a : Addr} {u : HO} (r : Rd H a u) (x : HOk P w H h) : ObjOk P w H h a u := by
  rcases r with r | ⟨o, r⟩
  · exact x a u r
  · obtain ⟨_, q⟩ := x a _ r
    exact q
/-- what may be written -/
def Mut : Option HO → Prop
  | some (.lst _) => True
  | some (.dK _) => True
  | some (.dT _) => True
  | some (.set _ _) => True
  | some (.ins _ _ _) => True
  | some (.ext _) => True
  | _ => False
section
variable {P : Program} {w : World} {H : Hp} {h h' : Heap} {x e : Addr} {o' : HO}
/-- the object at e is changed: x itself, or the dict of the instance x -/
theorem HOk.write (ok : HOk P w H h) (mu : Mut (H x)) (he : e = x ∨ H e = some (.own x)) (k : ∀ b u, b ≠ e → h.get? b = some u → h'.get? b = some u) (heo : ∃ u, h'.get? e = some u)
    (new : ObjOk P w (upd H x o') h' x o') : HOk P w (upd H x o') h' := fun b u q => by
  have nown : ∀ c y, H c = some (.own y) → c ≠ x := fun c y r z => by subst z; rw [r] at mu; exact mu
  have ntup : ∀ c xs, H c = some (.tup xs) → c ≠ x := fun c xs r z => by subst z; rw [r] at mu; exact mu
  by_cases hb : b = x
  · subst hb; rw [upd_same] at q; cases q; exact new
  · rw [upd_ne hb] at q
    by_cases hbe : b = e
    · have q' : H b = some (.own x) := by
        rcases he with z | z
        · exact absurd (hbe.trans z) hb
        · rw [hbe]; exact z
      rw [q] at q'; cases q'
      obtain ⟨v, hv⟩ := heo
      exact ⟨v, by rw [hbe]; exact hv⟩
    · refine (ok b u q).stay (fun c v hc r => k c v ?_ r) (fun c r => by rw [upd_ne (nown c b r)]; exact r) fun c xs r => by rw [upd_ne (ntup c xs r)]; exact r
      rcases hc with rfl | hc
      · exact hbe
      · rintro rfl
        rcases he with z | z
        · exact nown c b hc z
        · rw [hc] at z; cases z; exact hb rfl
end
structure Un (fs ex : List Addr) (H H' : Hp) (h h' : Heap) : Prop where
  keep : ∀ b o, h.get? b = some o → H b = none → b ∉ fs → b ∉ ex → h'.get? b = some o
  slot : ∀ b o, h.get? b = some o → H b = none → b ∈ fs → b ∉ ex → ∃ sl, h'.get? b = some { o with slots := sl }
  free : ∀ b o, h.get? b = some o → H b = none → b ∉ ex → H' b = none
  there : ∀ b o, h.get? b = some o → b ∉ ex → ∃ o', h'.get? b = some o'
  tups : ∀ b xs, H b = some (.tup xs) → H' b = some (.tup xs)
  frzs : ∀ b o u, H b = some (.frz o u) → H' b = some (.frz o u)
  tbls : ∀ b ps, H b = some (.tbl ps) → ∃ more, H' b = some (.tbl (ps ++ more))
section
variable {fs fs' ex ex' : List Addr} {H H1 H2 : Hp} {h h1 h2 h' : Heap} {a x e : Addr} {o : HO}
theorem Un.any (u : Un fs ex H H1 h h1) {b : Addr} {ob : Obj} (q : h.get? b = some ob) (n : H b = none) (hx : b ∉ ex) : ∃ sl, h1.get? b = some { ob with slots := sl } := by
  by_cases hb : b ∈ fs
  · exact u.slot b ob q n hb hx
  · exact ⟨ob.slots, u.keep b ob q n hb hx⟩
theorem Un.kept (k : ∀ b u, h.get? b = some u → h'.get? b = some u) : Un fs ex H H h h' :=
  ⟨fun b ob q _ _ _ => k b ob q, fun b ob q _ _ _ => ⟨ob.slots, k b ob q⟩, fun _ _ _ n _ => n, fun b ob q _ => ⟨ob, k b ob q⟩, fun _ _ q => q, fun _ _ _ q => q, fun _ ps q => ⟨#[], by rw [q]; simp⟩⟩
theorem Un.refl : Un fs ex H H h h := Un.kept fun _ _ q => q
theorem Un.laid (k : ∀ b u, h.get? b = some u → h'.get? b = some u) (hp : h.objs.size ≤ a) (hn : H a = none) : Un fs ex H (upd H a o) h h' where
  keep := fun b u q _ _ _ => k b u q
  slot := fun b u q _ _ _ => ⟨u.slots, k b u q⟩
  free := fun b u q n _ => by rw [upd_ne (Nat.ne_of_lt (Nat.lt_of_lt_of_le (Heap.lt_size q) hp))]; exact n
  there := fun b u q _ => ⟨u, k b u q⟩
  tups := fun b xs q => by rw [upd_ne (ne_of_none q hn)]; exact q
  frzs := fun b u xs q => by rw [upd_ne (ne_of_none q hn)]; exact q
  tbls := fun b ps q => ⟨#[], by rw [upd_ne (ne_of_none q hn), q]; simp⟩
theorem Un.write (mu : Mut (H x)) (he : e = x ∨ H e = some (.own x)) (k : ∀ b u, b ≠ e → h.get? b = some u → h'.get? b = some u) (heo : ∃ u, h'.get? e = some u) : Un fs ex H (upd H x o) h h' := by
  have hx : ∀ b, H b = none → b ≠ x := fun b n z => by subst z; rw [n] at mu; exact mu
  have hb : ∀ b, H b = none → b ≠ e := fun b n z => by
    subst z
    rcases he with r | r
    · exact hx b n r
    · rw [n] at r; cases r
  have hm : ∀ b u, H b = some u → ¬ Mut (some u) → b ≠ x := fun b u q nm z => by subst z; rw [q] at mu; exact nm mu
  refine ⟨fun b u q n _ _ => k b u (hb b n) q, fun b u q n _ _ => ⟨u.slots, k b u (hb b n) q⟩, fun b u q n _ => by rw [upd_ne (hx b n)]; exact n, fun b u q _ => ?_,
    fun b xs q => by rw [upd_ne (hm b _ q fun z => z)]; exact q, fun b u xs q => by rw [upd_ne (hm b _ q fun z => z)]; exact q, fun b ps q => ⟨#[], by rw [upd_ne (hm b _ q fun z => z), q]; simp⟩⟩
  by_cases hbe : b = e
  · subst hbe; exact heo
  · exact ⟨u, k b u hbe q⟩
end
def trk (h : Heap) (H : Hp) : List Addr := (List.range h.objs.size).filter fun a => (H a).isSome
def hidT (h : Heap) (H : Hp) : Heap := PySem.W.hideAll h (trk h H)
theorem hidT_size (h : Heap) (H : Hp) : (hidT h H).objs.size = h.objs.size := PySem.W.hideAll_size _ _
theorem hidT_get {h : Heap} {H : Hp} {b : Addr} {o : Obj} (e : h.get? b = some o) (n : H b = none) : (hidT h H).get? b = some o :=
  PySem.W.hideAll_get _ e fun hm => by
    have q : (H b).isSome = true := (List.mem_filter.mp hm).2
    rw [n] at q; simp at q
theorem of_hidT {h : Heap} {H : Hp} {b : Addr} {o : Obj} (e : (hidT h H).get? b = some o) : h.get? b = some o ∧ H b = none := by
  have e' : h.get? b = some o := PySem.W.of_hideAll (trk h H) e
  refine ⟨e', ?_⟩
  cases q : H b with
  | none => rfl
  | some x =>
    have hm : b ∈ trk h H := List.mem_filter.mpr ⟨List.mem_range.mpr (Heap.lt_size e'), by simp [q]⟩
    have z : (hidT h H).get? b = none := PySem.W.hideAll_none (trk h H) hm
    rw [z] at e; cases e
def allNews (g h : Heap) (L : Addr) : List (Addr × Obj) := (List.range h.objs.size).filterMap fun a => if a = L ∨ (g.get? a).isSome = true then none else (h.get? a).map fun o => (a, o)
def rest (g h : Heap) (L d : Addr) : List (Addr × Obj) := (allNews g h L).filter fun p => decide (p.1 ≠ d)
end L2
namespace L2
open PySem PySem.Spec PyProof.Rows
/-- the module's facts, over the base: the heap at the law's entry without what is tracked there -/
structure Mod (K : PySem.W.Frag) (mg : Str → Option Value) (base : Heap) : Prop where
  kin : K.In base
  glob : base.Ns mainGlobals mg
  blt : ∃ mb, base.Ns builtinsNs mb ∧ ∀ x : Str, x ≠ "__name__" → mb x = bootBuiltins x
  nolimit : base.NoLimit
/-- the context: a def's body (or a comprehension's block) running. base: fixed through the whole law; s₀, H₀: the entry; outer: the frames whose slots others may change (a def's callers); stack: all frames that run;
   ex: iterators that were made ahead of the entry and are walked here (a comprehension's); fn: the names whose cells were made at the entry (a def: all; a comprehension's block: its own); calm: not within an except suite; pn: pins that every state bears; xe: what is wanted of an exception that leaves the code -/
structure Cx where
  prog : Program
  w : World
  K : PySem.W.Frag
  mg : Str → Option Value
  base : Heap
  A : Around
  N : List Str
  s₀ : Shared
  H₀ : Hp
  env : Env
  outer : List Env
  stack : List Env
  ex : List Addr
  fn : Str → Bool
  calm : Bool
  pn : List (Addr × Obj)
  xe : Value → Shared → Prop
/-- the callers' frames -/
def frs (l : List Env) : List Addr := l.filterMap (·.frame)
abbrev Cx.fs (X : Cx) : List Addr := frs X.outer
def Vis (sc : Scope) (x : Str) : Prop := sc.names.lookup x = some .local ∨ sc.names.lookup x = some .cell ∨ sc.names.lookup x = some .free
def Loc (sc : Scope) (x : Str) : Prop := sc.names.lookup x = some .local ∨ sc.names.lookup x = some .cell
def Look (env : Env) (h : Heap) (m : Str → Option Value) (x : Str) (u : Value) : Prop :=
  (env.kindOf x = some .local ∧ m x = some u) ∨ ((env.kindOf x = some .cell ∨ env.kindOf x = some .free) ∧ ∃ c, env.cells.lookup x = some c ∧ h.IsCell c (some u))
structure Cx.Ok (X : Cx) : Prop where
  mod : Mod X.K X.mg X.base
  kind : X.env.scope.kind = .function
  glob : X.env.globals = mainGlobals
  blt : X.env.builtins = builtinsNs
  above : X.s₀.heap.objs.size ≤ X.env.locals
  inj : ∀ x y c, X.env.cells.lookup x = some c → X.env.cells.lookup y = some c → x = y
  has : ∀ x, (X.env.kindOf x = some .cell ∨ X.env.kindOf x = some .free) → ∃ c, X.env.cells.lookup x = some c
  cab : ∀ x c, X.fn x = true → X.env.cells.lookup x = some c → X.s₀.heap.objs.size ≤ c
  hd : X.calm = true → X.A.handled = none
  frames : X.A.frames = some X.stack
  stk : X.stack = X.outer ∨ (X.stack = X.env :: X.outer ∧ X.env.frame = some X.env.locals)
  exf : ∀ b ∈ X.ex, b ≠ X.env.locals ∧ ∀ x c, X.env.cells.lookup x = some c → c ≠ b
  bs : ∀ b o, X.base.get? b = some o → X.s₀.heap.get? b = some o ∧ X.H₀ b = none
  bsz : X.base.objs.size ≤ X.s₀.heap.objs.size
  noex : ∀ b o, X.base.get? b = some o → b ∉ X.ex
  exfs : ∀ b ∈ X.ex, b ∉ X.fs
  funs : X.s₀.heap.FunFrames X.base X.outer
  frf : ∀ b ∈ X.fs, X.H₀ b = none
structure Inv (X : Cx) (pins : List (Addr × Obj)) (σ : List (Option V)) (H : Hp) (s : Shared) : Prop where
  ok : X.Ok
  os : s.os = X.s₀.os
  bare : AllBare s.gens
  base : Un X.fs X.ex X.H₀ H X.s₀.heap s.heap
  loc : ∃ m, s.heap.Ns X.env.locals m ∧ ∀ (i : Nat) (x : Str) (v : V), X.N[i]? = some x → σ[i]? = some (some v) → Vis X.env.scope x → ∃ u, RelV v u ∧ Look X.env s.heap m x u
  cell : ∀ x c, X.env.cells.lookup x = some c → ∃ v, s.heap.IsCell c v
  free : H X.env.locals = none
  freeC : ∀ x c, X.env.cells.lookup x = some c → H c = none
  pin : ∀ p ∈ X.pn ++ pins, s.heap.get? p.1 = some p.2 ∧ H p.1 = none ∧ p.1 ≠ X.env.locals ∧ p.1 ∉ X.fs ∧ ∀ v, p.2.data ≠ .cell v
  hok : HOk X.prog X.w H s.heap
  len : σ.length = X.N.length
section
variable {X : Cx} {pins : List (Addr × Obj)} {σ : List (Option V)} {H H' : Hp} {s : Shared} {h' : Heap}
theorem Cx.Ok.nofr (ok : X.Ok) {b : Addr} {o : Obj} (e : X.base.get? b = some o) : b ∉ X.fs := fun hb => by
  have := (ok.funs.mem hb).1
  rw [e] at this; cases this
theorem Inv.bs (I : Inv X pins σ H s) : ∀ b o, X.base.get? b = some o → s.heap.get? b = some o ∧ H b = none := fun b o e =>
  ⟨I.base.keep b o (I.ok.bs b o e).1 (I.ok.bs b o e).2 (I.ok.nofr e) (I.ok.noex b o e), I.base.free b o (I.ok.bs b o e).1 (I.ok.bs b o e).2 (I.ok.noex b o e)⟩
theorem Inv.bk (I : Inv X pins σ H s) : ∀ b o, X.base.get? b = some o → s.heap.get? b = some o := fun b o e => (I.bs b o e).1
theorem Inv.mod (I : Inv X pins σ H s) : Mod X.K X.mg X.base := I.ok.mod
theorem Inv.kIn (I : Inv X pins σ H s) : X.K.In s.heap := I.ok.mod.kin.keeps I.bk
theorem Inv.lt (I : Inv X pins σ H s) : X.env.locals < s.heap.objs.size := let ⟨_, hn, _⟩ := I.loc; hn.lt
theorem Inv.sz (I : Inv X pins σ H s) : X.s₀.heap.objs.size ≤ s.heap.objs.size := Nat.le_trans I.ok.above (Nat.le_of_lt I.lt)
theorem Inv.nofs (I : Inv X pins σ H s) {a : Addr} (h : s.heap.objs.size ≤ a) : a ∉ X.fs := fun hb => by
  obtain ⟨_, o, ho, _⟩ := I.ok.funs.mem hb
  exact absurd (Nat.lt_of_lt_of_le (Heap.lt_size ho) (Nat.le_trans I.sz h)) (Nat.lt_irrefl _)
theorem Inv.cne (I : Inv X pins σ H s) : ∀ x c, X.env.cells.lookup x = some c → c ≠ X.env.locals := fun x c e z => by
  obtain ⟨v, o, ho, hd⟩ := I.cell x c e
  obtain ⟨m, ⟨o', es, ep, ho', hd', _⟩, _⟩ := I.loc
  rw [z, ho'] at ho; cases ho; rw [hd'] at hd; cases hd
theorem Inv.funs (I : Inv X pins σ H s) : s.heap.FunFrames X.base X.outer := by
  have all : ∀ (l : List Env), (∀ b ∈ frs l, b ∈ X.fs) → X.s₀.heap.FunFrames X.base l → s.heap.FunFrames X.base l := by
    intro l
    induction l with
    | nil => intro _ _; trivial
    | cons env r ih =>
      intro hs hl
      obtain ⟨hk, ⟨L, o, hf, hn, ho, hd⟩, hr⟩ := hl
      have hL : L ∈ X.fs := hs L (by unfold frs; rw [List.filterMap_cons, hf]; exact List.mem_cons_self)
      obtain ⟨sl, e⟩ := I.base.slot L o ho (I.ok.frf L hL) hL fun z => I.ok.exfs L z hL
      exact ⟨hk, ⟨L, _, hf, hn, e, hd⟩, ih (fun b hb => hs b (by unfold frs; rw [List.filterMap_cons, hf]; exact List.mem_cons_of_mem _ hb)) hr⟩
  exact all X.outer (fun _ hb => hb) I.ok.funs
/-- the frames that run, for a call -/
theorem Inv.stack (I : Inv X pins σ H s) : s.heap.FunFrames X.base X.stack := by
  rcases I.ok.stk with e | ⟨e, hf⟩
  · rw [e]; exact I.funs
  · rw [e]
    obtain ⟨m, hn, _⟩ := I.loc
    refine .cons (by rw [I.ok.kind]; decide) hf hn ?_ I.funs
    exact Heap.get?_none_of_le (Nat.le_trans I.ok.bsz I.ok.above)
theorem Inv.stkSub (I : Inv X pins σ H s) : ∀ b ∈ frs X.stack, b ∈ X.env.locals :: X.fs := fun b hb => by
  rcases I.ok.stk with e | ⟨e, hf⟩
  · rw [e] at hb; exact List.mem_cons_of_mem _ hb
  · rw [e] at hb
    unfold frs at hb
    rw [List.filterMap_cons, hf] at hb
    exact hb
theorem Inv.stkFree (I : Inv X pins σ H s) : ∀ b ∈ frs X.stack, H b = none := fun b hb => by
  rcases List.mem_cons.mp (I.stkSub b hb) with e | hb
  · rw [e]; exact I.free
  · obtain ⟨_, o, ho, _⟩ := I.ok.funs.mem hb
    exact I.base.free b o ho (I.ok.frf b hb) fun z => I.ok.exfs b z hb
/-- THE STEP: the untracked objects but the frame and the records at ch are kept (the callers' frames up to slots), the frame's map is kept, the new abstract heap is held -/
theorem Inv.step {g' : Array GenState} {t' : Nat} {d' : Drawn} {ch : List Addr} (I : Inv X pins σ H s)
    (hch : ∀ b ∈ ch, (b ∈ X.ex ∨ X.s₀.heap.objs.size ≤ b) ∧ b ≠ X.env.locals ∧ (∀ x c, X.env.cells.lookup x = some c → c ≠ b) ∧ ∀ p ∈ X.pn ++ pins, p.1 ≠ b)
    (keep : ∀ b o, b ≠ X.env.locals → b ∉ X.fs → b ∉ ch → s.heap.get? b = some o → H b = none → h'.get? b = some o)
    (slot : ∀ b o, b ≠ X.env.locals → b ∈ X.fs → b ∉ ch → s.heap.get? b = some o → H b = none → ∃ sl, h'.get? b = some { o with slots := sl }) (free : ∀ b o, b ∉ ch → s.heap.get? b = some o → H b = none → H' b = none)
    (there : ∀ b o, b ∉ ch → s.heap.get? b = some o → ∃ o', h'.get? b = some o')
    (tups : ∀ b xs, H b = some (.tup xs) → H' b = some (.tup xs)) (frzs : ∀ b o u, H b = some (.frz o u) → H' b = some (.frz o u)) (tbls : ∀ b ps, H b = some (.tbl ps) → ∃ more, H' b = some (.tbl (ps ++ more)))
    (ns : ∀ m, s.heap.Ns X.env.locals m → h'.Ns X.env.locals m) (hok : HOk X.prog X.w H' h') (hg : AllBare g') :
    Inv X pins σ H' { s with heap := h', gens := g', drawn := d', toks := t' } := by
  have neL : ∀ b o, X.s₀.heap.get? b = some o → b ≠ X.env.locals := fun b o e => Nat.ne_of_lt (Nat.lt_of_lt_of_le (Heap.lt_size e) I.ok.above)
  have neC : ∀ b o, X.s₀.heap.get? b = some o → b ∉ X.ex → b ∉ ch := fun b o e hx hb => by
    rcases (hch b hb).1 with z | z
    · exact hx z
    · exact absurd (Nat.lt_of_lt_of_le (Heap.lt_size e) z) (Nat.lt_irrefl _)
  have cellK : ∀ x c, X.env.cells.lookup x = some c → ∀ v, s.heap.IsCell c v → h'.IsCell c v := fun x c e v ⟨o, ho, hd⟩ => by
    have nch : c ∉ ch := fun z => (hch c z).2.2.1 x c e rfl
    by_cases hc : c ∈ X.fs
    · obtain ⟨sl, q⟩ := slot c o (I.cne x c e) hc nch ho (I.freeC x c e)
      exact ⟨_, q, hd⟩
    · exact ⟨o, keep c o (I.cne x c e) hc nch ho (I.freeC x c e), hd⟩
  refine ⟨I.ok, I.os, hg, ⟨fun b o e n hb hx => ?_, fun b o e n hb hx => ?_, fun b o e n hx => ?_, fun b o e hx => ?_, fun b xs e => tups b xs (I.base.tups b xs e), fun b o xs e => frzs b o xs (I.base.frzs b o xs e), fun b ps e => ?_⟩, ?_, fun x c e => ?_, ?_, fun x c e => ?_, fun p hp => ?_, hok, I.len⟩
  · exact keep b o (neL b o e) hb (neC b o e hx) (I.base.keep b o e n hb hx) (I.base.free b o e n hx)
  · obtain ⟨sl, e1⟩ := I.base.slot b o e n hb hx
    obtain ⟨sl', e2⟩ := slot b _ (neL b o e) hb (neC b o e hx) e1 (I.base.free b o e n hx)
    exact ⟨sl', e2⟩
  · obtain ⟨o', e1⟩ := I.base.there b o e hx
    exact free b o' (neC b o e hx) e1 (I.base.free b o e n hx)
  · obtain ⟨o', e1⟩ := I.base.there b o e hx
    exact there b o' (neC b o e hx) e1
  · obtain ⟨m1, e1⟩ := I.base.tbls b ps e
    obtain ⟨m2, e2⟩ := tbls b _ e1
    exact ⟨m1 ++ m2, by rw [e2, Array.append_assoc]⟩
  · obtain ⟨m, hn, hl⟩ := I.loc
    refine ⟨m, ns m hn, fun i x v e1 e2 e3 => ?_⟩
    obtain ⟨u, r, l⟩ := hl i x v e1 e2 e3
    refine ⟨u, r, ?_⟩
    rcases l with l | ⟨k, c, e, z⟩
    · exact .inl l
    · exact .inr ⟨k, c, e, cellK x c e _ z⟩
  · obtain ⟨v, z⟩ := I.cell x c e
    exact ⟨v, cellK x c e v z⟩
  · obtain ⟨m, ⟨o, _, _, ho, _⟩, _⟩ := I.loc
    exact free _ o (fun z => (hch _ z).2.1 rfl) ho I.free
  · obtain ⟨v, o, ho, hd⟩ := I.cell x c e
    exact free c o (fun z => (hch c z).2.2.1 x c e rfl) ho (I.freeC x c e)
  · obtain ⟨e, n, ne, nf, d⟩ := I.pin p hp
    have nch : p.1 ∉ ch := fun z => (hch p.1 z).2.2.2 p hp rfl
    exact ⟨keep p.1 p.2 ne nf nch e n, free p.1 p.2 nch e n, ne, nf, d⟩
/-- .. where the frame's own object is kept too -/
theorem Inv.un {t' : Nat} (I : Inv X pins σ H s) (u : Un X.fs [] H H' s.heap h') (hok : HOk X.prog X.w H' h') : Inv X pins σ H' { s with heap := h', toks := t' } := by
  obtain ⟨m, ⟨o, es, ep, ho, r⟩, _⟩ := id I.loc
  obtain ⟨sl, hL⟩ := u.any ho I.free (by simp)
  exact I.step (g' := s.gens) (d' := s.drawn) (ch := []) (fun _ z => nomatch z) (fun b o _ hb _ e n => u.keep b o e n hb (by simp)) (fun b o _ hb _ e n => u.slot b o e n hb (by simp)) (fun b o _ e n => u.free b o e n (by simp)) (fun b o _ e => u.there b o e (by simp)) u.tups u.frzs u.tbls (fun m' hm => by
    obtain ⟨o', es', ep', ho', r'⟩ := hm
    rw [ho] at ho'; cases ho'
    exact ⟨_, es', ep', hL, r'⟩) hok I.bare
/-- behind a call (or a comprehension's block): the slots of this frame may have changed too, the records at ch may have turned -/
theorem Inv.call {g' : Array GenState} {t' : Nat} {d' : Drawn} {ch : List Addr} (I : Inv X pins σ H s) (u : Un (frs X.stack) ch H H' s.heap h') (hok : HOk X.prog X.w H' h') (hg : AllBare g')
    (hch : ∀ b ∈ ch, (b ∈ X.ex ∨ X.s₀.heap.objs.size ≤ b) ∧ b ≠ X.env.locals ∧ (∀ x c, X.env.cells.lookup x = some c → c ≠ b) ∧ ∀ p ∈ X.pn ++ pins, p.1 ≠ b) :
    Inv X pins σ H' { s with heap := h', gens := g', drawn := d', toks := t' } := by
  obtain ⟨m, ⟨o, es, ep, ho, r⟩, _⟩ := id I.loc
  obtain ⟨sl, hL⟩ := u.any ho I.free fun z => (hch _ z).2.1 rfl
  exact I.step (ch := ch) hch (fun b o hL hb hc e n => u.keep b o e n (fun z => (List.mem_cons.mp (I.stkSub b z)).elim hL hb) hc) (fun b o _ _ hc e n => u.any e n hc) (fun b o hc e n => u.free b o e n hc) (fun b o hc e => u.there b o e hc) u.tups u.frzs u.tbls (fun m' hm => by
    obtain ⟨o', es', ep', ho', r'⟩ := hm
    rw [ho] at ho'; cases ho'
    exact ⟨_, es', ep', hL, r'⟩) hok hg
/-- an untracked record of ours (an iterator) has turned -/
theorem Inv.turned {t' : Nat} {it : Addr} (I : Inv X pins σ H s) (k : ∀ b o, b ≠ it → s.heap.get? b = some o → h'.get? b = some o) (hn : H it = none) (hL : it ≠ X.env.locals)
    (h1 : it ∈ X.ex ∨ X.s₀.heap.objs.size ≤ it) (h2 : ∀ x c, X.env.cells.lookup x = some c → c ≠ it) (h3 : ∀ p ∈ X.pn ++ pins, p.1 ≠ it) : Inv X pins σ H { s with heap := h', toks := t' } := by
  have nit : ∀ b u, H b = some u → b ≠ it := fun b u e z => by rw [z, hn] at e; cases e
  refine I.step (g' := s.gens) (d' := s.drawn) (ch := [it]) (fun b hb => ?_) (fun b o _ _ hc e _ => k b o (fun z => hc (by simp [z])) e) (fun b o _ _ hc e _ => ⟨o.slots, k b o (fun z => hc (by simp [z])) e⟩) (fun _ _ _ _ n => n)
    (fun b o hc e => ⟨o, k b o (fun z => hc (by simp [z])) e⟩) (fun _ _ e => e) (fun _ _ _ e => e) (fun b ps e => ⟨#[], by rw [e]; simp⟩) (fun m hm => ?_) (fun b u e => ?_) I.bare
  · have e : b = it := by simpa using hb
    subst e
    exact ⟨h1, hL, h2, h3⟩
  · obtain ⟨o, es, ep, ho, r⟩ := hm
    exact ⟨o, es, ep, k _ o (Ne.symm hL) ho, r⟩
  · refine (I.hok b u e).stay (fun c v hc q => k c v ?_ q) (fun _ q => q) fun _ _ q => q
    rcases hc with z | z
    · rw [z]; exact nit b u e
    · exact nit c _ z
theorem Inv.tok (I : Inv X pins σ H s) (t : Nat) : Inv X pins σ H { s with toks := t } := I.un (h' := s.heap) (t' := t) Un.refl I.hok
/-- all objects kept -/
theorem Inv.kept {t' : Nat} (I : Inv X pins σ H s) (k : ∀ b u, s.heap.get? b = some u → h'.get? b = some u) : Inv X pins σ H { s with heap := h', toks := t' } := I.un (Un.kept k) (I.hok.kept k)
/-- a new object laid and tracked -/
theorem Inv.laid {a : Addr} {o : HO} {t' : Nat} (I : Inv X pins σ H s) (k : ∀ b u, s.heap.get? b = some u → h'.get? b = some u) (hp : s.heap.objs.size ≤ a) (new : ObjOk X.prog X.w (upd H a o) h' a o) :
    Inv X pins σ (upd H a o) { s with heap := h', toks := t' } := I.un (Un.laid k hp (I.hok.fresh hp)) (I.hok.laid k hp new)
/-- an object written -/
theorem Inv.write {x e : Addr} {o : HO} {t' : Nat} (I : Inv X pins σ H s) (mu : Mut (H x)) (he : e = x ∨ H e = some (.own x)) (k : ∀ b u, b ≠ e → s.heap.get? b = some u → h'.get? b = some u) (heo : ∃ u, h'.get? e = some u)
    (new : ObjOk X.prog X.w (upd H x o) h' x o) : Inv X pins σ (upd H x o) { s with heap := h', toks := t' } := I.un (Un.write mu he k heo) (I.hok.write mu he k heo new)
theorem Inv.pins_of {pins' : List (Addr × Obj)} (I : Inv X pins σ H s) (h : ∀ p ∈ pins', s.heap.get? p.1 = some p.2 ∧ H p.1 = none ∧ p.1 ≠ X.env.locals ∧ p.1 ∉ X.fs ∧ ∀ v, p.2.data ≠ .cell v) : Inv X pins' σ H s :=
  ⟨I.ok, I.os, I.bare, I.base, I.loc, I.cell, I.free, I.freeC, fun p hp => (List.mem_append.mp hp).elim (fun z => I.pin p (List.mem_append_left _ z)) (h p), I.hok, I.len⟩
theorem nodup_ix {N : List Str} (hN : N.Nodup) {i j : Nat} {x : Str} (a : N[i]? = some x) (b : N[j]? = some x) : i = j := by
  obtain ⟨h1, e1⟩ := List.getElem?_eq_some_iff.mp a
  obtain ⟨h2, e2⟩ := List.getElem?_eq_some_iff.mp b
  exact (List.getElem_inj hN).mp (e1.trans e2.symm)
/-- a name is stored; what changed -/
theorem store_ok2 {M : Model} {A : Around} {E : Value → Shared → Prop} {i : Nat} {x : Str} {v : V} {u : Value} {Q : Unit → Shared → Prop} (I : Inv X pins σ H s) (hN : X.N.Nodup) (hi : X.N[i]? = some x) (hx : Loc X.env.scope x) (r : RelV v u)
    (h : ∀ s', Inv X pins (σ.set i (some v)) H s' → (∃ a, Heap.SameBut a s.heap s'.heap ∧ (a = X.env.locals ∨ X.env.cells.lookup x = some a)) → Q () s') (hf : X.fn x = true ∨ X.env.scope.names.lookup x = some .local := by first | exact .inl rfl | exact .inr rfl | assumption) : wpAny M A (storeName X.env x u) Q E s := by
  obtain ⟨m, hn, hl⟩ := id I.loc
  have hcls : (X.env.scope.kind == .class || (X.env.scope.kind == .module && X.env.locals != X.env.globals)) = false := by rw [I.ok.kind]; rfl
  have hiσ : i < σ.length := by rw [I.len]; exact (List.getElem?_eq_some_iff.mp hi).1
  have cne := I.cne
  have tracked : ∀ {a : Addr} {h' : Heap}, (∃ o, s.heap.get? a = some o ∧ H a = none) → Heap.SameBut a s.heap h' → HOk X.prog X.w H h' := fun {a h'} ha hs b ob e => by
    obtain ⟨_, _, hfree⟩ := ha
    refine (I.hok b ob e).stay (fun c w' hc q => (hs.2 c ?_).trans q) (fun _ q => q) fun _ _ q => q
    rintro rfl
    rcases hc with rfl | hc
    · rw [hfree] at e; cases e
    · rw [hfree] at hc; cases hc
  rcases hx with hk | hk
  · refine wpAny_storeName_local hk hn (fun h' hn' hs => ?_) hcls
    obtain ⟨oL, _, _, hoL, _⟩ := id hn
    refine h _ ⟨I.ok, I.os, I.bare, ⟨fun b o e n hb hx => ?_, fun b o e n hb hx => ?_, I.base.free, fun b o e hx => ?_, I.base.tups, I.base.frzs, I.base.tbls⟩, ⟨_, hn', fun j y v' e1 e2 e3 => ?_⟩, fun y c e => ?_, I.free, I.freeC, fun p hp => ?_, tracked ⟨oL, hoL, I.free⟩ hs, by simpa using I.len⟩ ⟨_, hs, .inl rfl⟩
    · exact (hs.2 b (Nat.ne_of_lt (Nat.lt_of_lt_of_le (Heap.lt_size e) I.ok.above))).trans (I.base.keep b o e n hb hx)
    · obtain ⟨sl, e1⟩ := I.base.slot b o e n hb hx
      exact ⟨sl, (hs.2 b (Nat.ne_of_lt (Nat.lt_of_lt_of_le (Heap.lt_size e) I.ok.above))).trans e1⟩
    · obtain ⟨o', e1⟩ := I.base.there b o e hx
      exact ⟨o', (hs.2 b (Nat.ne_of_lt (Nat.lt_of_lt_of_le (Heap.lt_size e) I.ok.above))).trans e1⟩
    · by_cases hj : j = i
      · subst hj
        rw [hi] at e1; cases e1
        rw [List.getElem?_set_self hiσ] at e2
        cases e2
        exact ⟨u, r, .inl ⟨hk, by simp⟩⟩
      · rw [List.getElem?_set_ne (Ne.symm hj)] at e2
        obtain ⟨u', r', q⟩ := hl j y v' e1 e2 e3
        refine ⟨u', r', ?_⟩
        rcases q with ⟨k, e⟩ | ⟨k, c, e, z⟩
        · refine .inl ⟨k, ?_⟩
          have : y ≠ x := fun e => hj (nodup_ix hN e1 (e ▸ hi))
          simp [this, e]
        · exact .inr ⟨k, c, e, z.sameBut hs (cne y c e)⟩
    · obtain ⟨w', z⟩ := I.cell y c e
      exact ⟨w', z.sameBut hs (cne y c e)⟩
    · obtain ⟨e, n, ne, nf, d⟩ := I.pin p hp
      exact ⟨(hs.2 p.1 ne).trans e, n, ne, nf, d⟩
  · have hfn : X.fn x = true := by
      rcases hf with z | z
      · exact z
      · rw [z] at hk; cases hk
    obtain ⟨c, hc⟩ := I.ok.has x (.inl hk)
    obtain ⟨w', z⟩ := I.cell x c hc
    refine wpAny_storeName_cell I.ok.kind hk hc z (fun h' hc' hs => ?_)
    obtain ⟨oc, hoc, hocd⟩ := id z
    refine h { s with heap := h' } ⟨I.ok, I.os, I.bare, ⟨fun b o e n hb hx => ?_, fun b o e n hb hx => ?_, I.base.free, fun b o e hx => ?_, I.base.tups, I.base.frzs, I.base.tbls⟩, ⟨m, hn.sameBut hs (Ne.symm (cne x c hc)), fun j y v' e1 e2 e3 => ?_⟩, fun y c' e => ?_, I.free, I.freeC, fun p hp => ?_, tracked ⟨oc, hoc, I.freeC x c hc⟩ hs, by simpa using I.len⟩ ⟨c, hs, .inr hc⟩
    · exact (hs.2 b (Nat.ne_of_lt (Nat.lt_of_lt_of_le (Heap.lt_size e) (I.ok.cab x c hfn hc)))).trans (I.base.keep b o e n hb hx)
    · obtain ⟨sl, e1⟩ := I.base.slot b o e n hb hx
      exact ⟨sl, (hs.2 b (Nat.ne_of_lt (Nat.lt_of_lt_of_le (Heap.lt_size e) (I.ok.cab x c hfn hc)))).trans e1⟩
    · obtain ⟨o', e1⟩ := I.base.there b o e hx
      exact ⟨o', (hs.2 b (Nat.ne_of_lt (Nat.lt_of_lt_of_le (Heap.lt_size e) (I.ok.cab x c hfn hc)))).trans e1⟩
    · by_cases hj : j = i
      · subst hj
        rw [hi] at e1; cases e1
        rw [List.getElem?_set_self hiσ] at e2
        cases e2
        exact ⟨u, r, .inr ⟨.inl hk, c, hc, hc'⟩⟩
      · rw [List.getElem?_set_ne (Ne.symm hj)] at e2
        obtain ⟨u', r', q⟩ := hl j y v' e1 e2 e3
        refine ⟨u', r', ?_⟩
        rcases q with q | ⟨k, c', e, z'⟩
        · exact .inl q
        · refine .inr ⟨k, c', e, z'.sameBut hs ?_⟩
          rintro rfl
          exact hj (nodup_ix hN e1 (I.ok.inj _ _ _ e hc ▸ hi))
    · by_cases hcc : c' = c
      · subst hcc; exact ⟨_, hc'⟩
      · obtain ⟨w2, z2⟩ := I.cell y c' e
        exact ⟨w2, z2.sameBut hs hcc⟩
    · obtain ⟨e, n, ne, nf, d⟩ := I.pin p hp
      refine ⟨(hs.2 p.1 ?_).trans e, n, ne, nf, d⟩
      intro q
      rw [q, hoc] at e
      have q' : oc = p.2 := Option.some.inj e
      exact d w' (by rw [← q']; exact hocd)
theorem store_ok {M : Model} {A : Around} {E : Value → Shared → Prop} {i : Nat} {x : Str} {v : V} {u : Value} {Q : Unit → Shared → Prop} (I : Inv X pins σ H s) (hN : X.N.Nodup) (hi : X.N[i]? = some x) (hx : Loc X.env.scope x) (r : RelV v u)
    (h : ∀ s', Inv X pins (σ.set i (some v)) H s' → Q () s') (hf : X.fn x = true ∨ X.env.scope.names.lookup x = some .local := by first | exact .inl rfl | exact .inr rfl | assumption) : wpAny M A (storeName X.env x u) Q E s :=
  store_ok2 I hN hi hx r (fun s' I' _ => h s' I') hf
/-- behind a call or a block, the state as it is -/
theorem Inv.call' {s' : Shared} {ch : List Addr} (I : Inv X pins σ H s) (ho : s'.os = s.os) (u : Un (frs X.stack) ch H H' s.heap s'.heap) (hok : HOk X.prog X.w H' s'.heap) (hg : AllBare s'.gens)
    (hch : ∀ b ∈ ch, (b ∈ X.ex ∨ X.s₀.heap.objs.size ≤ b) ∧ b ≠ X.env.locals ∧ (∀ x c, X.env.cells.lookup x = some c → c ≠ b) ∧ ∀ p ∈ X.pn ++ pins, p.1 ≠ b) : Inv X pins σ H' s' := by
  obtain ⟨h', g', d', t', o'⟩ := s'
  have e : o' = s.os := ho
  subst e
  exact I.call (g' := g') (t' := t') (d' := d') u hok hg hch
end
/-- an exception: its class, its own dict's address (where it has one), the abstract heap behind it -/
abbrev XK := Value → Option Addr → Hp → Prop
abbrev St := List (Option V)
abbrev VK := V → Hp → Prop
/-- an expression's reading; a test's; an argument list's -/
abbrev TE := St → Hp → VK → Prop
abbrev TT := St → Hp → (Bool → Hp → Prop) → Prop
abbrev TA := St → Hp → (List V → Hp → Prop) → Prop
/-- what is wanted behind a statement -/
structure Ends where
  nx : St → Hp → Prop
  rt : VK
  bk : St → Hp → Prop := fun _ _ => False
  ct : St → Hp → Prop := fun _ _ => False
abbrev TS := Ends → St → Hp → Prop
def EP (X : Cx) (pins : List (Addr × Obj)) (σ : St) (Q : VK) (u : Value) (s' : Shared) : Prop := ∃ v H', Inv X pins σ H' s' ∧ RelV v u ∧ Q v H'
def TP (X : Cx) (pins : List (Addr × Obj)) (σ : St) (Q : Bool → Hp → Prop) (b : Bool) (s' : Shared) : Prop := ∃ H', Inv X pins σ H' s' ∧ Q b H'
def AP (X : Cx) (pins : List (Addr × Obj)) (σ : St) (Q : List V → Hp → Prop) (us : List Value) (s' : Shared) : Prop := ∃ vs H', Inv X pins σ H' s' ∧ Vals vs us ∧ Q vs H'
def SP (X : Cx) (pins : List (Addr × Obj)) (D : Ends) (f : Flow) (s' : Shared) : Prop :=
  match f with
  | .next => ∃ σ' H', Inv X pins σ' H' s' ∧ D.nx σ' H'
  | .brk => ∃ σ' H', Inv X pins σ' H' s' ∧ D.bk σ' H'
  | .cont => ∃ σ' H', Inv X pins σ' H' s' ∧ D.ct σ' H'
  | .ret u => ∃ v σ' H', Inv X pins σ' H' s' ∧ RelV v u ∧ D.rt v H'
def PE (X : Cx) (e : Expr) (t : TE) : Prop :=
  ∀ (pins : List (Addr × Obj)) (s : Shared) (σ : St) (H : Hp) (Q : VK), Inv X pins σ H s → t σ H Q → wpAny (model X.prog X.w) X.A (eval e X.env) (EP X pins σ Q) X.xe s
def PT (X : Cx) (e : Expr) (t : TT) : Prop :=
  ∀ (pins : List (Addr × Obj)) (s : Shared) (σ : St) (H : Hp) (Q : Bool → Hp → Prop), Inv X pins σ H s → t σ H Q → wpAny (model X.prog X.w) X.A (isTrue e X.env (eval e X.env)) (TP X pins σ Q) X.xe s
/-- a test whatever its 'whole' is (and, or) -/
def PW (X : Cx) (e : Expr) (t : TT) : Prop :=
  ∀ (whole : Sem Value) (pins : List (Addr × Obj)) (s : Shared) (σ : St) (H : Hp) (Q : Bool → Hp → Prop), Inv X pins σ H s → t σ H Q → wpAny (model X.prog X.w) X.A (isTrue e X.env whole) (TP X pins σ Q) X.xe s
theorem PW.pt {X : Cx} {e : Expr} {t : TT} (h : PW X e t) : PT X e t := h _
/-- an argument list (no star), from the left -/
def PA (X : Cx) (es : List Expr) (t : TA) : Prop :=
  ∀ (pos : Pos) (pins : List (Addr × Obj)) (s : Shared) (σ : St) (H : Hp) (Q : List V → Hp → Prop), Inv X pins σ H s → t σ H Q → wpAny (model X.prog X.w) X.A (spliced (backTo pos (starEach es X.env))) (AP X pins σ Q) X.xe s
def PS (X : Cx) (st : Stmt) (t : TS) : Prop :=
  ∀ (pins : List (Addr × Obj)) (s : Shared) (σ : St) (H : Hp) (D : Ends), Inv X pins σ H s → t D σ H → wpAny (model X.prog X.w) X.A (exec st X.env) (SP X pins D) X.xe s
def PSs (X : Cx) (st : List Stmt) (t : TS) : Prop :=
  ∀ (pins : List (Addr × Obj)) (s : Shared) (σ : St) (H : Hp) (D : Ends), Inv X pins σ H s → t D σ H → wpAny (model X.prog X.w) X.A (execs st X.env) (SP X pins D) X.xe s
/-- weaken the end -/
theorem thn {α : Type} {t : Sem α} {Q Q' : α → Shared → Prop} {M : Model} {A : Around} {E : Value → Shared → Prop} {s : Shared} (h : wpAny M A t Q E s) (hQ : ∀ a s, Q a s → Q' a s) : wpAny M A t Q' E s := wpAny_mono h hQ fun _ _ x => x
end L2
namespace L2
open PySem PySem.Spec PyProof.Rows
section
variable {X : Cx}
def tVar (i : Nat) : TE := fun σ H Q => ∃ v, σ[i]? = some (some v) ∧ Q v H
def tC (v : V) : TE := fun _ H Q => Q v H
theorem pe_var {i : Nat} {x : Str} {pos : Pos} (hN : X.N[i]? = some x) (hv : Vis X.env.scope x) (hd : (x == ("__debug__" : Str)) = false := by decide) (hcd : (x == ("__classdict__" : Str)) = false := by decide) : PE X (.Name x pos) (tVar i) := by
  intro pins s σ H Q I h
  obtain ⟨v, e, h⟩ := h
  obtain ⟨m, hn, hl⟩ := I.loc
  obtain ⟨u, r, l⟩ := hl i x v hN e hv
  have fin : EP X pins σ Q u s := ⟨v, H, I, r, h⟩
  rcases l with ⟨hk, hm⟩ | ⟨hk, c, hc, hcell⟩
  · exact wpAny_Name (wpAny_loadName_local I.ok.kind hk hn hm fin) hd
  · rcases hk with hk | hk
    · exact wpAny_Name (wpAny_loadName_cell I.ok.kind hk hc hcell fin) hd
    · exact wpAny_Name (wpAny_loadName_free I.ok.kind hk hc hcell fin hcd) hd
theorem pe_int {i j pos} : PE X (.Constant (.int i) j pos) (tC (.int i)) := fun _ _ _ H _ I h => wpAny_Constant_int ⟨.int i, H, I.tok _, ⟨_, rfl⟩, h⟩
theorem pe_bl {b j pos} : PE X (.Constant (.bool b) j pos) (tC (.bl b)) := fun _ _ _ H _ I h => Constant_bool ⟨.bl b, H, I, rfl, h⟩
theorem pe_non {j pos} : PE X (.Constant .none j pos) (tC .non) := fun _ _ _ H _ I h => Constant_none ⟨.non, H, I, rfl, h⟩
theorem pe_str {x j pos} : PE X (.Constant (.str x) j pos) (tC (.str x)) := fun _ _ _ H _ I h => Calls.Constant_str ⟨.str x, H, I.tok _, ⟨_, rfl⟩, h⟩
/-- a global name of the def -/
def Gl (X : Cx) (x : Str) : Prop := X.env.kindOf x = some .globalImplicit
theorem ld_glob {E : Value → Shared → Prop} {pins : List (Addr × Obj)} {s : Shared} {σ : St} {H : Hp} {x : Str} {u : Value} {pos : Pos} {Q : Value → Shared → Prop} (I : Inv X pins σ H s) (hg : Gl X x) (hm : X.mg x = some u) (h : Q u s)
    (hd : (x == ("__debug__" : Str)) = false := by decide) : wpAny (model X.prog X.w) X.A (eval (.Name x pos) X.env) Q E s :=
  Calls.Name_function_global I.ok.kind hg (Calls.loadGlobal_global (by rw [I.ok.glob]; exact I.mod.glob.keeps I.bk) hm h) hd
theorem ld_blt {E : Value → Shared → Prop} {pins : List (Addr × Obj)} {s : Shared} {σ : St} {H : Hp} {x : Str} {u : Value} {pos : Pos} {Q : Value → Shared → Prop} (I : Inv X pins σ H s) (hg : Gl X x) (hm : X.mg x = none) (hv : bootBuiltins x = some u) (h : Q u s)
    (hn : x ≠ "__name__" := by decide) (hd : (x == ("__debug__" : Str)) = false := by decide) : wpAny (model X.prog X.w) X.A (eval (.Name x pos) X.env) Q E s := by
  obtain ⟨mb, h1, h2⟩ := I.mod.blt
  exact Calls.Name_function_global I.ok.kind hg (Calls.loadGlobal_builtin (by rw [I.ok.glob]; exact I.mod.glob.keeps I.bk) hm (by rw [I.ok.blt]; exact h1.keeps I.bk) ((h2 x hn).trans hv) h) hd
theorem pe_bltn {x : Str} {v : V} {u : Value} {pos : Pos} (hg : Gl X x) (hm : X.mg x = none) (hv : bootBuiltins x = some u) (r : RelV v u) (hn : x ≠ "__name__" := by decide) (hd : (x == ("__debug__" : Str)) = false := by decide) : PE X (.Name x pos) (tC v) :=
  fun _ _ _ H _ I h => ld_blt I hg hm hv ⟨v, H, I, r, h⟩ hn hd
/-- two ints -/
def t2I (ta tb : TE) (k : Int → Int → Hp → Prop) : St → Hp → Prop := fun σ H => ta σ H fun x H1 => tb σ H1 fun y H2 => ∃ i j, x = .int i ∧ y = .int j ∧ k i j H2
def tAdd (ta tb : TE) : TE := fun σ H Q => t2I ta tb (fun i j H2 => Q (.int (i + j)) H2) σ H
def tSub (ta tb : TE) : TE := fun σ H Q => t2I ta tb (fun i j H2 => Q (.int (i - j)) H2) σ H
/-- the left factor below 2^64 -/
def tMul (ta tb : TE) : TE := fun σ H Q => t2I ta tb (fun i j H2 => (-(2 ^ 64) < i ∧ i < 2 ^ 64) ∧ Q (.int (i * j)) H2) σ H
variable {a b : Expr} {ta tb : TE} {pos : Pos}
def PC (X : Cx) (op : CmpOp) (a b : Expr) (t : TE) : Prop :=
  ∀ (pins : List (Addr × Obj)) (s : Shared) (σ : St) (H : Hp) (Q : VK), Inv X pins σ H s → t σ H Q →
    wpAny (model X.prog X.w) X.A (eval a X.env) (fun v s₁ => wpAny (model X.prog X.w) X.A (eval b X.env) (fun u s₂ => wpAny (model X.prog X.w) X.A (compareOp op v u) (EP X pins σ Q) X.xe s₂) X.xe s₁) X.xe s
def tCmp (p : Int → Int → Bool) (ta tb : TE) : TE := fun σ H Q => t2I ta tb (fun i j H2 => Q (.bl (p i j)) H2) σ H
abbrev tLt : TE → TE → TE := tCmp fun i j => decide (i < j)
abbrev tLe : TE → TE → TE := tCmp fun i j => decide (i ≤ j)
abbrev tGt : TE → TE → TE := tCmp fun i j => decide (j < i)
abbrev tGe : TE → TE → TE := tCmp fun i j => decide (j ≤ i)
abbrev tEqI : TE → TE → TE := tCmp fun i j => decide (i = j)
abbrev tNeI : TE → TE → TE := tCmp fun i j => !decide (i = j)
/-- is None -/
def tIsN (ta : TE) : TE := fun σ H Q => ta σ H fun x H1 => Q (.bl (decide (x = .non))) H1
def tNotN (ta : TE) : TE := fun σ H Q => ta σ H fun x H1 => Q (.bl (!decide (x = .non))) H1
/-- a comparison as a value, as a test -/
def tB (t : TE) : TT := fun σ H Q => t σ H fun x H1 => ∃ c, x = .bl c ∧ Q c H1
/-- an expression whose value is a bool, as a test -/
theorem pt_val {e : Expr} {t : TE} (h : PE X e t) (he : ∀ whole, isTrue e X.env whole = (do let v ← whole; standAt e.pos; holding [v] (truthy v)) := by intro _; rfl) : PT X e (tB t) := by
  intro pins s σ H Q I hw
  refine isTrue_plain (thn (h pins s σ H _ I hw) fun v s1 ⟨x, H1, I1, r1, q1⟩ => ?_) (he _)
  obtain ⟨d, rfl, q⟩ := q1
  cases r1
  exact wpAny_truthy_bool ⟨H1, I1, q⟩
variable {tA tB' : TT} {rest : List Expr}
def tAnd (t u : TT) : TT := fun σ H Q => t σ H fun c H1 => if c = true then u σ H1 Q else Q false H1
def tOr (t u : TT) : TT := fun σ H Q => t σ H fun c H1 => if c = true then Q true H1 else u σ H1 Q
def tNot (t : TT) : TT := fun σ H Q => t σ H fun c H1 => Q (!c) H1
theorem pw_or1 (ha : PT X a tA) : PW X (.BoolOp .Or [a] pos) tA := by
  intro wh pins s σ H Q I h
  refine isTrue_or (thn (ha pins s σ H Q I h) fun c s1 e => ?_)
  cases c with
  | false => exact isTrue_or_nil e
  | true => exact e
theorem pw_or (ha : PT X a tA) (hb : PW X (.BoolOp .Or (b :: rest) pos) tB') : PW X (.BoolOp .Or (a :: b :: rest) pos) (tOr tA tB') := by
  intro wh pins s σ H Q I h
  refine isTrue_or (thn (ha pins s σ H _ I h) fun c s1 ⟨H1, I1, q1⟩ => ?_)
  cases c with
  | true => exact ⟨H1, I1, q1⟩
  | false => exact hb wh pins s1 σ H1 Q I1 q1
theorem pt_not (ha : PT X a tA) : PT X (.UnaryOp .Not a pos) (tNot tA) := by
  intro pins s σ H Q I h
  exact isTrue_not (ha pins s σ H (fun c H1 => Q (!c) H1) I h)
/-- .. as values (bools) -/
def tAndV (ta tb : TE) : TE := fun σ H Q => ta σ H fun x H1 => ∃ c, x = .bl c ∧ if c = true then tb σ H1 Q else Q (.bl false) H1
def tOrV (ta tb : TE) : TE := fun σ H Q => ta σ H fun x H1 => ∃ c, x = .bl c ∧ if c = true then Q (.bl true) H1 else tb σ H1 Q
def tNotV (ta : TE) : TE := fun σ H Q => ta σ H fun x H1 => ∃ c, x = .bl c ∧ Q (.bl (!c)) H1
theorem pe_one {op} {t : TE} (h : PE X a t) : PE X (.BoolOp op [a] pos) t := fun pins s σ H Q I hw => BoolOp_one (h pins s σ H Q I hw)
theorem pe_and (ha : PE X a ta) (hb : PE X (.BoolOp .And (b :: rest) pos) tb) : PE X (.BoolOp .And (a :: b :: rest) pos) (tAndV ta tb) := by
  intro pins s σ H Q I h
  refine BoolOp_and (thn (ha pins s σ H _ I h) fun v s1 ⟨x, H1, I1, r1, q1⟩ => ?_)
  obtain ⟨c, rfl, q1⟩ := q1
  cases r1
  refine wpAny_truthy_bool ?_
  cases c with
  | true => exact hb pins s1 σ H1 Q I1 q1
  | false => exact ⟨.bl false, H1, I1, rfl, q1⟩
theorem pe_not (ha : PE X a ta) : PE X (.UnaryOp .Not a pos) (tNotV ta) := by
  intro pins s σ H Q I h
  refine UnaryOp_ (thn (ha pins s σ H _ I h) fun v s1 ⟨x, H1, I1, r1, q1⟩ => ?_)
  obtain ⟨c, rfl, q1⟩ := q1
  cases r1
  exact not_of (wpAny_truthy_bool ⟨.bl (!c), H1, I1, rfl, q1⟩)
/-- a if t else b -/
def tIf (t : TT) (ta tb : TE) : TE := fun σ H Q => t σ H fun c H1 => if c = true then ta σ H1 Q else tb σ H1 Q
theorem pe_ifExp {c : Expr} (hc : PT X c tA) (ha : PE X a ta) (hb : PE X b tb) : PE X (.IfExp c a b pos) (tIf tA ta tb) := by
  intro pins s σ H Q I h
  refine wpAny_IfExp (thn (hc pins s σ H _ I h) fun d s1 ⟨H1, I1, q1⟩ => ?_)
  cases d with
  | true => exact ha pins s1 σ H1 Q I1 q1
  | false => exact hb pins s1 σ H1 Q I1 q1
end
end L2
namespace L2
open PySem PySem.Spec PyProof.Rows
def SqL (K : PySem.W.Frag) (H : Hp) (a : Addr) (xs : List V) : Prop :=
  Rd H a (.lst xs) ∨
    ∃ (o : Obj) (its : Array Value) (n : Nat), K.lookup a = some o ∧ o.cls = .type "list" ∧ o.dict = none ∧ o.data = .seq its n ∧ its.size ≤ sizeLine ∧ Vals xs its.toList
def SqT (K : PySem.W.Frag) (H : Hp) (a : Addr) (xs : List V) : Prop :=
  Rd H a (.tup xs) ∨
    ∃ (o : Obj) (its : Array Value) (n : Nat), K.lookup a = some o ∧ o.cls = .type "tuple" ∧ o.data = .seq its n ∧ its.size ≤ sizeLine ∧ Vals xs its.toList
def absV : Value → Option V
  | .none => some .non
  | .bool b => some (.bl b)
  | .int i _ => some (.int i)
  | .str x _ => some (.str x)
  | .bytes b _ => some (.byt b)
  | .float b _ => some (.flt b)
  | .ref a => some (.ref a)
  | .type n => some (.ty n)
  | _ => none
theorem RelV.abs {x : V} {u : Value} (r : RelV x u) : absV u = some x := by
  cases x with
  | non => cases r; rfl
  | bl _ => cases r; rfl
  | int _ => obtain ⟨t, rfl⟩ := r; rfl
  | str _ => obtain ⟨t, rfl⟩ := r; rfl
  | byt _ => obtain ⟨t, rfl⟩ := r; rfl
  | flt _ => obtain ⟨t, rfl⟩ := r; rfl
  | ref _ => cases r; rfl
  | ty _ => cases r; rfl
theorem RelV.inj {x y : V} {u : Value} (r : RelV x u) (q : RelV y u) : x = y := Option.some.inj (r.abs.symm.trans q.abs)
theorem Vals.inj : ∀ {xs ys : List V} {us : List Value}, Vals xs us → Vals ys us → xs = ys
  | _, _, _, .nil, .nil => rfl
  | _, _, _, .cons r t, .cons r' t' => by rw [r.inj r', Vals.inj t t']
section
variable {X : Cx} {pins : List (Addr × Obj)} {σ : St} {H : Hp} {s : Shared} {a : Addr} {xs ys : List V}
theorem SqL.of {K : PySem.W.Frag} (h : H a = some (.lst xs)) : SqL K H a xs := .inl (.inl h)
theorem SqT.of {K : PySem.W.Frag} (h : H a = some (.tup xs)) : SqT K H a xs := .inl (.inl h)
theorem Inv.list (I : Inv X pins σ H s) (h : SqL X.K H a xs) : ∃ its : List Value, Vals xs its ∧ PlainL s.heap a its.toArray ∧ xs.length ≤ sizeLine := by
  rcases h with h | ⟨o, its, n, hk, hc, hd, hs, hz, r⟩
  · obtain ⟨z, its, n, r, e⟩ := h.ok I.hok
    exact ⟨its, r, ⟨_, n, e, rfl, rfl, rfl⟩, z⟩
  · refine ⟨its.toList, r, ⟨o, n, I.kIn a o hk, hc, hd, by simpa using hs⟩, ?_⟩
    have e := r.length
    simp only [Array.length_toList] at e
    omega
theorem Inv.tuple (I : Inv X pins σ H s) (h : SqT X.K H a xs) : ∃ its : List Value, Vals xs its ∧ IsTup s.heap a its.toArray ∧ xs.length ≤ sizeLine := by
  rcases h with h | ⟨o, its, n, hk, hc, hs, hz, r⟩
  · obtain ⟨z, its, r, p⟩ := h.ok I.hok
    exact ⟨its, r, p, z⟩
  · refine ⟨its.toList, r, ⟨o, I.kIn a o hk, hc, n, by simpa using hs⟩, ?_⟩
    have e := r.length
    simp only [Array.length_toList] at e
    omega
theorem Inv.list_inj (I : Inv X pins σ H s) (h : SqL X.K H a xs) (h' : SqL X.K H a ys) : xs = ys := by
  obtain ⟨its, r, ⟨o, n, e, _, _, d⟩, _⟩ := I.list h
  obtain ⟨its', r', ⟨o', n', e', _, _, d'⟩, _⟩ := I.list h'
  rw [e] at e'; cases e'
  rw [d] at d'
  injection d' with d1 _
  have : its = its' := by simpa using congrArg Array.toList d1
  subst this
  exact r.inj r'
theorem Inv.tuple_inj (I : Inv X pins σ H s) (h : SqT X.K H a xs) (h' : SqT X.K H a ys) : xs = ys := by
  obtain ⟨its, r, ⟨o, e, _, n, d⟩, _⟩ := I.tuple h
  obtain ⟨its', r', ⟨o', e', _, n', d'⟩, _⟩ := I.tuple h'
  rw [e] at e'; cases e'
  rw [d] at d'
  injection d' with d1 _
  have : its = its' := by simpa using congrArg Array.toList d1
  subst this
  exact r.inj r'
end
abbrev Cx.wish (X : Cx) (E : Value → Shared → Prop) : Cx := { X with xe := E }
/-- no exception leaves -/
abbrev Cx.nox (X : Cx) : Cx := X.wish fun _ _ => False
theorem Cx.Ok.wish {X : Cx} (ok : X.Ok) (E : Value → Shared → Prop) : (X.wish E).Ok :=
  ⟨ok.mod, ok.kind, ok.glob, ok.blt, ok.above, ok.inj, ok.has, ok.cab, ok.hd, ok.frames, ok.stk, ok.exf, ok.bs, ok.bsz, ok.noex, ok.exfs, ok.funs, ok.frf⟩
theorem Cx.Ok.unwish {X : Cx} {E : Value → Shared → Prop} (ok : (X.wish E).Ok) : X.Ok :=
  ⟨ok.mod, ok.kind, ok.glob, ok.blt, ok.above, ok.inj, ok.has, ok.cab, ok.hd, ok.frames, ok.stk, ok.exf, ok.bs, ok.bsz, ok.noex, ok.exfs, ok.funs, ok.frf⟩
section
variable {X : Cx} {pins : List (Addr × Obj)} {σ : St} {H : Hp} {s : Shared} {E : Value → Shared → Prop}
theorem Inv.wish (I : Inv X pins σ H s) (E : Value → Shared → Prop) : Inv (X.wish E) pins σ H s := ⟨I.ok.wish E, I.os, I.bare, I.base, I.loc, I.cell, I.free, I.freeC, I.pin, I.hok, I.len⟩
theorem Inv.unwish (I : Inv (X.wish E) pins σ H s) : Inv X pins σ H s := ⟨I.ok.unwish, I.os, I.bare, I.base, I.loc, I.cell, I.free, I.freeC, I.pin, I.hok, I.len⟩
theorem SP.unwish {D : Ends} {f : Flow} {s' : Shared} (h : SP (X.wish E) pins D f s') : SP X pins D f s' := by
  cases f with
  | next => obtain ⟨σ', H', I, q⟩ := h; exact ⟨σ', H', I.unwish, q⟩
  | brk => obtain ⟨σ', H', I, q⟩ := h; exact ⟨σ', H', I.unwish, q⟩
  | cont => obtain ⟨σ', H', I, q⟩ := h; exact ⟨σ', H', I.unwish, q⟩
  | ret u => obtain ⟨v, σ', H', I, r, q⟩ := h; exact ⟨v, σ', H', I.unwish, r, q⟩
theorem PSs.nox {st : List Stmt} {t : TS} (h : PSs X.nox st t) : PSs X st t := fun pins s σ H D I hw =>
  wpAny_mono (h pins s σ H D (I.wish _) hw) (fun _ _ q => q.unwish) fun _ _ z => False.elim z
end
section
variable {X : Cx} {st : Stmt} {rest : List Stmt} {t u : TS} {e : Expr} {te : TE} {pos : Pos}
def tNext : TS := fun D σ H => D.nx σ H
def tSeq (t u : TS) : TS := fun D σ H => t { D with nx := u D } σ H
theorem pss_nil : PSs X [] tNext := fun _ _ σ H _ I h => wpAny_execs_nil ⟨σ, H, I, h⟩
theorem pss_cons (h1 : PS X st t) (h2 : PSs X rest u) : PSs X (st :: rest) (tSeq t u) := by
  intro pins s σ H D I h
  refine wpAny_execs_cons (thn (h1 pins s σ H { D with nx := u D } I h) fun f s1 q => ?_)
  cases f with
  | next =>
    obtain ⟨σ', H', I', q⟩ := q
    exact h2 pins s1 σ' H' D I' q
  | ret v => exact q
  | brk => exact q
  | cont => exact q
theorem pss_one (h1 : PS X st t) : PSs X [st] t := by
  intro pins s σ H D I h
  refine wpAny_execs_cons (thn (h1 pins s σ H D I h) fun f s1 q => ?_)
  cases f with
  | next => exact wpAny_execs_nil q
  | ret v => exact q
  | brk => exact q
  | cont => exact q
def tBreak : TS := fun D σ H => D.bk σ H
def tCont : TS := fun D σ H => D.ct σ H
/-- in a def's body nothing is shown -/
theorem Inv.quiet {pins : List (Addr × Obj)} {σ : St} {H : Hp} {s : Shared} (I : Inv X pins σ H s) : interactive X.env = false := by simp [interactive, I.ok.kind]
/-- an expression whose value is dropped -/
def tDrop (te : TE) : TS := fun D σ H => te σ H fun _ H1 => D.nx σ H1
theorem ps_expr (he : PE X e te) (hs : swapsWith e none pos.line X.env = pure false := by rfl) : PS X (.Expr e pos) (tDrop te) := by
  intro pins s σ H D I h
  exact wpAny_Expr_any (thn (he pins s σ H _ I h) fun v s1 ⟨x, H1, I1, r1, q1⟩ => ⟨σ, H1, I1, q1⟩) I.quiet hs
def tRet (te : TE) : TS := fun D σ H => te σ H D.rt
theorem ps_ret (he : PE X e te) : PS X (.Return (some e) pos) (tRet te) := by
  intro pins s σ H D I h
  exact wpAny_Return_some (thn (he pins s σ H _ I h) fun v s1 ⟨x, H1, I1, r1, q1⟩ => ⟨x, σ, H1, I1, r1, q1⟩)
def tRetN : TS := fun D _ H => D.rt .non H
def tIfS (c : TT) (t u : TS) : TS := fun D σ H => c σ H fun b H1 => if b = true then t D σ H1 else u D σ H1
theorem ps_if {c : Expr} {a b : List Stmt} {tc : TT} (hc : PT X c tc) (ha : PSs X a t) (hb : PSs X b u) : PS X (.If c a b pos) (tIfS tc t u) := by
  intro pins s σ H D I h
  refine wpAny_If (thn (hc pins s σ H _ I h) fun d s1 ⟨H1, I1, q1⟩ => ?_)
  cases d with
  | true => exact ha pins s1 σ H1 D I1 q1
  | false => exact hb pins s1 σ H1 D I1 q1
/-- code that the proof never comes to -/
def tNever : TS := fun _ _ _ => False
end
abbrev TG := V → St → Hp → (St → Hp → Prop) → Prop
abbrev TGs := List V → St → Hp → (St → Hp → Prop) → Prop
def PG (X : Cx) (target : Expr) (t : TG) : Prop :=
  ∀ (pins : List (Addr × Obj)) (s : Shared) (σ : St) (H : Hp) (v : V) (u : Value) (Q : St → Hp → Prop), Inv X pins σ H s → RelV v u → t v σ H Q →
    wpAny (model X.prog X.w) X.A (assign target X.env u) (fun _ s' => ∃ σ' H', Inv X pins σ' H' s' ∧ Q σ' H') X.xe s
/-- several targets, one after another -/
def PGs (X : Cx) (ts : List Expr) (t : TGs) : Prop :=
  ∀ (pins : List (Addr × Obj)) (s : Shared) (σ : St) (H : Hp) (vs : List V) (us : List Value) (Q : St → Hp → Prop), Inv X pins σ H s → Vals vs us → t vs σ H Q →
    wpAny (model X.prog X.w) X.A (assignInOrder ((assignEach ts X.env).map (·.2)) us) (fun _ s' => ∃ σ' H', Inv X pins σ' H' s' ∧ Q σ' H') X.xe s
/-- o[i] = v, by values -/
abbrev TSet := V → V → V → Hp → (Hp → Prop) → Prop
def PSet (X : Cx) (t : TSet) : Prop :=
  ∀ (pins : List (Addr × Obj)) (s : Shared) (σ : St) (H : Hp) (o i v : V) (ov iv u : Value) (Q : Hp → Prop), Inv X pins σ H s → RelV o ov → RelV i iv → RelV v u → t o i v H Q →
    wpAny (model X.prog X.w) X.A (setItem ov iv u) (fun _ s' => ∃ H', Inv X pins σ H' s' ∧ Q H') X.xe s
/-- a op= b, by values -/
abbrev TIp := V → V → Hp → VK → Prop
def PIp (X : Cx) (op : Operator) (t : TIp) : Prop :=
  ∀ (pins : List (Addr × Obj)) (s : Shared) (σ : St) (H : Hp) (x y : V) (v u : Value) (Q : VK), Inv X pins σ H s → RelV x v → RelV y u → t x y H Q →
    wpAny (model X.prog X.w) X.A (inplaceOp op v u) (EP X pins σ Q) X.xe s
section
variable {X : Cx} {pos : Pos}
def gName (i : Nat) : TG := fun v σ H Q => Q (σ.set i (some v)) H
theorem pg_name {i : Nat} {x : Str} (hN : X.N.Nodup) (hi : X.N[i]? = some x) (hx : Loc X.env.scope x) (hf : X.fn x = true ∨ X.env.scope.names.lookup x = some .local := by first | exact .inl rfl | exact .inr rfl | assumption) : PG X (.Name x pos) (gName i) := by
  intro pins s σ H v u Q I r h
  exact wpAny_assign_Name (store_ok I hN hi hx r (fun s' I' => ⟨_, H, I', h⟩) hf)
def gNil : TGs := fun vs σ H Q => vs = [] ∧ Q σ H
def gCons (t : TG) (u : TGs) : TGs := fun vs σ H Q => ∃ v r, vs = v :: r ∧ t v σ H fun σ' H' => u r σ' H' Q
theorem pgs_nil : PGs X [] gNil := by
  intro pins s σ H vs us Q I r h
  obtain ⟨e, h⟩ := h
  subst e
  cases r
  exact assignInOrder_nil ⟨σ, H, I, h⟩
theorem pgs_cons {e : Expr} {es : List Expr} {t : TG} {u : TGs} (h1 : PG X e t) (h2 : PGs X es u)
    (hs : (assignEach (e :: es) X.env).map (·.2) = assign e X.env :: (assignEach es X.env).map (·.2) := by rfl) : PGs X (e :: es) (gCons t u) := by
  intro pins s σ H vs us Q I r h
  obtain ⟨v, vr, e1, h⟩ := h
  subst e1
  cases r with
  | cons r rr =>
    rw [hs]
    refine assignInOrder_cons (thn (h1 pins s σ H _ _ _ I r h) fun _ s1 ⟨σ1, H1, I1, q1⟩ => ?_)
    exact h2 pins s1 σ1 H1 _ _ Q I1 rr q1
/-- (a, b, ..) = a tuple of that length -/
def gTup (K : PySem.W.Frag) (n : Nat) (t : TGs) : TG := fun v σ H Q => ∃ a xs, v = .ref a ∧ SqT K H a xs ∧ xs.length = n ∧ t xs σ H Q
theorem pg_tup {es : List Expr} {k : Nat} {t : TGs} {n : Nat} (hc : X.calm = true) (h : PGs X es t)
    (hn : (assignEach es X.env).length = n := by rfl) (hst : (assignEach es X.env).findIdx? (·.1) = none := by rfl) : PG X (.Tuple es k pos) (gTup X.K n t) := by
  intro pins s σ H v u Q I r hw
  obtain ⟨a, xs, e1, hq, hl, hw⟩ := hw
  subst e1
  cases r
  obtain ⟨its, rv, ht, hz⟩ := I.tuple hq
  refine assign_Tuple_tuple (I.ok.hd hc) ht (by simp [hn, ← hl, rv.length]) hst fun h' hx => ?_
  have I1 : Inv X pins σ H { s with heap := h' } := I.kept (t' := s.toks) fun b o e => hx b o (Nat.ne_of_lt (Heap.lt_size e)) e
  exact h pins _ σ H xs _ Q I1 (by simpa using rv) hw
/-- o[i] = .. -/
def gSub (to ti : TE) (t : TSet) : TG := fun v σ H Q => to σ H fun o H1 => ti σ H1 fun i H2 => t o i v H2 fun H3 => Q σ H3
/-- target = value -/
def tAsg (te : TE) (g : TG) : TS := fun D σ H => te σ H fun x H1 => g x σ H1 D.nx
theorem ps_asg {tg e : Expr} {te : TE} {g : TG} (he : PE X e te) (hg : PG X tg g) (hs : swapsWithSole [tg] e pos.line X.env = pure false := by rfl) (hw : swappedStores [tg] e X.env = pure none := by rfl)
    (h1 : (assignEach [tg] X.env).map (·.2) = [assign tg X.env] := by rfl) : PS X (.Assign [tg] e pos) (tAsg te g) := by
  intro pins s σ H D I h
  refine wpAny_Assign_stores (thn (he pins s σ H _ I h) fun v s1 ⟨x, H1, I1, r1, q1⟩ => ?_) hs hw
  rw [h1]
  exact thn (hg pins s1 σ H1 x v _ I1 r1 q1) fun _ s2 q => q
/-- name = value -/
theorem ps_set {i : Nat} {x : Str} {e : Expr} {te : TE} {pos' : Pos} (hN : X.N.Nodup) (hi : X.N[i]? = some x) (hx : Loc X.env.scope x) (he : PE X e te) (hs : swapsWith e (some (.Name x pos')) pos.line X.env = pure false := by rfl) (hf : X.fn x = true ∨ X.env.scope.names.lookup x = some .local := by first | exact .inl rfl | exact .inr rfl | assumption) :
    PS X (.Assign [.Name x pos'] e pos) (tAsg te (gName i)) := by
  intro pins s σ H D I h
  refine wpAny_Assign_Name (thn (he pins s σ H _ I h) fun v s1 ⟨y, H1, I1, r1, q1⟩ => ?_) hs
  exact store_ok I1 hN hi hx r1 (fun s2 I2 => ⟨_, H1, I2, q1⟩) hf
/-- a, b = x, y with plain local names: stored from the right; the pair itself is not tracked (the opening rows as in PyProof/Rows/TupAssign.lean:23) -/
def tPar (i j : Nat) (ta : TA) : TS := fun D σ H => ta σ H fun vs H1 => ∃ v w, vs = [v, w] ∧ D.nx ((σ.set i (some v)).set j (some w)) H1
theorem ps_par {i j : Nat} {x y : Str} {a b : Expr} {ta : TA} {px py pt : Pos} {kt k2 pt2} (hc : X.calm = true) (hN : X.N.Nodup) (hi : X.N[i]? = some x) (hj : X.N[j]? = some y) (hij : i ≠ j)
    (hx : X.env.scope.names.lookup x = some .local) (hy : X.env.scope.names.lookup y = some .local) (ha : PA X [a, b] ta)
    (hw : swappedStores [.Tuple [.Name x px, .Name y py] kt pt] (.Tuple [a, b] k2 pt2) X.env = pure (some [x, y]))
    (hs : swapsWithSole [.Tuple [.Name x px, .Name y py] kt pt] (.Tuple [a, b] k2 pt2) pos.line X.env = pure false := by rfl) :
    PS X (.Assign [.Tuple [.Name x px, .Name y py] kt pt] (.Tuple [a, b] k2 pt2) pos) (tPar i j ta) := by
  intro pins s σ H D I h
  rw [exec_Assign_arm]
  refine wpAny_bind (wpAny_standAt ?_)
  rw [hs]
  refine wpAny_bind (wpAny_pure ?_)
  rw [if_neg (by decide)]
  refine wpAny_bind (Tuple_ (thn (ha _ pins s σ H _ I h) fun us s1 ⟨vs, H1, I1, r1, q1⟩ => ?_))
  obtain ⟨v, w, e1, q1⟩ := q1
  subst e1
  obtain ⟨u1, u2, rfl, rv, rw'⟩ : ∃ u1 u2, us = [u1, u2] ∧ RelV v u1 ∧ RelV w u2 := by
    cases r1 with
    | cons p q =>
      cases q with
      | cons p' q' =>
        cases q'
        exact ⟨_, _, rfl, p, p'⟩
  refine wpAny_newObj_type ?_ (by show 2 ≤ sizeLine; decide)
  have I2 : Inv X pins σ H1 { s1 with heap := s1.heap.push { cls := .type "tuple", data := .seq [u1, u2].toArray } } := I1.kept (t' := s1.toks) fun b o e => Heap.get?_push_of_some _ e
  rw [hw]
  refine wpAny_bind (wpAny_pure ?_)
  show wpAny (model X.prog X.w) X.A (do rule "assign.swapped-stores"; let items ← unpackItems (.ref s1.heap.objs.size) 2 none; assignInOrder [fun v => bindName X.env y v, fun v => bindName X.env x v] items.reverse; pure Flow.next) _ _ _
  refine wpAny_bind (wpAny_rule (wpAny_bind (unpackItems_tuple (items := #[u1, u2]) (I.ok.hd hc) (IsTup.new s1.heap _) fun h' hx' => ?_)))
  have I3 := I2.kept (h' := h') (t' := s1.toks) fun b o e => hx' b o (Nat.ne_of_lt (Heap.lt_size e)) e
  show wpAny _ _ (assignInOrder [fun v => bindName X.env y v, fun v => bindName X.env x v] [u2, u1] >>= fun _ => pure Flow.next) _ _ _
  refine wpAny_bind (assignInOrder_cons (wpAny_bindName (store_ok I3 hN hj (.inl hy) rw' (fun s2 I4 => ?_) (.inr hy))))
  refine assignInOrder_cons (wpAny_bindName (store_ok I4 hN hi (.inl hx) rv (fun s3 I5 => assignInOrder_nil (wpAny_pure ?_)) (.inr hx)))
  rw [List.set_comm _ _ (Ne.symm hij)] at I5
  exact ⟨_, H1, I5, q1⟩
/-- name op= e -/
def tAug (i : Nat) (te : TE) (ti : TIp) : TS := fun D σ H => ∃ x, σ[i]? = some (some x) ∧ te σ H fun y H1 => ti x y H1 fun z H2 => D.nx (σ.set i (some z)) H2
theorem ps_aug {i : Nat} {x : Str} {e : Expr} {te : TE} {op : Operator} {ti : TIp} {pos' : Pos} (hN : X.N.Nodup) (hi : X.N[i]? = some x) (hx : Loc X.env.scope x) (he : PE X e te) (ho : PIp X op ti) (hf : X.fn x = true ∨ X.env.scope.names.lookup x = some .local := by first | exact .inl rfl | exact .inr rfl | assumption) :
    PS X (.AugAssign (.Name x pos') op e pos) (tAug i te ti) := by
  intro pins s σ H D I h
  obtain ⟨v, e1, h⟩ := h
  obtain ⟨m, hn, hl⟩ := I.loc
  have vis : Vis X.env.scope x := by rcases hx with k | k; exact .inl k; exact .inr (.inl k)
  obtain ⟨u, r, l⟩ := hl i x v hi e1 vis
  refine wpAny_AugAssign_Name ?_
  have go : wpAny (model X.prog X.w) X.A (eval e X.env) (fun w s₂ => wpAny (model X.prog X.w) X.A (inplaceOp op u w) (fun r s₃ => wpAny (model X.prog X.w) X.A (storeName X.env x r) (fun _ => SP X pins D .next) X.xe s₃) X.xe s₂) X.xe s := by
    refine thn (he pins s σ H _ I h) fun w s1 ⟨y, H1, I1, r1, q1⟩ => ?_
    refine thn (ho pins s1 σ H1 v y u w _ I1 r r1 q1) fun z s2 ⟨zv, H2, I2, r2, q2⟩ => ?_
    exact store_ok I2 hN hi hx r2 (fun s3 I3 => ⟨_, H2, I3, q2⟩) hf
  rcases l with ⟨hk, hm⟩ | ⟨hk, c, hc, hcell⟩
  · exact wpAny_loadName_local I.ok.kind hk hn hm go
  · rcases hk with hk | hk
    · exact wpAny_loadName_cell I.ok.kind hk hc hcell go
    · rcases hx with k | k
      · have : X.env.scope.names.lookup x = some .free := hk
        rw [k] at this; cases this
      · have : X.env.scope.names.lookup x = some .free := hk
        rw [k] at this; cases this
/-- o[i] op= e -/
def tAugS (to ti te : TE) (tget : V → V → Hp → VK → Prop) (tip : TIp) (tset : TSet) : TS := fun D σ H => to σ H fun o H1 => ti σ H1 fun i H2 => tget o i H2 fun x H3 => te σ H3 fun y H4 => tip x y H4 fun z H5 => tset o i z H5 fun H6 => D.nx σ H6
/-- o[i], by values -/
def PGet (X : Cx) (t : V → V → Hp → VK → Prop) : Prop :=
  ∀ (pins : List (Addr × Obj)) (s : Shared) (σ : St) (H : Hp) (o i : V) (ov iv : Value) (Q : VK), Inv X pins σ H s → RelV o ov → RelV i iv → t o i H Q →
    wpAny (model X.prog X.w) X.A (getItem ov iv) (EP X pins σ Q) X.xe s
/-- ints -/
def ipI (f : Int → Int → Int) : TIp := fun x y H Q => ∃ i j, x = .int i ∧ y = .int j ∧ Q (.int (f i j)) H
end
section
variable {X : Cx} {pos : Pos}
/-- the invariant W with its measure -/
def tWhile (c : TT) (tb : TS) : TS := fun D σ H => ∃ W : Nat → St → Hp → Prop, (∃ m, W m σ H) ∧ ∀ m σ H, W m σ H →
  c σ H fun b H1 => if b = true then ∃ N : St → Hp → Prop, (∀ σ' H', N σ' H' → ∃ m', m' < m ∧ W m' σ' H') ∧ tb { D with nx := N, ct := N, bk := D.nx } σ H1 else D.nx σ H1
theorem ps_while {c : Expr} {body : List Stmt} {tc : TT} {tb : TS} (hp : PassesOwn (model X.prog X.w) X.A X.env X.xe) (hc : PT X c tc) (hb : PSs X body tb) : PS X (.While c body [] pos) (tWhile tc tb) := by
  intro pins s σ H D I h
  obtain ⟨W, ⟨m0, w0⟩, turn⟩ := h
  refine wpAny_While (codeAny_whileLoop (fun n s' => ∃ σ' H', Inv X pins σ' H' s' ∧ W n σ' H') ?_ m0 ⟨σ, H, I, w0⟩)
  rintro n s1 ⟨σ1, H1, I1, w1⟩
  refine wpAny_passesOwn hp (thn (hc pins s1 σ1 H1 _ I1 (turn n σ1 H1 w1)) fun b s2 ⟨H2, I2, q2⟩ => ?_)
  cases b with
  | true =>
    obtain ⟨N, hN, q2⟩ := q2
    rw [if_pos rfl]
    refine wpAny_passesOwn hp (thn (hb pins s2 σ1 H2 _ I2 q2) fun f s3 q3 => ?_)
    cases f with
    | next =>
      obtain ⟨σ3, H3, I3, n3⟩ := q3
      obtain ⟨m', hm, w3⟩ := hN σ3 H3 n3
      exact ⟨m', hm, σ3, H3, I3, w3⟩
    | cont =>
      obtain ⟨σ3, H3, I3, n3⟩ := q3
      obtain ⟨m', hm, w3⟩ := hN σ3 H3 n3
      exact ⟨m', hm, σ3, H3, I3, w3⟩
    | brk => exact q3
    | ret v => exact q3
  | false =>
    rw [if_neg Bool.false_ne_true]
    exact wpAny_execs_nil ⟨σ1, H2, I2, q2⟩
end
/-- at turn i: it yields x (the heap may grow), or it stops -/
structure It where
  go : Nat → Hp → Prop
  yld : Nat → Hp → V → Hp → Prop
  stop : Nat → Hp → Prop
/-- the iterator's own objects may turn: they are not the frame's, not pinned, younger than the entry (or a comprehension's own) -/
def FpOk (X : Cx) (pins : List (Addr × Obj)) (H : Hp) (b : Addr) : Prop :=
  H b = none ∧ b ≠ X.env.locals ∧ b ∉ X.fs ∧ (b ∈ X.ex ∨ X.s₀.heap.objs.size ≤ b) ∧ (∀ x c, X.env.cells.lookup x = some c → c ≠ b) ∧ ∀ p ∈ X.pn ++ pins, p.1 ≠ b
theorem Inv.fpOk {X : Cx} {pins : List (Addr × Obj)} {σ : St} {H H' : Hp} {s : Shared} {b : Addr} (I : Inv X pins σ H s) (hb : s.heap.objs.size ≤ b) (hn : H' b = none) : FpOk X pins H' b := by
  refine ⟨hn, Nat.ne_of_gt (Nat.lt_of_lt_of_le I.lt hb), I.nofs hb, .inr (Nat.le_trans I.sz hb), fun x c e z => ?_, fun p hp z => ?_⟩
  · obtain ⟨v, q⟩ := I.cell x c e
    exact absurd (Nat.lt_of_lt_of_le q.lt (by rw [z]; exact hb)) (Nat.lt_irrefl _)
  · exact absurd (Nat.lt_of_lt_of_le (Heap.lt_size (I.pin p hp).1) (by rw [z]; exact hb)) (Nat.lt_irrefl _)
structure Turn (P : Program) (w : World) (K : PySem.W.Frag) (tg : Expr) (J : It) (fp : List Addr) (it : Addr) (tn : Nat → Heap → Prop) : Prop where
  mem : it ∈ fp
  obj : ∀ i h, tn i h → ∀ b ∈ fp, ∃ o, h.get? b = some o ∧ ∀ v, o.data ≠ .cell v
  keep : ∀ i h h', tn i h → (∀ b ∈ fp, ∀ o, h.get? b = some o → h'.get? b = some o) → tn i h'
  item : ∀ (X : Cx), X.prog = P → X.w = w → X.K = K → X.calm = true → ∀ (i : Nat) (pins : List (Addr × Obj)) (s : Shared) (σ : St) (H : Hp) (E : Value → Shared → Prop), Inv X pins σ H s → (∀ b ∈ fp, FpOk X pins H b) → tn i s.heap → J.go i H →
    wpAny (model P w) X.A (pyNext (.ref it)) (fun r s1 => ∃ u, r = some u ∧
      wpAny (model P w) X.A (letOwnedTupleGo tg (.ref it) u) (fun _ s2 => ∃ x H', Inv X pins σ H' s2 ∧ RelV x u ∧ J.yld i H x H' ∧ tn (i + 1) s2.heap ∧ ∀ b ∈ fp, H' b = none) E s1) E s
  done : ∀ (X : Cx), X.prog = P → X.w = w → X.K = K → X.calm = true → ∀ (i : Nat) (pins : List (Addr × Obj)) (s : Shared) (σ : St) (H : Hp) (E : Value → Shared → Prop), Inv X pins σ H s → (∀ b ∈ fp, FpOk X pins H b) → tn i s.heap → J.stop i H →
    wpAny (model P w) X.A (pyNext (.ref it)) (fun r s1 => r = none ∧ Inv X pins σ H s1) E s
  self : ∀ (A : Around) (i : Nat) (s : Shared) (Q : Value → Shared → Prop) (E : Value → Shared → Prop), tn i s.heap → Q (.ref it) s → wpAny (model P w) A (pyIter (.ref it)) Q E s
abbrev TI := St → Hp → (It → Hp → Prop) → Prop
/-- an iterator has come -/
def PIE (X : Cx) (pins : List (Addr × Obj)) (σ : St) (tg : Expr) (R : It → Hp → Prop) (itv : Value) (s2 : Shared) : Prop :=
  ∃ (it : Addr) (fp : List Addr) (tn : Nat → Heap → Prop) (J : It) (H' : Hp), itv = .ref it ∧ Inv X pins σ H' s2 ∧ Turn X.prog X.w X.K tg J fp it tn ∧ tn 0 s2.heap ∧ (∀ b ∈ fp, FpOk X pins H' b) ∧ R J H'
def PI (X : Cx) (tg iter : Expr) (wi : TI) : Prop :=
  ∀ (pins : List (Addr × Obj)) (s : Shared) (σ : St) (H : Hp) (R : It → Hp → Prop), Inv X pins σ H s → wi σ H R →
    wpAny (model X.prog X.w) X.A (eval iter X.env) (fun v s1 => wpAny (model X.prog X.w) X.A (pyIter v) (PIE X pins σ tg R) X.xe s1) X.xe s
/-- the step ahead of the store is nothing for an iterator that keeps no tuple -/
theorem go_of {M : Model} {A : Around} {E : Value → Shared → Prop} {s : Shared} {tg : Expr} {it : Addr} {u : Value} {o : Obj} {n : String} {vs : Array Value} {Q : Unit → Shared → Prop} (ho : s.heap.get? it = some o) (hc : o.cls = .type n) (hd : o.data = .fields vs)
    (hn : ["enumerate", "zip", "dict_itemiterator", "dict_reverseitemiterator", "odict_iterator", "itertools.zip_longest", "itertools.pairwise"].contains n = false) (hQ : Q () s) : wpAny M A (letOwnedTupleGo tg (.ref it) u) Q E s := by
  unfold letOwnedTupleGo
  cases tg <;> first
    | exact wpAny_pure hQ
    | (cases u <;> first
        | exact wpAny_pure hQ
        | (refine wpAny_bind (wpAny_load ho ?_)
           rw [hc, hd]
           show wpAny M A (if (["enumerate", "zip", "dict_itemiterator", "dict_reverseitemiterator", "odict_iterator", "itertools.zip_longest", "itertools.pairwise"].contains n && vs[0]? == some (rawInt _)) = true then _ else _) Q E s
           rw [if_neg (by intro h; rw [hn, Bool.false_and] at h; cases h)]
           exact wpAny_pure hQ))
/-- the list at a, as it stands at each turn (a loop may append to it) -/
def Itl (K : PySem.W.Frag) (a : Addr) : It :=
  ⟨fun i H => ∃ xs x, SqL K H a xs ∧ xs[i]? = some x, fun i H x H' => H' = H ∧ ∀ xs, SqL K H a xs → xs[i]? = some x, fun i H => ∃ xs, SqL K H a xs ∧ xs.length ≤ i⟩
def Itt (K : PySem.W.Frag) (a : Addr) : It :=
  ⟨fun i H => ∃ xs x, SqT K H a xs ∧ xs[i]? = some x, fun i H x H' => H' = H ∧ ∀ xs, SqT K H a xs → xs[i]? = some x, fun i H => ∃ xs, SqT K H a xs ∧ xs.length ≤ i⟩
/-- lo, lo + 1, .. (n of them) -/
def Itr (lo : Int) (n : Nat) : It := ⟨fun i _ => i < n, fun i H x H' => H' = H ∧ x = .int (lo + i), fun i _ => n ≤ i⟩
theorem turn_list {P : Program} {w : World} {K : PySem.W.Frag} {tg : Expr} (a it : Addr) : Turn P w K tg (Itl K a) [it] it (fun i h => h.IsListIter it a i) where
  mem := by simp
  obj := fun i h st b hb => by
    have e : b = it := by simpa using hb
    subst e
    obtain ⟨o, e, c, d⟩ := st
    exact ⟨o, e, fun v z => by rw [d] at z; cases z⟩
  keep := fun i h h' st k => st.at fun o e => k it (by simp) o e
  item := by
    intro X hP hw hK hc i pins s σ H E I hf st hg
    subst hP hw hK
    obtain ⟨xs, x, hq, hx⟩ := hg
    obtain ⟨its, rv, p, hz⟩ := I.list hq
    obtain ⟨u, hu, ru⟩ := rv.get hx
    obtain ⟨f0, f1, f2, f3, f4, f5⟩ := hf it (by simp)
    refine wpAny_pyNext_list_item st p.isList (x := u) (by simpa using hu) fun h' st' sb => ?_
    have I1 : Inv X pins σ H { s with heap := h' } := I.turned (t' := s.toks) (fun b o hb e => (sb.2 b hb).trans e) f0 f1 f3 f4 f5
    obtain ⟨o, e, c, d⟩ := id st'
    exact ⟨u, rfl, go_of (s := { s with heap := h' }) e c d (by decide) ⟨x, H, I1, ru, ⟨rfl, fun ys hy => by rw [I.list_inj hy hq]; exact hx⟩, st', fun b hb => (hf b hb).1⟩⟩
  done := by
    intro X hP hw hK hc i pins s σ H E I hf st hg
    subst hP hw hK
    obtain ⟨xs, hq, hx⟩ := hg
    obtain ⟨its, rv, p, hz⟩ := I.list hq
    obtain ⟨f0, f1, f2, f3, f4, f5⟩ := hf it (by simp)
    have hl := rv.length
    exact wpAny_pyNext_list_end (I.ok.hd hc) st p.isList (by simp; omega) fun h' eb => ⟨rfl, I.turned (t' := s.toks) (fun b o hb e => eb b o hb e) f0 f1 f3 f4 f5⟩
  self := fun _ _ _ _ _ st h => wpAny_pyIter_listiter st h
theorem turn_tuple {P : Program} {w : World} {K : PySem.W.Frag} {tg : Expr} (a it : Addr) : Turn P w K tg (Itt K a) [it] it (fun i h => h.IsTupleIter it a i) where
  mem := by simp
  obj := fun i h st b hb => by
    have e : b = it := by simpa using hb
    subst e
    obtain ⟨o, e, c, d⟩ := st
    exact ⟨o, e, fun v z => by rw [d] at z; cases z⟩
  keep := fun i h h' st k => st.at fun o e => k it (by simp) o e
  item := by
    intro X hP hw hK hc i pins s σ H E I hf st hg
    subst hP hw hK
    obtain ⟨xs, x, hq, hx⟩ := hg
    obtain ⟨its, rv, p, hz⟩ := I.tuple hq
    obtain ⟨u, hu, ru⟩ := rv.get hx
    obtain ⟨f0, f1, f2, f3, f4, f5⟩ := hf it (by simp)
    refine wpAny_pyNext_tuple_item st (show s.heap.IsTuple a its.toArray from p) (x := u) (by simpa using hu) fun h' st' sb => ?_
    have I1 : Inv X pins σ H { s with heap := h' } := I.turned (t' := s.toks) (fun b o hb e => (sb.2 b hb).trans e) f0 f1 f3 f4 f5
    obtain ⟨o, e, c, d⟩ := id st'
    exact ⟨u, rfl, go_of (s := { s with heap := h' }) e c d (by decide) ⟨x, H, I1, ru, ⟨rfl, fun ys hy => by rw [I.tuple_inj hy hq]; exact hx⟩, st', fun b hb => (hf b hb).1⟩⟩
  done := by
    intro X hP hw hK hc i pins s σ H E I hf st hg
    subst hP hw hK
    obtain ⟨xs, hq, hx⟩ := hg
    obtain ⟨its, rv, p, hz⟩ := I.tuple hq
    obtain ⟨f0, f1, f2, f3, f4, f5⟩ := hf it (by simp)
    have hl := rv.length
    exact wpAny_pyNext_tuple_end (I.ok.hd hc) st (show s.heap.IsTuple a its.toArray from p) (by simp; omega) fun h' eb => ⟨rfl, I.turned (t' := s.toks) (fun b o hb e => eb b o hb e) f0 f1 f3 f4 f5⟩
  self := fun _ _ _ _ _ st h => wpAny_pyIter_tupleiter st h
theorem turn_range {P : Program} {w : World} {K : PySem.W.Frag} {tg : Expr} (it : Addr) (lo : Int) (n : Nat) : Turn P w K tg (Itr lo n) [it] it (fun i h => IsRangeIter h it (lo + (i : Nat) * 1) ((n : Int) - (i : Nat)) 1) where
  mem := by simp
  obj := fun i h st b hb => by
    have e : b = it := by simpa using hb
    subst e
    exact ⟨_, st, fun v z => by
      have z' : Data.fields _ = Data.cell v := z
      cases z'⟩
  keep := fun i h h' st k => k it (by simp) _ st
  item := by
    intro X hP hw hK hc i pins s σ H E I hf st hg
    subst hP hw hK
    obtain ⟨f0, f1, f2, f3, f4, f5⟩ := hf it (by simp)
    have W := Walks.range (prog := X.prog) (w := X.w) (I.ok.hd hc) it lo 1 n
    refine W.item i s _ _ hg st fun v h' tk hv st' kk => ?_
    obtain ⟨t, rfl⟩ := hv
    have I1 : Inv X pins σ H { s with heap := h', toks := tk } := I.turned (fun b o hb e => kk b o (by simpa using hb) e) f0 f1 f3 f4 f5
    refine ⟨_, rfl, go_of (s := { s with heap := h', toks := tk }) (n := "range_iterator") st' rfl rfl (by decide) ⟨.int (lo + i), H, I1, ⟨t, ?_⟩, ⟨rfl, rfl⟩, st', fun b hb => (hf b hb).1⟩⟩
    rw [Int.mul_one]
  done := by
    intro X hP hw hK hc i pins s σ H E I hf st hg
    subst hP hw hK
    obtain ⟨f0, f1, f2, f3, f4, f5⟩ := hf it (by simp)
    exact wpAny_pyNext_range_end (I.ok.hd hc) st (by have : n ≤ i := hg; omega) fun h' eb => ⟨rfl, I.turned (t' := s.toks) (fun b o hb e => eb b o hb e) f0 f1 f3 f4 f5⟩
  self := fun _ _ _ _ _ st h => wpAny_pyIter_rangeiter st h
end L2
namespace L2
open PySem PySem.Spec PyProof.Rows
section
variable {X : Cx} {tg : Expr}
def iList (K : PySem.W.Frag) (tl : TE) : TI := fun σ H R => tl σ H fun x H1 => ∃ a, x = .ref a ∧ (∃ xs, SqL K H1 a xs) ∧ R (Itl K a) H1
def iTup (K : PySem.W.Frag) (tl : TE) : TI := fun σ H R => tl σ H fun x H1 => ∃ a, x = .ref a ∧ (∃ xs, SqT K H1 a xs) ∧ R (Itt K a) H1
theorem pi_list {l : Expr} {tl : TE} (hl : PE X l tl) : PI X tg l (iList X.K tl) := by
  intro pins s σ H R I h
  refine thn (hl pins s σ H _ I h) fun v s1 ⟨x, H1, I1, r1, q1⟩ => ?_
  obtain ⟨a, e, ⟨xs, hq⟩, q⟩ := q1
  subst e
  cases r1
  obtain ⟨its, rv, p, hz⟩ := I1.list hq
  refine wpAny_pyIter_list p.isList ?_
  refine ⟨s1.heap.objs.size, [s1.heap.objs.size], _, _, H1, rfl, I1.kept (t' := s1.toks) fun b o e => Heap.get?_push_of_some _ e, turn_list a _, ⟨_, Heap.get?_push_size _ rfl, rfl, rfl⟩, fun b hb => ?_, q⟩
  have e : b = s1.heap.objs.size := by simpa using hb
  subst e
  exact I1.fpOk (Nat.le_refl _) (I1.hok.fresh (Nat.le_refl _))
theorem pi_tup {l : Expr} {tl : TE} (hl : PE X l tl) : PI X tg l (iTup X.K tl) := by
  intro pins s σ H R I h
  refine thn (hl pins s σ H _ I h) fun v s1 ⟨x, H1, I1, r1, q1⟩ => ?_
  obtain ⟨a, e, ⟨xs, hq⟩, q⟩ := q1
  subst e
  cases r1
  obtain ⟨its, rv, p, hz⟩ := I1.tuple hq
  refine wpAny_pyIter_tuple (show s1.heap.IsTuple a its.toArray from p) ?_
  refine ⟨s1.heap.objs.size, [s1.heap.objs.size], _, _, H1, rfl, I1.kept (t' := s1.toks) fun b o e => Heap.get?_push_of_some _ e, turn_tuple a _, ⟨_, Heap.get?_push_size _ rfl, rfl, rfl⟩, fun b hb => ?_, q⟩
  have e : b = s1.heap.objs.size := by simpa using hb
  subst e
  exact I1.fpOk (Nat.le_refl _) (I1.hok.fresh (Nat.le_refl _))
/-- a range object just made, walked -/
theorem range_it {pins : List (Addr × Obj)} {σ : St} {H : Hp} {s : Shared} {R : It → Hp → Prop} {E : Value → Shared → Prop} {lo hi : Int} {t u v : Tok} {tk : Nat} (I : Inv X pins σ H s) (h1 : -(2 ^ 62) ≤ lo) (h2 : lo < 2 ^ 62) (h3 : -(2 ^ 62) ≤ hi) (h4 : hi < 2 ^ 62)
    (q : R (Itr lo (hi - lo).toNat) H) : wpAny (model X.prog X.w) X.A (pyIter (.ref s.heap.objs.size)) (PIE X pins σ tg R) E { s with heap := s.heap.push { cls := .type "range", data := .fields #[.int lo t, .int hi u, .int 1 v] }, toks := tk } := by
  refine wpAny_pyIter_range (IsRange.new ..) (small_one h1 h2 h3 h4) ?_
  have I1 : Inv X pins σ H { s with heap := s.heap.push { cls := .type "range", data := .fields #[.int lo t, .int hi u, .int 1 v] }, toks := tk } := I.kept fun b o e => Heap.get?_push_of_some _ e
  refine ⟨(s.heap.push { cls := .type "range", data := .fields #[.int lo t, .int hi u, .int 1 v] }).objs.size, [(s.heap.push { cls := .type "range", data := .fields #[.int lo t, .int hi u, .int 1 v] }).objs.size], _, _, H, rfl,
    I1.kept (t' := tk) fun b o e => Heap.get?_push_of_some _ e, turn_range _ lo (hi - lo).toNat, ?_, fun b hb => ?_, q⟩
  · have e1 : lo + ((0 : Nat) : Int) * 1 = lo := by simp
    have e2 : (((hi - lo).toNat : Nat) : Int) - ((0 : Nat) : Int) = Builtin.Range.rangeSize lo hi 1 := by rw [rangeSize_one]; split <;> omega
    show IsRangeIter _ _ (lo + ((0 : Nat) : Int) * 1) ((((hi - lo).toNat : Nat) : Int) - ((0 : Nat) : Int)) 1
    rw [e1, e2]
    exact Heap.get?_push_size _ rfl
  · have e : b = (s.heap.push { cls := .type "range", data := .fields #[.int lo t, .int hi u, .int 1 v] }).objs.size := by simpa using hb
    subst e
    exact I1.fpOk (Nat.le_refl _) (I1.hok.fresh (Nat.le_refl _))
def iRng1 (ta : TA) : TI := fun σ H R => ta σ H fun vs H1 => ∃ j : Int, vs = [.int j] ∧ -(2 ^ 62) ≤ j ∧ j < 2 ^ 62 ∧ R (Itr 0 j.toNat) H1
def iRng2 (ta : TA) : TI := fun σ H R => ta σ H fun vs H1 => ∃ i j : Int, vs = [.int i, .int j] ∧ (-(2 ^ 62) ≤ i ∧ i < 2 ^ 62 ∧ -(2 ^ 62) ≤ j ∧ j < 2 ^ 62) ∧ R (Itr i (j - i).toNat) H1
theorem pi_range1 {a : Expr} {ta : TA} {p pos : Pos} (hg : Gl X "range") (hm : X.mg "range" = none) (ha : PA X [a] ta) (hs : starEach [a] X.env = [(false, eval a X.env)] := by rfl) : PI X tg (.Call (.Name "range" p) [a] [] pos) (iRng1 ta) := by
  intro pins s σ H R I h
  refine Call_ (ld_blt I hg hm boot_range (PyProof.Rows.callWith_type1 (thn (ha pos pins s σ H _ I h) fun us s1 ⟨vs, H1, I1, r1, q1⟩ => ?_) hs rfl))
  obtain ⟨j, e, q1, q2, q⟩ := q1
  subst e
  cases r1 with
  | cons r rr =>
    cases rr
    obtain ⟨t, rfl⟩ := r
    exact call_range_1 (range_it I1 (by omega) (by omega) q1 q2 (by simpa using q))
theorem pi_range2 {a b : Expr} {ta : TA} {p pos : Pos} (hg : Gl X "range") (hm : X.mg "range" = none) (ha : PA X [a, b] ta) (hs : starEach [a, b] X.env = [(false, eval a X.env), (false, eval b X.env)] := by rfl) (hs2 : starEach [b] X.env = [(false, eval b X.env)] := by rfl) :
    PI X tg (.Call (.Name "range" p) [a, b] [] pos) (iRng2 ta) := by
  intro pins s σ H R I h
  refine Call_ (ld_blt I hg hm boot_range (PyProof.Rows.callWith_type1 (thn (ha pos pins s σ H _ I h) fun us s1 ⟨vs, H1, I1, r1, q1⟩ => ?_) (by rw [hs, hs2]) (by rw [hs2]; rfl)))
  obtain ⟨i, j, e, ⟨q1, q2, q3, q4⟩, q⟩ := q1
  subst e
  cases r1 with
  | cons r rr =>
    cases rr with
    | cons r' rr =>
      cases rr
      obtain ⟨t, rfl⟩ := r
      obtain ⟨t', rfl⟩ := r'
      exact call_range_2 (range_it I1 q1 q2 q3 q4 q)
/-- W: the invariant by the turn and a measure; N: what the body is to reach -/
def tFor (wi : TI) (g : TG) (tb : TS) : TS := fun D σ H => wi σ H fun J H1 => ∃ W : Nat → Nat → St → Hp → Prop, (∃ m, W 0 m σ H1) ∧ ∀ i m σ H, W i m σ H →
  (J.stop i H ∧ D.nx σ H) ∨ (J.go i H ∧ ∃ N : St → Hp → Prop, (∀ σ' H', N σ' H' → ∃ m', m' < m ∧ W (i + 1) m' σ' H') ∧ ∀ x H', J.yld i H x H' → g x σ H' fun σ2 H2 => tb { D with nx := N, ct := N, bk := D.nx } σ2 H2)
/-- the records at fp as they stand -/
def pinsAt (fp : List Addr) (h : Heap) : List (Addr × Obj) := fp.filterMap fun b => (h.get? b).map fun o => (b, o)
theorem mem_pinsAt {fp : List Addr} {h : Heap} {b : Addr} {o : Obj} (hb : b ∈ fp) (e : h.get? b = some o) : (b, o) ∈ pinsAt fp h := List.mem_filterMap.mpr ⟨b, hb, by rw [e]; rfl⟩
theorem of_pinsAt {fp : List Addr} {h : Heap} {p : Addr × Obj} (hp : p ∈ pinsAt fp h) : p.1 ∈ fp ∧ h.get? p.1 = some p.2 := by
  obtain ⟨b, hb, e⟩ := List.mem_filterMap.mp hp
  cases q : h.get? b with
  | none => rw [q] at e; cases e
  | some o =>
    rw [q] at e
    have e' : (b, o) = p := Option.some.inj e
    subst e'
    exact ⟨hb, q⟩
theorem Inv.pinned {pins : List (Addr × Obj)} {σ : St} {H : Hp} {s : Shared} {fp : List Addr} (I : Inv X pins σ H s) (hf : ∀ b ∈ fp, FpOk X pins H b) (ho : ∀ b ∈ fp, ∃ o, s.heap.get? b = some o ∧ ∀ v, o.data ≠ .cell v) : Inv X (pins ++ pinsAt fp s.heap) σ H s :=
  I.pins_of fun p hp => (List.mem_append.mp hp).elim (fun z => I.pin p (List.mem_append_right _ z)) fun z => by
    obtain ⟨hb, e⟩ := of_pinsAt z
    obtain ⟨f0, f1, f2, _⟩ := hf p.1 hb
    obtain ⟨o, e', d⟩ := ho p.1 hb
    rw [e] at e'; cases e'
    exact ⟨e, f0, f1, f2, d⟩
theorem Inv.unpinned {pins pl : List (Addr × Obj)} {σ : St} {H : Hp} {s : Shared} (I : Inv X (pins ++ pl) σ H s) : Inv X pins σ H s := I.pins_of fun p hp => I.pin p (List.mem_append_right _ (List.mem_append_left _ hp))
theorem ps_for {iter : Expr} {body : List Stmt} {wi : TI} {g : TG} {tb : TS} {pos : Pos} (hp : PassesOwn (model X.prog X.w) X.A X.env X.xe) (hc : X.calm = true) (hi : PI X tg iter wi) (hg : PG X tg g) (hb : PSs X body tb)
    (hs : ∀ x, foldedSetIterable iter X.env x = pure x := by intro _; rfl) : PS X (.For tg iter body [] pos) (tFor wi g tb) := by
  intro pins s σ H D I h
  refine wpAny_For (thn (hi pins s σ H _ I h) fun v s1 h1 => thn h1 fun itv s2 h2 => ?_) hs
  obtain ⟨it, fp, tn, J, H2, e, I2, T, st2, f2, W, ⟨m0, w0⟩, turn⟩ := h2
  subst e
  -- what stays true of the iterator's objects through the loop
  have stat : ∀ {H' : Hp}, (∀ b ∈ fp, H' b = none) → ∀ b ∈ fp, FpOk X pins H' b := fun hn b hb => ⟨hn b hb, (f2 b hb).2⟩
  refine codeAny_forLoop_any (fun n s' => ∃ i σ' H', Inv X pins σ' H' s' ∧ tn i s'.heap ∧ (∀ b ∈ fp, H' b = none) ∧ W i n σ' H') ?_ m0 ⟨0, σ, H2, I2, st2, fun b hb => (f2 b hb).1, w0⟩
  rintro n s3 ⟨i, σ3, H3, I3, st3, fr3, w3⟩
  rcases turn i n σ3 H3 w3 with ⟨stop, qn⟩ | ⟨go, N, hN, step⟩
  · refine wpAny_passesOwn hp (thn (T.done X rfl rfl rfl hc i pins s3 σ3 H3 X.xe I3 (stat fr3) st3 stop) fun r s4 ⟨hr, I4⟩ => ?_)
    subst hr
    exact wpAny_execs_nil ⟨σ3, H3, I4, qn⟩
  · refine wpAny_passesOwn hp (thn (T.item X rfl rfl rfl hc i pins s3 σ3 H3 X.xe I3 (stat fr3) st3 go) fun r s4 ⟨u, hr, h4⟩ => ?_)
    subst hr
    refine wpAny_passesOwn hp (thn h4 fun _ s5 ⟨x, H5, I5, r5, y5, st5, fr5⟩ => ?_)
    have I5' := I5.pinned (stat fr5) (T.obj _ _ st5)
    refine wpAny_passesOwn hp (thn (hg _ s5 σ3 H5 x u _ I5' r5 (step x H5 y5)) fun _ s6 ⟨σ6, H6, I6, q6⟩ => ?_)
    refine wpAny_passesOwn hp (thn (hb _ s6 σ6 H6 _ I6 q6) fun f s7 q7 => ?_)
    have again : ∀ {σ7 : St} {H7 : Hp}, Inv X (pins ++ pinsAt fp s5.heap) σ7 H7 s7 → N σ7 H7 → ∃ m, m < n ∧ ∃ i σ' H', Inv X pins σ' H' s7 ∧ tn i s7.heap ∧ (∀ b ∈ fp, H' b = none) ∧ W i m σ' H' := fun {σ7 H7} I7 n7 => by
      obtain ⟨m', hm, w7⟩ := hN σ7 H7 n7
      refine ⟨m', hm, i + 1, σ7, H7, I7.unpinned, T.keep _ _ _ st5 fun b hb o e => (I7.pin (b, o) (List.mem_append_right _ (List.mem_append_right _ (mem_pinsAt hb e)))).1, fun b hb => ?_, w7⟩
      obtain ⟨o, e, d⟩ := T.obj _ _ st5 b hb
      exact (I7.pin (b, o) (List.mem_append_right _ (List.mem_append_right _ (mem_pinsAt hb e)))).2.1
    cases f with
    | next => obtain ⟨σ7, H7, I7, n7⟩ := q7; exact again I7 n7
    | cont => obtain ⟨σ7, H7, I7, n7⟩ := q7; exact again I7 n7
    | brk => obtain ⟨σ7, H7, I7, q7⟩ := q7; exact ⟨σ7, H7, I7.unpinned, q7⟩
    | ret v => obtain ⟨x7, σ7, H7, I7, r7, q7⟩ := q7; exact ⟨x7, σ7, H7, I7.unpinned, r7, q7⟩
end
/-- over a list that the body leaves as it is -/
theorem for_list {K : PySem.W.Frag} {a : Addr} {xs : List V} {g : TG} {tb : TS} {D : Ends} {σ : St} {H : Hp} (Pv : Nat → St → Hp → Prop) (h0 : Pv 0 σ H) (hl : ∀ i σ H, i ≤ xs.length → Pv i σ H → SqL K H a xs)
    (hs : ∀ i x σ H, xs[i]? = some x → Pv i σ H → g x σ H fun σ2 H2 => tb { D with nx := Pv (i + 1), ct := Pv (i + 1), bk := D.nx } σ2 H2) (hd : ∀ σ H, Pv xs.length σ H → D.nx σ H) :
    ∃ W : Nat → Nat → St → Hp → Prop, (∃ m, W 0 m σ H) ∧ ∀ i m σ H, W i m σ H →
      ((Itl K a).stop i H ∧ D.nx σ H) ∨ ((Itl K a).go i H ∧ ∃ N : St → Hp → Prop, (∀ σ' H', N σ' H' → ∃ m', m' < m ∧ W (i + 1) m' σ' H') ∧ ∀ x H', (Itl K a).yld i H x H' → g x σ H' fun σ2 H2 => tb { D with nx := N, ct := N, bk := D.nx } σ2 H2) := by
  refine ⟨fun i m σ H => m = xs.length - i ∧ i ≤ xs.length ∧ Pv i σ H, ⟨xs.length, by simp, Nat.zero_le _, h0⟩, ?_⟩
  rintro i m σ H ⟨rfl, hi, p⟩
  have q := hl i σ H hi p
  by_cases hlt : i < xs.length
  · refine .inr ⟨⟨xs, xs[i], q, by simp [hlt]⟩, Pv (i + 1), fun σ' H' p' => ⟨xs.length - (i + 1), by omega, rfl, hlt, p'⟩, fun x H' y => ?_⟩
    obtain ⟨e, y⟩ := y
    subst e
    exact hs i x σ _ (y xs q) p
  · have e : i = xs.length := by omega
    subst e
    exact .inl ⟨⟨xs, q, Nat.le_refl _⟩, hd σ H p⟩
theorem for_range {lo : Int} {n : Nat} {g : TG} {tb : TS} {D : Ends} {σ : St} {H : Hp} (Pv : Nat → St → Hp → Prop) (h0 : Pv 0 σ H)
    (hs : ∀ i σ H, i < n → Pv i σ H → g (.int (lo + i)) σ H fun σ2 H2 => tb { D with nx := Pv (i + 1), ct := Pv (i + 1), bk := D.nx } σ2 H2) (hd : ∀ σ H, Pv n σ H → D.nx σ H) :
    ∃ W : Nat → Nat → St → Hp → Prop, (∃ m, W 0 m σ H) ∧ ∀ i m σ H, W i m σ H →
      ((Itr lo n).stop i H ∧ D.nx σ H) ∨ ((Itr lo n).go i H ∧ ∃ N : St → Hp → Prop, (∀ σ' H', N σ' H' → ∃ m', m' < m ∧ W (i + 1) m' σ' H') ∧ ∀ x H', (Itr lo n).yld i H x H' → g x σ H' fun σ2 H2 => tb { D with nx := N, ct := N, bk := D.nx } σ2 H2) := by
  refine ⟨fun i m σ H => m = n - i ∧ i ≤ n ∧ Pv i σ H, ⟨n, by simp, Nat.zero_le _, h0⟩, ?_⟩
  rintro i m σ H ⟨rfl, hi, p⟩
  by_cases hlt : i < n
  · refine .inr ⟨hlt, Pv (i + 1), fun σ' H' p' => ⟨n - (i + 1), by omega, rfl, hlt, p'⟩, fun x H' y => ?_⟩
    obtain ⟨e, y⟩ := y
    subst e y
    exact hs i σ _ hlt p
  · have e : i = n := by omega
    subst e
    exact .inl ⟨Nat.le_refl _, hd σ H p⟩
/-- while, by a word and a measure of the state -/
theorem while_by {c : TT} {tb : TS} {D : Ends} {σ : St} {H : Hp} (Pv : St → Hp → Prop) (μ : St → Hp → Nat) (h0 : Pv σ H)
    (hs : ∀ σ H, Pv σ H → c σ H fun b H1 => if b = true then tb { D with nx := fun σ' H' => Pv σ' H' ∧ μ σ' H' < μ σ H, ct := fun σ' H' => Pv σ' H' ∧ μ σ' H' < μ σ H, bk := D.nx } σ H1 else D.nx σ H1)
    (mono : ∀ σ H Q Q', (∀ b H1, Q b H1 → Q' b H1) → c σ H Q → c σ H Q') : tWhile c tb D σ H := by
  refine ⟨fun m σ H => m = μ σ H ∧ Pv σ H, ⟨_, rfl, h0⟩, ?_⟩
  rintro m σ H ⟨rfl, p⟩
  refine mono σ H _ _ (fun b H1 q => ?_) (hs σ H p)
  cases b with
  | true => exact ⟨_, fun σ' H' ⟨p', l⟩ => ⟨_, l, rfl, p'⟩, q⟩
  | false => exact q
end L2
namespace L2
open PySem PySem.Spec PyProof.Rows
abbrev R2 := V → V → Hp → VK → Prop
/-- a two-place operation on values: f is binaryOp op, inplaceOp op or compareOp op -/
def OpR (X : Cx) (f : Value → Value → Sem Value) (r : R2) : Prop :=
  ∀ (pins : List (Addr × Obj)) (s : Shared) (σ : St) (H : Hp) (x y : V) (v u : Value) (Q : VK), Inv X pins σ H s → RelV x v → RelV y u → r x y H Q →
    wpAny (model X.prog X.w) X.A (f v u) (EP X pins σ Q) X.xe s
/-- a one-place operation -/
def UnR (X : Cx) (f : Value → Sem Value) (r : V → Hp → VK → Prop) : Prop :=
  ∀ (pins : List (Addr × Obj)) (s : Shared) (σ : St) (H : Hp) (x : V) (v : Value) (Q : VK), Inv X pins σ H s → RelV x v → r x H Q →
    wpAny (model X.prog X.w) X.A (f v) (EP X pins σ Q) X.xe s
/-- a call of a value that is known (a builtin, a type) with values -/
def CallR (X : Cx) (f : Value) (r : List V → Hp → VK → Prop) : Prop :=
  ∀ (pins : List (Addr × Obj)) (s : Shared) (σ : St) (H : Hp) (xs : List V) (us : List Value) (Q : VK), Inv X pins σ H s → Vals xs us → r xs H Q →
    wpAny (model X.prog X.w) X.A (call f us) (EP X pins σ Q) X.xe s
/-- a value's truth -/
def TruR (X : Cx) (r : V → Hp → (Bool → Hp → Prop) → Prop) : Prop :=
  ∀ (pins : List (Addr × Obj)) (s : Shared) (σ : St) (H : Hp) (x : V) (v : Value) (Q : Bool → Hp → Prop), Inv X pins σ H s → RelV x v → r x H Q →
    wpAny (model X.prog X.w) X.A (truthy v) (TP X pins σ Q) X.xe s
def tOp (r : R2) (ta tb : TE) : TE := fun σ H Q => ta σ H fun x H1 => tb σ H1 fun y H2 => r x y H2 Q
def tUn (r : V → Hp → VK → Prop) (ta : TE) : TE := fun σ H Q => ta σ H fun x H1 => r x H1 Q
/-- ints in, under C, and a value out -/
def rI (C : Int → Int → Prop) (g : Int → Int → V) : R2 := fun x y H Q => ∃ i j, x = .int i ∧ y = .int j ∧ C i j ∧ Q (g i j) H
def rI0 (g : Int → Int → V) : R2 := fun x y H Q => ∃ i j, x = .int i ∧ y = .int j ∧ Q (g i j) H
def rU (g : Int → V) : V → Hp → VK → Prop := fun x H Q => ∃ i, x = .int i ∧ Q (g i) H
section
variable {X : Cx} {a b c : Expr} {ta tb tc : TE} {pos : Pos}
theorem binT (ha : PE X a ta) (hb : PE X b tb) {pins : List (Addr × Obj)} {s : Shared} {σ : St} {H : Hp} {R : V → V → Hp → Prop} (I : Inv X pins σ H s)
    (h : ta σ H fun x H1 => tb σ H1 fun y H2 => R x y H2) {Q : Value → Shared → Prop} {f : Value → Value → Sem Value}
    (hf : ∀ v u s2 x y H2, Inv X pins σ H2 s2 → RelV x v → RelV y u → R x y H2 → wpAny (model X.prog X.w) X.A (f v u) Q X.xe s2) :
    wpAny (model X.prog X.w) X.A (eval a X.env) (fun v s₁ => wpAny (model X.prog X.w) X.A (eval b X.env) (fun u s₂ => wpAny (model X.prog X.w) X.A (f v u) Q X.xe s₂) X.xe s₁) X.xe s := by
  refine thn (ha pins s σ H _ I h) fun v s1 ⟨x, H1, I1, r1, q1⟩ => ?_
  refine thn (hb pins s1 σ H1 _ I1 q1) fun u s2 ⟨y, H2, I2, r2, q2⟩ => ?_
  exact hf v u s2 x y H2 I2 r1 r2 q2
theorem pe_op {op : Operator} {r : R2} (ho : OpR X (binaryOp op) r) (ha : PE X a ta) (hb : PE X b tb) : PE X (.BinOp a op b pos) (tOp r ta tb) := by
  intro pins s σ H Q I h
  exact wpAny_BinOp (binT ha hb I h fun v u s2 x y H2 I2 rx ry q => ho pins s2 σ H2 x y v u Q I2 rx ry q)
theorem pe_un {op : UnaryOp} {r : V → Hp → VK → Prop} (ho : UnR X (unaryOp op) r) (ha : PE X a ta) : PE X (.UnaryOp op a pos) (tUn r ta) := by
  intro pins s σ H Q I h
  exact UnaryOp_ (thn (ha pins s σ H _ I h) fun v s1 ⟨x, H1, I1, r1, q1⟩ => ho pins s1 σ H1 x v Q I1 r1 q1)
theorem opI {f : Value → Value → Sem Value} {C : Int → Int → Prop} {g : Int → Int → Int}
    (rule : ∀ (i j : Int) (t u : Tok) (s : Shared) (Q : Value → Shared → Prop) (E : Value → Shared → Prop), C i j → Q (.int (g i j) s.toks) { s with toks := s.toks + 1 } → wpAny (model X.prog X.w) X.A (f (.int i t) (.int j u)) Q E s) :
    OpR X f (rI C fun i j => .int (g i j)) := by
  intro pins s σ H x y v u Q I rx ry h
  obtain ⟨i, j, rfl, rfl, hc, q⟩ := h
  obtain ⟨t, rfl⟩ := rx
  obtain ⟨t', rfl⟩ := ry
  exact rule i j t t' s _ _ hc ⟨.int (g i j), H, I.tok _, ⟨_, rfl⟩, q⟩
theorem opI0 {f : Value → Value → Sem Value} {g : Int → Int → Int}
    (rule : ∀ (i j : Int) (t u : Tok) (s : Shared) (Q : Value → Shared → Prop) (E : Value → Shared → Prop), Q (.int (g i j) s.toks) { s with toks := s.toks + 1 } → wpAny (model X.prog X.w) X.A (f (.int i t) (.int j u)) Q E s) :
    OpR X f (rI0 fun i j => .int (g i j)) := by
  intro pins s σ H x y v u Q I rx ry h
  obtain ⟨i, j, rfl, rfl, q⟩ := h
  obtain ⟨t, rfl⟩ := rx
  obtain ⟨t', rfl⟩ := ry
  exact rule i j t t' s _ _ ⟨.int (g i j), H, I.tok _, ⟨_, rfl⟩, q⟩
theorem opB0 {f : Value → Value → Sem Value} {g : Int → Int → Bool}
    (rule : ∀ (i j : Int) (t u : Tok) (s : Shared) (Q : Value → Shared → Prop) (E : Value → Shared → Prop), Q (.bool (g i j)) s → wpAny (model X.prog X.w) X.A (f (.int i t) (.int j u)) Q E s) :
    OpR X f (rI0 fun i j => .bl (g i j)) := by
  intro pins s σ H x y v u Q I rx ry h
  obtain ⟨i, j, rfl, rfl, q⟩ := h
  obtain ⟨t, rfl⟩ := rx
  obtain ⟨t', rfl⟩ := ry
  exact rule i j t t' s _ _ ⟨.bl (g i j), H, I, rfl, q⟩
def CDiv (i j : Int) : Prop := 0 < j ∧ j < 1073741824
def CDivN (i j : Int) : Prop := j ≠ 0 ∧ j.natAbs < 1073741824
def CPow (i j : Int) : Prop := 0 ≤ j ∧ j ≤ 1000000 ∧ i.natAbs < 2 ^ 64
def CMul (i j : Int) : Prop := (-(2 ^ 64) < i ∧ i < 2 ^ 64) ∨ (-(2 ^ 64) < j ∧ j < 2 ^ 64)
theorem op_add : OpR X (binaryOp .Add) (rI0 fun i j => .int (i + j)) := opI0 fun _ _ _ _ _ _ _ q => add_int q
/-- % by a positive divisor of any size -/
theorem op_mod : OpR X (binaryOp .Mod) (rI (fun _ j => 0 < j) fun i j => .int (i % j)) := opI fun i j _ _ _ _ _ hc q => by
  have h1 : (0 : Int) < j := hc
  exact mod_int' (by omega) (by rw [Int.fmod_eq_emod_of_nonneg i (by omega)]; exact q)
theorem op_pow : OpR X (binaryOp .Pow) (rI CPow fun i j => .int (i ^ j.toNat)) := opI fun _ _ _ _ _ _ _ hc q => pow_int_small hc.1 hc.2.1 hc.2.2 q
theorem unI {f : Value → Sem Value} {g : Int → Int}
    (rule : ∀ (i : Int) (t : Tok) (s : Shared) (Q : Value → Shared → Prop) (E : Value → Shared → Prop), Q (.int (g i) s.toks) { s with toks := s.toks + 1 } → wpAny (model X.prog X.w) X.A (f (.int i t)) Q E s) :
    UnR X f (rU fun i => .int (g i)) := by
  intro pins s σ H x v Q I rx h
  obtain ⟨i, rfl, q⟩ := h
  obtain ⟨t, rfl⟩ := rx
  exact rule i t s _ _ ⟨.int (g i), H, I.tok _, ⟨_, rfl⟩, q⟩
theorem un_neg : UnR X (unaryOp .USub) (rU fun i => .int (-i)) := unI fun _ _ _ _ _ q => neg_int q
end
/-- the scalars that == tells apart as data does -/
def scal : V → V → Bool
  | .non, .non => true | .non, .int _ => true | .int _, .non => true | .non, .bl _ => true | .bl _, .non => true | .non, .str _ => true | .str _, .non => true
  | .int _, .int _ => true | .bl _, .bl _ => true | .str _, .str _ => true | .byt _, .byt _ => true
  | .int _, .str _ => true | .str _, .int _ => true | .bl _, .str _ => true | .str _, .bl _ => true
  | _, _ => false
def rEq : R2 := fun x y H Q => scal x y = true ∧ Q (.bl (decide (x = y))) H
def rNe : R2 := fun x y H Q => scal x y = true ∧ Q (.bl (!decide (x = y))) H
theorem dec_int {i j : Int} : decide (V.int i = V.int j) = (i == j) := by
  rw [Bool.eq_iff_iff]
  simp
theorem dec_bl {i j : Bool} : decide (V.bl i = V.bl j) = (i == j) := by
  rw [Bool.eq_iff_iff]
  simp
theorem dec_str {i j : Str} : decide (V.str i = V.str j) = (i == j) := by
  rw [Bool.eq_iff_iff]
  simp
theorem dec_byt {i j : Array UInt8} : decide (V.byt i = V.byt j) = (i.toList == j.toList) := by
  rw [Bool.eq_iff_iff]
  cases i
  cases j
  simp
section
variable {X : Cx} {a b c : Expr} {ta tb tc : TE} {pos : Pos}
theorem fin_bl {pins : List (Addr × Obj)} {σ : St} {H : Hp} {s : Shared} {Q : VK} {k k' : Bool} (I : Inv X pins σ H s) (q : Q (.bl k) H) (e : k = k') : EP X pins σ Q (.bool k') s := by
  subst e
  exact ⟨.bl k, H, I, rfl, q⟩
theorem op_eq : OpR X (compareOp .Eq) rEq := by
  intro pins s σ H x y v u Q I rx ry h
  obtain ⟨hs, q⟩ := h
  cases x with
  | non =>
    cases rx
    cases y with
    | non => cases ry; exact PySem.EqNone.eq_none_none (fin_bl I q (by simp))
    | bl j => cases ry; exact PySem.EqNone.eq_none_bool (fin_bl I q (by simp))
    | int j => obtain ⟨t', rfl⟩ := ry; exact PySem.EqNone.eq_none_int (fin_bl I q (by simp))
    | str j => obtain ⟨t', rfl⟩ := ry; exact PySem.EqNone.eq_none_str (fin_bl I q (by simp))
    | _ => exact absurd (show false = true from hs) Bool.false_ne_true
  | bl i =>
    cases rx
    cases y with
    | non => cases ry; exact PySem.EqNone.eq_bool_none (fin_bl I q (by simp))
    | bl j => cases ry; exact eq_bool (fin_bl I q dec_bl)
    | str j => obtain ⟨t', rfl⟩ := ry; exact PySem.EqMixed.eq_bool_str (fin_bl I q (by simp))
    | _ => exact absurd (show false = true from hs) Bool.false_ne_true
  | int i =>
    obtain ⟨t, rfl⟩ := rx
    cases y with
    | non => cases ry; exact PySem.EqNone.eq_int_none (fin_bl I q (by simp))
    | int j => obtain ⟨t', rfl⟩ := ry; exact eq_int (fin_bl I q dec_int)
    | str j => obtain ⟨t', rfl⟩ := ry; exact PySem.EqMixed.eq_int_str (fin_bl I q (by simp))
    | _ => exact absurd (show false = true from hs) Bool.false_ne_true
  | str i =>
    obtain ⟨t, rfl⟩ := rx
    cases y with
    | non => cases ry; exact PySem.EqNone.eq_str_none (fin_bl I q (by simp))
    | bl j => cases ry; exact PySem.EqMixed.eq_str_bool (fin_bl I q (by simp))
    | int j => obtain ⟨t', rfl⟩ := ry; exact PySem.EqMixed.eq_str_int (fin_bl I q (by simp))
    | str j => obtain ⟨t', rfl⟩ := ry; exact eq_str (fin_bl I q dec_str)
    | _ => exact absurd (show false = true from hs) Bool.false_ne_true
  | byt i =>
    obtain ⟨t, rfl⟩ := rx
    cases y with
    | byt j => obtain ⟨t', rfl⟩ := ry; exact PySem.W.eq_bytes (fin_bl I q dec_byt)
    | _ => exact absurd (show false = true from hs) Bool.false_ne_true
  | _ => cases y <;> exact absurd (show false = true from hs) Bool.false_ne_true
theorem op_ne : OpR X (compareOp .NotEq) rNe := by
  intro pins s σ H x y v u Q I rx ry h
  obtain ⟨hs, q⟩ := h
  cases x with
  | non =>
    cases rx
    cases y with
    | non => cases ry; exact PySem.EqNone.ne_none_none (fin_bl I q (by simp))
    | bl j => cases ry; exact PySem.EqNone.ne_none_bool (fin_bl I q (by simp))
    | int j => obtain ⟨t', rfl⟩ := ry; exact PySem.EqNone.ne_none_int (fin_bl I q (by simp))
    | str j => obtain ⟨t', rfl⟩ := ry; exact PySem.EqNone.ne_none_str (fin_bl I q (by simp))
    | _ => exact absurd (show false = true from hs) Bool.false_ne_true
  | bl i =>
    cases rx
    cases y with
    | non => cases ry; exact PySem.EqNone.ne_bool_none (fin_bl I q (by simp))
    | bl j => cases ry; exact ne_bool (fin_bl I q (congrArg not dec_bl))
    | str j => obtain ⟨t', rfl⟩ := ry; exact PySem.EqMixed.ne_bool_str (fin_bl I q (by simp))
    | _ => exact absurd (show false = true from hs) Bool.false_ne_true
  | int i =>
    obtain ⟨t, rfl⟩ := rx
    cases y with
    | non => cases ry; exact PySem.EqNone.ne_int_none (fin_bl I q (by simp))
    | int j => obtain ⟨t', rfl⟩ := ry; exact ne_int (fin_bl I q (congrArg not dec_int))
    | str j => obtain ⟨t', rfl⟩ := ry; exact PySem.EqMixed.ne_int_str (fin_bl I q (by simp))
    | _ => exact absurd (show false = true from hs) Bool.false_ne_true
  | str i =>
    obtain ⟨t, rfl⟩ := rx
    cases y with
    | non => cases ry; exact PySem.EqNone.ne_str_none (fin_bl I q (by simp))
    | bl j => cases ry; exact PySem.EqMixed.ne_str_bool (fin_bl I q (by simp))
    | int j => obtain ⟨t', rfl⟩ := ry; exact PySem.EqMixed.ne_str_int (fin_bl I q (by simp))
    | str j => obtain ⟨t', rfl⟩ := ry; exact ne_str (fin_bl I q (congrArg not dec_str))
    | _ => exact absurd (show false = true from hs) Bool.false_ne_true
  | byt i =>
    obtain ⟨t, rfl⟩ := rx
    cases y with
    | byt j => obtain ⟨t', rfl⟩ := ry; exact PySem.W.ne_bytes (fin_bl I q (congrArg not dec_byt))
    | _ => exact absurd (show false = true from hs) Bool.false_ne_true
  | _ => cases y <;> exact absurd (show false = true from hs) Bool.false_ne_true
theorem op_lt : OpR X (compareOp .Lt) (rI0 fun i j => .bl (decide (i < j))) := opB0 fun _ _ _ _ _ _ _ q => lt_int q
theorem op_gt : OpR X (compareOp .Gt) (rI0 fun i j => .bl (decide (j < i))) := opB0 fun _ _ _ _ _ _ _ q => gt_int q
theorem op_ge : OpR X (compareOp .GtE) (rI0 fun i j => .bl (decide (j ≤ i))) := opB0 fun _ _ _ _ _ _ _ q => ge_int q
/-- is None, is not None: the right side a value none -/
theorem op_isN : OpR X (compareOp .Is) (fun x y H Q => y = .non ∧ Q (.bl (decide (x = .non))) H) := by
  intro pins s σ H x y v u Q I rx ry h
  obtain ⟨rfl, q⟩ := h
  cases ry
  refine is_none_gen (fin_bl I q ?_)
  cases x <;> first
    | (cases rx; rfl)
    | (obtain ⟨t, rfl⟩ := rx; rfl)
theorem op_notN : OpR X (compareOp .IsNot) (fun x y H Q => y = .non ∧ Q (.bl (!decide (x = .non))) H) := by
  intro pins s σ H x y v u Q I rx ry h
  obtain ⟨rfl, q⟩ := h
  cases ry
  refine isnot_none_gen (fin_bl I q ?_)
  cases x <;> first
    | (cases rx; rfl)
    | (obtain ⟨t, rfl⟩ := rx; rfl)
/-- is, is not of two objects that are tracked lists or instances -/
def isObj : HO → Bool
  | .lst _ => true
  | .ins _ _ _ => true
  | _ => false
theorem nomark (b : Expr) {op : CmpOp} (h : op ≠ .In := by decide) (h2 : op ≠ .NotIn := by decide) : behindInMarks op b = false := by
  have e1 : (op == CmpOp.In) = false := by cases op <;> first | rfl | exact absurd rfl h
  have e2 : (op == CmpOp.NotIn) = false := by cases op <;> first | rfl | exact absurd rfl h2
  cases b <;> simp [behindInMarks, e1, e2]
/-- a comparison as a value; hm: nomark b, or (for in, not in) by with_unfolding_all rfl -/
theorem pe_cmpR {op : CmpOp} {r : R2} (ho : OpR X (compareOp op) r) (ha : PE X a ta) (hb : PE X b tb) (hm : behindInMarks op b = false) : PE X (.Compare a [op] [b] pos) (tOp r ta tb) := by
  intro pins s σ H Q I h
  exact wpAny_Compare1 (binT ha hb I h fun v u s2 x y H2 I2 rx ry q => ho pins s2 σ H2 x y v u Q I2 rx ry q) hm
/-- a reading of a value as a test -/
def tTest (t : TE) : TT := fun σ H Q => t σ H fun x H' => ∃ k, x = .bl k ∧ Q k H'
theorem pt_cmpR {op : CmpOp} {r : R2} (ho : OpR X (compareOp op) r) (ha : PE X a ta) (hb : PE X b tb) (hm : behindInMarks op b = false) : PT X (.Compare a [op] [b] pos) (tTest (tOp r ta tb)) := by
  intro pins s σ H Q I h
  refine wpAny_isTrue_Compare1 (thn (ha pins s σ H _ I h) fun v s1 ⟨x, H1, I1, r1, q1⟩ => thn (hb pins s1 σ H1 _ I1 q1) fun u s2 ⟨y, H2, I2, r2, q2⟩ =>
    thn (ho pins s2 σ H2 x y v u _ I2 r1 r2 q2) fun c s3 ⟨z, H3, I3, r3, k, e, q3⟩ => ?_) hm
  subst e
  cases r3
  exact wpAny_truthy_bool ⟨H3, I3, q3⟩
/-- a op1 b op2 c -/
def tChain (r r' : R2) (ta tb tc : TE) : TE := fun σ H Q => ta σ H fun x H1 => tb σ H1 fun y H2 => r x y H2 fun z H3 => ∃ k, z = .bl k ∧
  (if k = true then tc σ H3 fun w' H4 => r' y w' H4 Q else Q (.bl false) H3)
/-- a value's truth by the abstract heap -/
def TruV (K : PySem.W.Frag) (x : V) (H : Hp) (k : Bool) : Prop :=
  match x with
  | .non => k = false
  | .bl b => k = b
  | .int i => k = (i != 0)
  | .str y => y.length ≤ sizeLine ∧ k = ((y.length : Int) != 0)
  | .byt y => y.size ≤ sizeLine ∧ k = ((y.size : Int) != 0)
  | .ref p => (∃ xs, SqL K H p xs ∧ k = !xs.isEmpty) ∨ (∃ xs, SqT K H p xs ∧ k = !xs.isEmpty) ∨ ∃ kvs, H p = some (.dK kvs) ∧ k = !kvs.isEmpty
  | _ => False
theorem line63 : (sizeLine : Nat) < 2 ^ 63 := by rw [sizeLine_eq]; decide
theorem op_add_str : OpR X (binaryOp .Add) (fun x y H Q => ∃ i j, x = .str i ∧ y = .str j ∧ i.length + j.length ≤ sizeLine ∧ Q (.str (i ++ j)) H) := by
  intro pins s σ H x y v u Q I rx ry h
  obtain ⟨i, j, rfl, rfl, hz, q⟩ := h
  obtain ⟨t, rfl⟩ := rx
  obtain ⟨t', rfl⟩ := ry
  exact add_str (fun t' tk => ⟨.str (i ++ j), H, I.tok _, ⟨_, rfl⟩, q⟩) hz
def PlainIxT (b : Expr) : Prop := ∀ o i, subscripted b false o i = operate [o, i] (getItem o i)
theorem vals1 {x : V} {us : List Value} (r : Vals [x] us) : ∃ u, us = [u] ∧ RelV x u := by
  cases r with
  | cons r1 r2 => cases r2; exact ⟨_, rfl, r1⟩
theorem vals2 {x y : V} {us : List Value} (r : Vals [x, y] us) : ∃ u w', us = [u, w'] ∧ RelV x u ∧ RelV y w' := by
  cases r with
  | cons r1 r2 =>
    cases r2 with
    | cons r3 r4 => cases r4; exact ⟨_, _, rfl, r1, r3⟩
theorem call_abs : CallR X (.builtin "abs") (fun xs H Q => ∃ i, xs = [.int i] ∧ Q (.int (if i < 0 then -i else i)) H) := by
  intro pins s σ H xs us Q I r h
  obtain ⟨i, rfl, q⟩ := h
  obtain ⟨u, rfl, t, rfl⟩ := vals1 r
  exact call_abs_int fun u tk => ⟨.int (if i < 0 then -i else i), H, I.tok _, ⟨_, rfl⟩, q⟩
theorem call_max2 (hc : X.calm = true) : CallR X (.builtin "max") (fun xs H Q => ∃ i j, xs = [.int i, .int j] ∧ Q (.int (if j > i then j else i)) H) := by
  intro pins s σ H xs us Q I r h
  obtain ⟨i, j, rfl, q⟩ := h
  obtain ⟨u, w', rfl, ⟨t, rfl⟩, ⟨t', rfl⟩⟩ := vals2 r
  refine max_two_ints (I.ok.hd hc) fun h' tk k => ⟨_, H, I.kept k, ?_, q⟩
  by_cases hj : j > i
  · rw [if_pos hj, if_pos hj]; exact ⟨_, rfl⟩
  · rw [if_neg hj, if_neg hj]; exact ⟨_, rfl⟩
theorem call_min2 (hc : X.calm = true) : CallR X (.builtin "min") (fun xs H Q => ∃ i j, xs = [.int i, .int j] ∧ Q (.int (if j < i then j else i)) H) := by
  intro pins s σ H xs us Q I r h
  obtain ⟨i, j, rfl, q⟩ := h
  obtain ⟨u, w', rfl, ⟨t, rfl⟩, ⟨t', rfl⟩⟩ := vals2 r
  refine min_two_ints (I.ok.hd hc) fun h' tk k => ⟨_, H, I.kept k, ?_, q⟩
  by_cases hj : j < i
  · rw [if_pos hj, if_pos hj]; exact ⟨_, rfl⟩
  · rw [if_neg hj, if_neg hj]; exact ⟨_, rfl⟩
/-- len of a str, a bytes, a list, a tuple -/
def LenV (K : PySem.W.Frag) (x : V) (H : Hp) (n : Nat) : Prop :=
  match x with
  | .str y => y.length ≤ sizeLine ∧ n = y.length
  | .byt y => y.size ≤ sizeLine ∧ n = y.size
  | .ref p => (∃ xs, SqL K H p xs ∧ n = xs.length) ∨ ∃ xs, SqT K H p xs ∧ n = xs.length
  | _ => False
end
end L2
namespace L2
open PySem PySem.Spec PyProof.Rows
structure ObjM (h : Heap) (x dx C : Addr) (mA : Str → Option Value) : Prop where
  obj : h.get? x = some (PySem.W.instObj C dx)
  ns : h.Ns1 dx mA
  ne : dx ≠ x
theorem lookIn_ns {h : Heap} {dx : Addr} {mA : Str → Option Value} (n : h.Ns1 dx mA) : ∃ od, h.get? dx = some od ∧ ∀ name, PySem.W.lookIn name od = some (mA name) := by
  obtain ⟨o, es, ep, ho, hd, hk, _, hm⟩ := n
  refine ⟨o, ho, fun name => ?_⟩
  have e := hm name
  unfold nsFind findBy at e
  rw [← Array.find?_toList] at e
  unfold PySem.W.lookIn
  rw [hd]
  dsimp only
  split
  · rename_i y q
    rw [q] at e
    exact congrArg some e
  · rename_i q
    rw [q] at e
    have a : es.toList.any (·.refKey) = false := by
      rw [List.any_eq_false]
      intro y hy
      obtain ⟨z, t, hkey⟩ := hk y (Array.mem_toList_iff.mp hy)
      simp [DictEntry.refKey, hkey]
    have a' : ¬ es.toList.any (·.refKey) = true := by rw [a]; exact Bool.false_ne_true
    rw [if_neg a']
    exact congrArg some e
theorem ObjM.look {h : Heap} {x dx C : Addr} {mA : Str → Option Value} (I : ObjM h x dx C mA) : ∃ od, PySem.W.InstAt h x (PySem.W.instObj C dx) C (some od) ∧ ∀ name, PySem.W.lookIn name od = some (mA name) :=
  let ⟨od, ho, hl⟩ := lookIn_ns I.ns
  ⟨od, ⟨I.obj, rfl, rfl, ho⟩, hl⟩
section
variable {prog : Program} {w : World} {A : Around} {E : Value → Shared → Prop} {s : Shared} {K : PySem.W.Frag} {x dx C f : Addr} {mA : Str → Option Value} {name : Str} {v : Value}
end
def putF (f : Str) (v : V) : List (Str × V) → List (Str × V)
  | [] => [(f, v)]
  | (g, x) :: r => if g = f then (g, v) :: r else (g, x) :: putF f v r
section
variable {P : Program} {w : World} {H H' : Hp} {h h' : Heap} {a C dx : Addr} {fs fs' : List (Str × V)}
theorem ins_get (hok : HOk P w H h) (e : H a = some (.ins C dx fs)) : ∃ mA, ObjM h a dx C mA ∧ (∀ f, RelO (fs.lookup f) (mA f)) ∧ PySem.Within mA (fs.map (·.1)) ∧ fs.length ≤ 1000 ∧ H dx = some (.own a) := by
  obtain ⟨d, z, ne, ob, mA, n, r, q⟩ := (show ObjOk P w H h a (.ins C dx fs) from hok a _ e)
  exact ⟨mA, ⟨ob, n, ne⟩, r, q, z, d⟩
end
structure Cls (K : PySem.W.Frag) (C : Addr) : Prop where
  pg : PySem.W.plainGet K C Str.empty = true
  hd : PySem.W.hasDictIn K C = true
  po : PySem.W.plainOver K C = true
  sa : PySem.W.findIn K (.ref C) "__setattr__" = some (some (.builtin "object.__setattr__"))
theorem Cls.get {K : PySem.W.Frag} {C : Addr} (c : Cls K C) (f : Str) : PySem.W.plainGet K C f = true := c.pg
/-- no class of it has the name -/
def NoAttr (K : PySem.W.Frag) (C : Addr) (f : Str) : Prop := PySem.W.findIn K (.ref C) f = some none
/-- a constant of the class -/
structure Con (K : PySem.W.Frag) (C : Addr) (f : Str) (v : V) (u : Value) : Prop where
  at_ : PySem.W.findIn K (.ref C) f = some (some u)
  rel : RelV v u
  get : PySem.W.specialIn K u "__get__" = some none
  cp : PySem.W.copiedNames.contains f = false
/-- a method: a plain def of the class or of one above it -/
structure Meth (K : PySem.W.Frag) (C : Addr) (m : Str) (f : Addr) : Prop where
  at_ : PySem.W.findIn K (.ref C) m = some (some (.ref f))
  fn : PySem.W.isFn K (.ref f) = true
  kp : PySem.W.keepIn K (.ref f) = true
section
variable {X : Cx} {pins : List (Addr × Obj)} {σ : St} {H : Hp} {s : Shared} {a C dx : Addr} {fs : List (Str × V)} {f : Str} {v : V} {A : Around} {E : Value → Shared → Prop}
end
/-- e.f, an attribute of the instance -/
def tFld (K : PySem.W.Frag) (ta : TE) (f : Str) : TE := fun σ H Q => ta σ H fun x H1 => ∃ a C dx fs v, x = .ref a ∧ H1 a = some (.ins C dx fs) ∧ Cls K C ∧ NoAttr K C f ∧ fs.lookup f = some v ∧ Q v H1
/-- e.f, a constant of the class -/
def tCon (K : PySem.W.Frag) (ta : TE) (f : Str) : TE := fun σ H Q => ta σ H fun x H1 => ∃ a C dx fs v u, x = .ref a ∧ H1 a = some (.ins C dx fs) ∧ Cls K C ∧ Con K C f v u ∧ fs.lookup f = none ∧ Q v H1
/-- e.f = value -/
def sFld (K : PySem.W.Frag) (ta tv : TE) (f : Str) : TS := fun D σ H => tv σ H fun y H1 => ta σ H1 fun x H2 => ∃ a C dx fs, x = .ref a ∧ H2 a = some (.ins C dx fs) ∧ Cls K C ∧ NoAttr K C f ∧ fs.length < 1000 ∧
  D.nx σ (upd H2 a (.ins C dx (putF f y fs)))
/-- an augmented operator on two values -/
def InOp (X : Cx) (op : Operator) (rd : V → V → Hp → VK → Prop) : Prop :=
  ∀ (pins : List (Addr × Obj)) (s : Shared) (σ : St) (H : Hp) (x y : V) (u v : Value) (Q : VK), Inv X pins σ H s → RelV x u → RelV y v → rd x y H Q → wpAny (model X.prog X.w) X.A (inplaceOp op u v) (EP X pins σ Q) X.xe s
/-- e.f op= value -/
def sFldAug (K : PySem.W.Frag) (ta tv : TE) (rd : V → V → Hp → VK → Prop) (f : Str) : TS := fun D σ H => ta σ H fun x H1 => ∃ a C dx fs v, x = .ref a ∧ H1 a = some (.ins C dx fs) ∧ Cls K C ∧ NoAttr K C f ∧ fs.lookup f = some v ∧
  tv σ H1 fun y H2 => rd v y H2 fun z H3 => ∃ dx' fs', H3 a = some (.ins C dx' fs') ∧ fs'.length < 1000 ∧ D.nx σ (upd H3 a (.ins C dx' (putF f z fs')))
section
variable {X : Cx} {o e value : Expr} {f : Str} {pos pos' tpos : Pos} {ta tv : TE}
def rAdd : V → V → Hp → VK → Prop := fun x y H Q => ∃ i j, x = .int i ∧ y = .int j ∧ Q (.int (i + j)) H
def rSub : V → V → Hp → VK → Prop := fun x y H Q => ∃ i j, x = .int i ∧ y = .int j ∧ Q (.int (i - j)) H
end
section
variable {X : Cx} {pins : List (Addr × Obj)} {σ : St} {H : Hp} {s : Shared} {A : Around} {E : Value → Shared → Prop} {Q : Value → Shared → Prop} {c : Value} {b : Bool}
/-- the type of a value, as the fragment's deciders take it; for an instance its class -/
inductive TyOf (K : PySem.W.Frag) (H : Hp) : V → Value → Prop where
  | non : TyOf K H .non (.type "NoneType")
  | bl (x : Bool) : TyOf K H (.bl x) (.type "bool")
  | int (i : Int) : TyOf K H (.int i) (.type "int")
  | str (x : Str) : TyOf K H (.str x) (.type "str")
  | flt (x : UInt64) : TyOf K H (.flt x) (.type "float")
  | lst {a : Addr} {xs : List V} (e : H a = some (.lst xs)) : TyOf K H (.ref a) (.type "list")
  | frz {a : Addr} {o : Obj} {xs : List V} (e : H a = some (.frz o (.lst xs))) : TyOf K H (.ref a) (.type "list")
  | tup {a : Addr} {xs : List V} (e : H a = some (.tup xs)) : TyOf K H (.ref a) (.type "tuple")
  | dK {a : Addr} {kvs : List (Key × V)} (e : H a = some (.dK kvs)) : TyOf K H (.ref a) (.type "dict")
  | dT {a : Addr} {kvs : List (List Key × V)} (e : H a = some (.dT kvs)) : TyOf K H (.ref a) (.type "dict")
  | ins {a C dx : Addr} {fs : List (Str × V)} (e : H a = some (.ins C dx fs)) (cl : Cls K C) (ha : PySem.W.findIn K (.ref C) "__class__" = some (some (.builtin "object.__class__")))
      (hn : PySem.W.specialIn K (.builtin "object.__class__") "__get__" = some (some (.builtin "getset_descriptor.__get__"))) (htk : PySem.W.takesIn K (.builtin "object.__class__") = some true)
      (hm : PySem.W.mroIn K C (.type "object") = some true) : TyOf K H (.ref a) (.ref C)
/-- isinstance(x, c) for one class c, a built-in or an own one: kitOne's answer -/
theorem isinst_ok {x : V} {u t : Value} (I : Inv X pins σ H s) (rx : RelV x u) (ty : TyOf X.K H x t) (e : PySem.W.kitOne X.K t c = some b) (h : ∀ tk, Q (.bool b) { s with toks := tk }) :
    wpAny (model X.prog X.w) A (call (.builtin "isinstance") [u, c]) Q E s := by
  cases ty with
  | non => cases (show u = Value.none from rx); exact PySem.W.kia_one PySem.W.kitx_none I.kIn True.intro e (fun z => nomatch z) h
  | bl y => cases (show u = Value.bool y from rx); exact PySem.W.kia_one PySem.W.kitx_bool I.kIn True.intro e (fun z => nomatch z) h
  | int i => obtain ⟨t, q⟩ := (show ∃ t, u = Value.int i t from rx); cases q; exact PySem.W.kia_one PySem.W.kitx_int I.kIn True.intro e (fun z => nomatch z) h
  | str y => obtain ⟨t, q⟩ := (show ∃ t, u = Value.str y t from rx); cases q; exact PySem.W.kia_one PySem.W.kitx_str I.kIn True.intro e (fun z => nomatch z) h
  | flt y => obtain ⟨t, q⟩ := (show ∃ t, u = Value.float y t from rx); cases q; exact PySem.W.kia_one PySem.W.kitx_float I.kIn True.intro e (fun z => nomatch z) h
  | @lst a xs ea =>
    cases (show u = Value.ref a from rx)
    obtain ⟨_, _, n, _, h1⟩ := (show ObjOk X.prog X.w H s.heap a (.lst xs) from I.hok a _ ea)
    exact PySem.W.kia_one PySem.W.kitx_list I.kIn ⟨_, h1, rfl⟩ e (fun z => nomatch z) h
  | @frz a ob xs ea =>
    cases (show u = Value.ref a from rx)
    obtain ⟨_, _, _, n, _, h1⟩ := (show ObjOk X.prog X.w H s.heap a (.frz ob (.lst xs)) from I.hok a _ ea)
    exact PySem.W.kia_one PySem.W.kitx_list I.kIn ⟨_, h1, rfl⟩ e (fun z => nomatch z) h
  | @tup a xs ea =>
    cases (show u = Value.ref a from rx)
    obtain ⟨_, _, _, p⟩ := (show ObjOk X.prog X.w H s.heap a (.tup xs) from I.hok a _ ea)
    obtain ⟨o, h1, h2, _⟩ := p
    exact PySem.W.kia_one PySem.W.kitx_tuple I.kIn ⟨o, h1, h2⟩ e (fun z => nomatch z) h
  | @dK a kvs ea =>
    cases (show u = Value.ref a from rx)
    obtain ⟨_, _, vs, _, p⟩ := (show ObjOk X.prog X.w H s.heap a (.dK kvs) from I.hok a _ ea)
    obtain ⟨o, es, ep, h1, h2, _⟩ := p
    exact PySem.W.kia_one PySem.W.kitx_dict I.kIn ⟨o, h1, h2.1⟩ e (fun z => nomatch z) h
  | @dT a kvs ea =>
    cases (show u = Value.ref a from rx)
    obtain ⟨_, _, xs, _, o, es, ep, h1, h2, _⟩ := (show ObjOk X.prog X.w H s.heap a (.dT kvs) from I.hok a _ ea)
    exact PySem.W.kia_one PySem.W.kitx_dict I.kIn ⟨o, h1, h2.1⟩ e (fun z => nomatch z) h
  | @ins a C dx fs ea cl ha hn htk hm =>
    cases (show u = Value.ref a from rx)
    obtain ⟨mA, O, _⟩ := ins_get I.hok ea
    obtain ⟨od, J, _⟩ := O.look
    exact PySem.W.kia_one (PySem.W.kitx_own (cl.get _) cl.hd ha hn htk hm) I.kIn J e (fun z => nomatch z) h
end
end L2
namespace L2
open PySem PySem.Spec PyProof.Rows
structure Room (k : Nat) (A : Around) : Prop where
  hd : A.handled = none
  dp : A.depth + 3 * k + 5 < recursionLimit
  un : A.units + 16 * k + 200 < cLine
theorem Room.mono {j k : Nat} {A : Around} (r : Room k A) (h : j ≤ k) : Room j A := ⟨r.hd, by have := r.dp; omega, by have := r.un; omega⟩
theorem Room.deeper {k : Nat} {A : Around} (r : Room (k + 1) A) (env : Env) : Room k (A.deeper env) :=
  ⟨r.hd, by have := r.dp; show A.depth + 1 + 3 * k + 5 < _; omega, by have := r.un; show A.units + 3 + 16 * k + 200 < _; omega⟩
theorem Room.depth {k : Nat} {A : Around} (r : Room k A) : A.depth < recursionLimit := by have := r.dp; omega
theorem Room.units {k : Nat} {A : Around} (r : Room k A) : A.units + 64 < cLine := by have := r.un; omega
def tNil : TA := fun _ H Q => Q [] H
def tCons (ta : TE) (tr : TA) : TA := fun σ H Q => ta σ H fun x H1 => tr σ H1 fun xs H2 => Q (x :: xs) H2
section
variable {X : Cx} {e : Expr} {es : List Expr} {te : TE} {t : TA} {pos : Pos}
theorem pa_nil : PA X [] tNil := fun _ _ _ _ H Q I h => Calls.spliced_nil ⟨[], H, I, .nil, h⟩
theorem pa_cons (ha : PE X e te) (hr : PA X es t) (hs : starEach (e :: es) X.env = (false, eval e X.env) :: starEach es X.env := by rfl) : PA X (e :: es) (tCons te t) := by
  intro pos pins s σ H Q I h
  rw [hs]
  show wpAny _ _ (spliced ((false, eval e X.env) :: backTo pos (starEach es X.env))) _ _ s
  refine Calls.spliced_cons (thn (ha pins s σ H _ I h) fun u s1 ⟨x, H1, I1, r1, q1⟩ => ?_)
  exact thn (hr pos pins s1 σ H1 _ I1 q1) fun us s2 ⟨xs, H2, I2, r2, q2⟩ => ⟨x :: xs, H2, I2, .cons r1 r2, q2⟩
/-- a tuple, a list of written items -/
def tTup (t : TA) : TE := fun σ H Q => t σ H fun xs H1 => xs.length ≤ sizeLine ∧ ∀ p, H1 p = none → Q (.ref p) (upd H1 p (.tup xs))
def tLst (t : TA) : TE := fun σ H Q => t σ H fun xs H1 => xs.length ≤ sizeLine ∧ ∀ p, H1 p = none → Q (.ref p) (upd H1 p (.lst xs))
theorem pe_tup {x1} (h : PA X es t) : PE X (.Tuple es x1 pos) (tTup t) := by
  intro pins s σ H Q I hq
  refine wpAny_Tuple_spliced (thn (h pos pins s σ H _ I hq) fun us s1 ⟨xs, H1, I1, r, z, q⟩ => ⟨by rw [← r.length]; exact z, ?_⟩)
  have hf : H1 s1.heap.objs.size = none := I1.hok.fresh (Nat.le_refl _)
  refine ⟨.ref s1.heap.objs.size, upd H1 s1.heap.objs.size (.tup xs), I1.laid (t' := s1.toks) (fun b u e => Heap.get?_push_of_some _ e) (Nat.le_refl _) ?_, rfl, q _ hf⟩
  exact ⟨z, us, r, ⟨_, Heap.get?_push_size _ rfl, rfl, _, rfl⟩⟩
theorem pe_lst (h : PA X es t) : PE X (.List es pos) (tLst t) := by
  intro pins s σ H Q I hq
  refine wpAny_List_spliced (thn (h pos pins s σ H _ I hq) fun us s1 ⟨xs, H1, I1, r, z, q⟩ => ⟨by rw [← r.length]; exact z, ?_⟩)
  have hf : H1 s1.heap.objs.size = none := I1.hok.fresh (Nat.le_refl _)
  refine ⟨.ref s1.heap.objs.size, upd H1 s1.heap.objs.size (.lst xs), I1.laid (t' := s1.toks) (fun b u e => Heap.get?_push_of_some _ e) (Nat.le_refl _) ?_, rfl, q _ hf⟩
  exact ⟨z, us, 0, r, Heap.get?_push_size _ rfl⟩
end
/-- a def's promise: the bound arguments in the parameters' order, the heap, the wanted end, the wanted exception -/
abbrev Sp := List V → Hp → VK → XK → Prop
/-- how an exception lies behind a call (file 08 gives it): the callers' frames, abstract heap and state ahead of the call, the wish, the exception, the state -/
abbrev CXT := List Env → Hp → Shared → XK → Value → Shared → Prop
/-- the state at a call -/
structure Env0 (P : Program) (w : World) (K : PySem.W.Frag) (mg : Str → Option Value) (base : Heap) (A : Around) (outer : List Env) (s : Shared) (H : Hp) : Prop where
  frames : A.frames = some outer
  mod : Mod K mg base
  bs : ∀ b o, base.get? b = some o → s.heap.get? b = some o ∧ H b = none
  bsz : base.objs.size ≤ s.heap.objs.size
  funs : s.heap.FunFrames base outer
  frf : ∀ b ∈ frs outer, H b = none
  hok : HOk P w H s.heap
  bare : AllBare s.gens
/-- a call's end -/
def CE (outer : List Env) (P : Program) (w : World) (H : Hp) (s : Shared) (Q : VK) (u : Value) (s' : Shared) : Prop :=
  ∃ v H', s'.os = s.os ∧ AllBare s'.gens ∧ Un (frs outer) [] H H' s.heap s'.heap ∧ HOk P w H' s'.heap ∧ RelV v u ∧ Q v H'
def CR (CX : CXT) (outer : List Env) (P : Program) (w : World) (H : Hp) (s : Shared) (Q : VK) (E : XK) (r : Result) (s' : Shared) : Prop :=
  match r with
  | .ok (.ret u) => CE outer P w H s Q u s'
  | .ok _ => False
  | .error e => CX outer H s E e s'
structure FnOk (P : Program) (w : World) (K : PySem.W.Frag) (mg : Str → Option Value) (base : Heap) (CX : CXT) (k : Nat) (f : Addr) (fd : FuncData) (ps : List Str) (sp : Sp) : Prop where
  len : ∀ vs H Q E, sp vs H Q E → vs.length = ps.length
  run : ∀ (A : Around) (outer : List Env) (s : Shared) (H : Hp) (args : Args) (us : List Value) (vs : List V) (Q : VK) (E : XK), Room k A → Env0 P w K mg base A outer s H → BindsTo s fd args (ps.zip us) → Vals vs us → sp vs H Q E →
    codeAny (model P w) A (.call (.ref f) args) (CR CX outer P w H s Q E) s
section
variable {X : Cx} {pins : List (Addr × Obj)} {σ : St} {H : Hp} {s s' : Shared}
/-- from a body: what a callee wants -/
theorem Inv.env0 (I : Inv X pins σ H s) : Env0 X.prog X.w X.K X.mg X.base X.A X.stack s H :=
  ⟨I.ok.frames, I.ok.mod, I.bs, Nat.le_trans I.ok.bsz I.sz, I.stack, I.stkFree, I.hok, I.bare⟩
/-- behind a call -/
theorem Inv.after {Q : VK} {u : Value} (I : Inv X pins σ H s) (h : CE X.stack X.prog X.w H s Q u s') : EP X pins σ Q u s' := by
  obtain ⟨v, H', os, bare, un, hok, r, q⟩ := h
  obtain ⟨hh, g, d, t, os'⟩ := s'
  obtain rfl : os' = s.os := os
  exact ⟨v, H', I.call (h' := hh) (g' := g) (d' := d) (t' := t) (ch := []) un hok bare (fun b z => absurd z (by simp)), r, q⟩
end
/-- f(..): the written arguments, then the defaults dvs; E: what is wanted of an exception -/
def tCall (sp : Sp) (dvs : List V) (E : XK) (t : TA) : TE := fun σ H Q => t σ H fun vs H1 => sp (vs ++ dvs) H1 Q E
/-- o.m(..) of an instance of the class at C -/
def tMeth (C : Addr) (m : Str) (sp : Sp) (dvs : List V) (E : XK) (ta : TE) (t : TA) : TE := fun σ H Q => ta σ H fun x H1 => ∃ a dx fs, x = .ref a ∧ H1 a = some (.ins C dx fs) ∧ fs.lookup m = none ∧
  t σ H1 fun vs H2 => sp (x :: (vs ++ dvs)) H2 Q E
/-- C(..): a new instance and its dict, then __init__ -/
def tMake (C : Addr) (sp : Sp) (dvs : List V) (E : XK) (t : TA) : TE := fun σ H Q => t σ H fun vs H1 => ∀ x dx, H1 x = none → H1 dx = none → dx ≠ x →
  sp (.ref x :: (vs ++ dvs)) (upd (upd H1 dx (.own x)) x (.ins C dx [])) (fun v H2 => v = .non ∧ Q (.ref x) H2) E
/-- how the parameters are bound: us the positional arguments, kw the keywords' values by name, ds the defaults that fill up -/
def Binds (K : PySem.W.Frag) (fd : FuncData) (ps : List Str) (ds : List Value) : Prop :=
  ∀ (s : Shared) (us : List Value), K.In s.heap → (us ++ ds).length = ps.length → BindsTo s fd ⟨us, []⟩ (ps.zip (us ++ ds))
/-- every parameter is given -/
theorem Binds.all {K : PySem.W.Frag} {fd : FuncData} {ps : List Str} (h : ∀ us : List Value, us.length = ps.length → bindArgs fd ⟨us, []⟩ = pure (ps.zip us)) : Binds K fd ps [] := fun s us _ hl => by
  rw [List.append_nil] at hl ⊢
  exact .of_eq (h us hl)
/-- an exception of a callee reaches what this body wants of exceptions -/
def Passes (CX : CXT) (X : Cx) (E : XK) : Prop := ∀ (pins : List (Addr × Obj)) (σ : St) (H : Hp) (s : Shared) (e : Value) (s' : Shared), Inv X pins σ H s → CX X.stack H s E e s' → X.xe e s'
section
variable {X : Cx} {CX : CXT} {k : Nat} {f C : Addr} {fd : FuncData} {ps : List Str} {sp : Sp} {dvs : List V} {ds : List Value} {E : XK} {x m : Str} {p pos apos : Pos} {e o : Expr} {es : List Expr} {ta : TE} {t : TA}
/-- the callee runs -/
theorem run_fn {pins : List (Addr × Obj)} {σ : St} {H : Hp} {s : Shared} {Q : VK} {us : List Value} {vs : List V} (F : FnOk X.prog X.w X.K X.mg X.base CX k f fd ps sp) (hr : Room k X.A) (hb : Binds X.K fd ps ds) (hd : Vals dvs ds) (hx : Passes CX X E)
    (I : Inv X pins σ H s) (r : Vals vs us) (h : sp (vs ++ dvs) H Q E) : wpAny (model X.prog X.w) X.A (call (.ref f) us) (EP X pins σ Q) X.xe s := by
  have r2 : Vals (vs ++ dvs) (us ++ ds) := r.append hd
  have hl : (us ++ ds).length = ps.length := by rw [← r2.length]; exact F.len _ _ _ _ h
  refine wpAny_call (codeAny_mono (F.run X.A X.stack s H ⟨us, []⟩ (us ++ ds) (vs ++ dvs) Q E hr I.env0 (hb s us I.kIn hl) r2 h) fun r s' hq => ?_)
  cases r with
  | error e => exact hx pins σ H s e s' I hq
  | ok fl =>
    cases fl with
    | ret u => exact I.after hq
    | next => exact False.elim hq
    | brk => exact False.elim hq
    | cont => exact False.elim hq
theorem pe_call (F : FnOk X.prog X.w X.K X.mg X.base CX k f fd ps sp) (hr : Room k X.A) (hg : Gl X x) (hm : X.mg x = some (.ref f)) (hk : PySem.W.keepIn X.K (.ref f) = true) (hb : Binds X.K fd ps ds) (hd : Vals dvs ds) (hx : Passes CX X E)
    (ha : PA X (e :: es) t) (hdb : (x == ("__debug__" : Str)) = false := by decide) (he : starEach (e :: es) X.env = (false, eval e X.env) :: starEach es X.env := by rfl) (hpl : (backTo pos (starEach es X.env)).any (·.1) = false := by rfl) :
    PE X (.Call (.Name x p) (e :: es) [] pos) (tCall sp dvs E t) := by
  intro pins s σ H Q I h
  refine wpAny_Call_Name_kw (ld_glob I hg hm ?_ hdb)
  refine PySem.W.callWith_K (h₀ := X.base) I.ok.mod.kin hk (thn (ha pos pins s σ H _ I h) fun us s1 ⟨vs, H1, I1, r, q⟩ => ⟨I1.kIn, ?_⟩) he hpl
  exact run_fn F hr hb hd hx I1 r q
/-- what a class must have to be made -/
structure Mk (K : PySem.W.Frag) (C f : Addr) : Prop where
  makes : PySem.W.makesIn K C = true
  init : PySem.W.findIn K (.ref C) "__init__" = some (some (.ref f))
  fn : PySem.W.isFn K (.ref f) = true
  kp : PySem.W.keepIn K (.ref C) = true
end
/-- the values of the keywords, from the left -/
def PK (X : Cx) (kws : List Keyword) (t : TA) : Prop :=
  ∀ (pos : Pos) (pins : List (Addr × Obj)) (s : Shared) (σ : St) (H : Hp) (Q : List V → Hp → Prop), Inv X pins σ H s → t σ H Q → wpAny (model X.prog X.w) X.A (evalAll ((backToKw pos (keywordEach kws X.env)).map (·.2))) (AP X pins σ Q) X.xe s
section
variable {X : Cx} {CX : CXT} {k : Nat} {f C : Addr} {fd : FuncData} {ps ks : List Str} {sp : Sp} {E : XK} {x m : Str} {p pos apos kpos : Pos} {e o : Expr} {es : List Expr} {kws : List Keyword} {te ta : TE} {t tk : TA} {nm : Option Str}
/-- how a call with keywords binds: g puts the positional values us and the keywords' values ws (names ks) in the parameters' order, defaults among them -/
structure KBinds (K : PySem.W.Frag) (fd : FuncData) (ps ks : List Str) (g : List Value → List Value → List Value) (gV : List V → List V → List V) : Prop where
  to : ∀ (s : Shared) (us ws : List Value), K.In s.heap → (g us ws).length = ps.length → BindsTo s fd ⟨us, ks.zip ws⟩ (ps.zip (g us ws))
  rel : ∀ {vs : List V} {us : List Value} {zs : List V} {ws : List Value}, Vals vs us → Vals zs ws → Vals (gV vs zs) (g us ws)
def tCallK (sp : Sp) (gV : List V → List V → List V) (E : XK) (t tk : TA) : TE := fun σ H Q => t σ H fun vs H1 => tk σ H1 fun zs H2 => sp (gV vs zs) H2 Q E
variable {g : List Value → List Value → List Value} {gV : List V → List V → List V}
end
/-- names: the parameters first -/
structure FnScope (N P : List Str) (sc : Scope) : Prop where
  kind : sc.kind = .function
  co : sc.isCoroutine = false
  gen : sc.isGenerator = false
  nd : N.Nodup
  pre : N.take P.length = P
  par : ∀ x ∈ P, sc.names.lookup x = some .local ∨ sc.names.lookup x = some .cell
  nofree : ∀ y ∈ sc.names, y.2 ≠ .free
theorem bindL_out {kindOf : Str → Option NameKind} {x : Str} : ∀ {binds : List (Str × Value)} {m : Str → Option Value}, (∀ v, (x, v) ∉ binds) → bindL kindOf binds m x = m x
  | [], _, _ => rfl
  | (n, v) :: r, m, h => by
    unfold bindL
    rw [bindL_out fun w hw => h w (List.mem_cons_of_mem _ hw)]
    split
    · have : x ≠ n := by rintro rfl; exact h v List.mem_cons_self
      simp [this]
    · rfl
theorem bindC_out {kindOf : Str → Option NameKind} {x : Str} : ∀ {binds : List (Str × Value)} {m : Str → Option Value}, (∀ v, (x, v) ∉ binds) → bindC kindOf binds m x = m x
  | [], _, _ => rfl
  | (n, v) :: r, m, h => by
    unfold bindC
    rw [bindC_out fun w hw => h w (List.mem_cons_of_mem _ hw)]
    split
    · rfl
    · have : x ≠ n := by rintro rfl; exact h v List.mem_cons_self
      simp [this]
theorem bindL_get {kindOf : Str → Option NameKind} {x : Str} {v : Value} : ∀ {P : List Str} {vs : List Value} {i : Nat} {m : Str → Option Value}, P.Nodup → P[i]? = some x → vs[i]? = some v → kindOf x = some .local →
    bindL kindOf (P.zip vs) m x = some v
  | [], _, _, _, _, h, _, _ => by simp at h
  | _ :: _, [], _, _, _, _, h, _ => by simp at h
  | p :: P, w :: vs, 0, m, nd, h1, h2, hk => by
    simp at h1 h2; subst h1; subst h2
    show bindL kindOf ((p, w) :: P.zip vs) m p = _
    unfold bindL
    rw [bindL_out fun v hv => (List.nodup_cons.mp nd).1 (List.of_mem_zip hv).1, if_pos hk]
    simp
  | p :: P, w :: vs, i + 1, m, nd, h1, h2, hk => by
    show bindL kindOf ((p, w) :: P.zip vs) m x = _
    unfold bindL
    exact bindL_get (i := i) (List.nodup_cons.mp nd).2 (by simpa using h1) (by simpa using h2) hk
theorem bindC_get {kindOf : Str → Option NameKind} {x : Str} {v : Value} : ∀ {P : List Str} {vs : List Value} {i : Nat} {m : Str → Option Value}, P.Nodup → P[i]? = some x → vs[i]? = some v → kindOf x ≠ some .local →
    bindC kindOf (P.zip vs) m x = some v
  | [], _, _, _, _, h, _, _ => by simp at h
  | _ :: _, [], _, _, _, _, h, _ => by simp at h
  | p :: P, w :: vs, 0, m, nd, h1, h2, hk => by
    simp at h1 h2; subst h1; subst h2
    show bindC kindOf ((p, w) :: P.zip vs) m p = _
    unfold bindC
    rw [bindC_out fun v hv => (List.nodup_cons.mp nd).1 (List.of_mem_zip hv).1, if_neg hk]
    simp
  | p :: P, w :: vs, i + 1, m, nd, h1, h2, hk => by
    show bindC kindOf ((p, w) :: P.zip vs) m x = _
    unfold bindC
    exact bindC_get (i := i) (List.nodup_cons.mp nd).2 (by simpa using h1) (by simpa using h2) hk
/-- the names' values at the entry -/
def start (N : List Str) (vs : List V) : St := vs.map some ++ List.replicate (N.length - vs.length) none
/-- the context of a def's body, at its entry; an exception leaves the frame, then lies as CX says -/
def cxOf (CX : CXT) (P : Program) (w : World) (K : PySem.W.Frag) (mg : Str → Option Value) (base : Heap) (N : List Str) (qual : Str) (scope : Scope) (f : Addr) (cd : Value) (A : Around) (outer : List Env) (s : Shared) (H : Hp) (E : XK) : Cx where
  prog := P
  w := w
  K := K
  mg := mg
  base := base
  A := A.deeper (envOfC qual scope s.heap.objs.size f cd)
  N := N
  s₀ := s
  H₀ := H
  env := envOfC qual scope s.heap.objs.size f cd
  outer := outer
  stack := envOfC qual scope s.heap.objs.size f cd :: outer
  ex := []
  calm := true
  fn := fun _ => true
  pn := []
  xe := fun e s' => wpAny (model P w) (A.deeper (envOfC qual scope s.heap.objs.size f cd)) (leaving (envOfC qual scope s.heap.objs.size f cd) e) (fun _ s'' => CX outer H s E e s'') (fun e' s'' => CX outer H s E e' s'') s'
theorem cell_has {sc : Scope} {n : Nat} {x : Str} (h : sc.names.lookup x = some .cell) : ∃ c, (cellsFrom n sc.names []).lookup x = some c := by
  have q := PySem.W.cellsFrom_some sc.names n [] (.inl h)
  exact Option.isSome_iff_exists.mp q
theorem inv_start {CX : CXT} {P : Program} {w : World} {K : PySem.W.Frag} {mg : Str → Option Value} {base : Heap} {N ps : List Str} {qual : Str} {scope : Scope} {f : Addr} {cd : Value} {A : Around} {outer : List Env} {s s1 : Shared} {H : Hp} {E : XK} {us : List Value} {vs : List V}
    (S : FnScope N ps scope) (hd : A.handled = none) (e0 : Env0 P w K mg base A outer s H) (hl : vs.length = ps.length) (r : Vals vs us)
    (x : InCallC s s.heap.objs.size (bindL (envOfC qual scope s.heap.objs.size f cd).kindOf (ps.zip us) fun _ => none) (cellsFrom (s.heap.objs.size + 1) scope.names []) (bindC (envOfC qual scope s.heap.objs.size f cd).kindOf (ps.zip us) fun _ => none) s1) :
    Inv (cxOf CX P w K mg base N qual scope f cd A outer s H E) [] (start N vs) H s1 := by
  have hpl : ps.length ≤ N.length := by have := congrArg List.length S.pre; rw [List.length_take] at this; omega
  obtain ⟨h1, tk, rfl, hk⟩ := x.done
  have noA : ∀ b : Addr, b ∉ (cxOf CX P w K mg base N qual scope f cd A outer s H E).ex := fun b z => absurd (show b ∈ ([] : List Addr) from z) (by simp)
  refine ⟨⟨e0.mod, S.kind, rfl, rfl, Nat.le_refl _, fun y z c h1 h2 => ?_, fun y hy => ?_, fun y c _ h => ?_, fun _ => hd, Around.frames_deeper e0.frames, .inr ⟨rfl, rfl⟩, fun b z => absurd z (noA b), e0.bs, e0.bsz, fun b _ _ => noA b, fun b z => absurd z (noA b), e0.funs, e0.frf⟩,
    rfl, e0.bare, Un.kept hk, ⟨_, x.toInCall.ns, fun i y v h1 h2 h3 => ?_⟩, fun y c h => ⟨_, x.cell y c h⟩, e0.hok.fresh (Nat.le_refl _), fun y c h => ?_, fun p hp => absurd (show p ∈ ([] : List (Addr × Obj)) from hp) (by simp), e0.hok.kept hk, ?_⟩
  · exact name_of_addr x.apart (PySem.mem_of_lookup h1) (PySem.mem_of_lookup h2)
  · have hy : scope.names.lookup y = some .cell ∨ scope.names.lookup y = some .free := hy
    rcases hy with hy | hy
    · exact cell_has hy
    · exact absurd rfl (S.nofree _ (PySem.mem_of_lookup hy))
  · exact Nat.le_of_lt (x.above y c (PySem.mem_of_lookup h))
  · have hi : i < vs.length := by
      unfold start at h2
      by_cases hi : i < vs.length
      · exact hi
      · rw [List.getElem?_append_right (by simpa using hi)] at h2
        rw [List.getElem?_replicate] at h2
        split at h2 <;> cases h2
    have ha : vs[i]? = some v := by
      unfold start at h2
      rw [List.getElem?_append_left (by simpa using hi), List.getElem?_map] at h2
      cases e : vs[i]? with
      | none => rw [e] at h2; cases h2
      | some a => rw [e] at h2; cases h2; rfl
    obtain ⟨u, hu, rv⟩ := r.get ha
    have hp : ps[i]? = some y := by
      rw [← S.pre, List.getElem?_take_of_lt (by omega)]; exact h1
    have ndP : ps.Nodup := by rw [← S.pre]; exact S.nd.sublist (List.take_sublist _ _)
    refine ⟨u, rv, ?_⟩
    rcases S.par y (List.mem_of_getElem? hp) with k | k
    · exact .inl ⟨k, bindL_get ndP hp hu k⟩
    · obtain ⟨c, e⟩ := cell_has (n := s.heap.objs.size + 1) k
      refine .inr ⟨.inl k, c, e, ?_⟩
      have q := x.cell y c e
      rw [bindC_get ndP hp hu (by show scope.names.lookup y ≠ _; rw [k]; decide)] at q
      exact q
  · exact e0.hok.fresh (Nat.le_of_lt (x.above y c (PySem.mem_of_lookup h)))
  · unfold start
    show _ = N.length
    rw [List.length_append, List.length_map, List.length_replicate]
    omega
/-- THE RULE: a def (or a method) of the text, by its body. The body's reading t is chosen for each entry; it is run at the parameters' values -/
theorem fn_of {CX : CXT} {P : Program} {w : World} {K : PySem.W.Frag} {mg : Str → Option Value} {base : Heap} {k : Nat} {f : Addr} {name qual : Str} {params : Arguments} {body : List Stmt} {scope : Scope} {dV kV doc pm cdv ct oc : Value} {an od : Option Addr}
    {osl : Array (Option Value)} {N ps : List Str} {sp : Sp} (lk : K.lookup f = some ⟨oc, od, .func (PySem.W.fnOf name qual params body scope dV kV doc pm an cdv ct), osl⟩) (hcd : PySem.W.codeIn K cdv qual = true) (S : FnScope N ps scope)
    (len : ∀ vs H Q E, sp vs H Q E → vs.length = ps.length)
    (hbody : ∀ (A : Around) (outer : List Env) (s : Shared) (H : Hp) (vs : List V) (Q : VK) (E : XK), Room k (A.deeper (envOfC qual scope s.heap.objs.size f cdv)) → sp vs H Q E →
      ∃ t, PSs (cxOf CX P w K mg base N qual scope f cdv A outer s H E) body t ∧ t { nx := fun _ H' => Q .non H', rt := Q } (start N vs) H) :
    FnOk P w K mg base CX (k + 1) f (PySem.W.fnOf name qual params body scope dV kV doc pm an cdv ct) ps sp := by
  refine ⟨len, fun A outer s H args us vs Q E hr e0 hb r hsp => ?_⟩
  have hl := len _ _ _ _ hsp
  have KX : K.In s.heap := e0.mod.kin.keeps fun b o e => (e0.bs b o e).1
  have lim : s.heap.NoLimit := e0.mod.nolimit.keeps fun b o e => (e0.bs b o e).1
  have hkind : ∀ y ∈ ps.zip us, scope.names.lookup y.1 = some .local ∨ (scope.names.lookup y.1 = some .cell ∧ ((cellsFrom (s.heap.objs.size + 1) scope.names []).lookup y.1).isSome = true) := fun ⟨n, v⟩ hy => by
    rcases S.par n (List.of_mem_zip hy).1 with q | q
    · exact .inl q
    · exact .inr ⟨q, PySem.W.cellsFrom_some _ _ _ (.inl q)⟩
  refine codeAny_call_function hr.depth (KX _ _ lk) rfl S.co S.gen rfl (PySem.W.codeRec_of KX hcd) (hb _ _ _ _ ?_)
  refine wpAny_newFunctionEnv_cells S.kind hkind fun env he s1 x => ?_
  subst he
  refine ⟨lim.keeps x.toInCall.keep, codeAny_func ?_⟩
  obtain ⟨t, ht, hq⟩ := hbody A outer s H vs Q E (hr.deeper _) hsp
  have I : Inv (cxOf CX P w K mg base N qual scope f cdv A outer s H E) [] (start N vs) H s1 := inv_start S hr.hd e0 hl r x
  refine wpAny_mono (ht [] s1 (start N vs) H _ I hq) (fun fl s' hs => ?_) fun e s' hs => hs
  have fin : ∀ {σ' : St} {H' : Hp} {v : V} {u : Value}, Inv (cxOf CX P w K mg base N qual scope f cdv A outer s H E) [] σ' H' s' → RelV v u → Q v H' → CE outer P w H s Q u s' :=
    fun {σ' H' v u} J rv q => ⟨v, H', J.os, J.bare, J.base, J.hok, rv, q⟩
  cases fl with
  | ret u =>
    obtain ⟨v, σ', H', J, rv, q⟩ := hs
    exact fin J rv q
  | next =>
    obtain ⟨σ', H', J, q⟩ := hs
    exact fin (v := V.non) (u := Value.none) J rfl q
  | brk =>
    obtain ⟨_, _, _, q⟩ := hs
    exact False.elim q
  | cont =>
    obtain ⟨_, _, _, q⟩ := hs
    exact False.elim q
end L2
namespace L2
open PySem PySem.Spec PyProof.Rows
section
variable {X : Cx} {x : Str} {p pos : Pos} {e : Expr} {es : List Expr} {t : TA} {id T : String} {r : List V → Hp → VK → Prop}
def tCB (r : List V → Hp → VK → Prop) (t : TA) : TE := fun σ H Q => t σ H fun vs H1 => r vs H1 Q
/-- f(e, ..), f a built-in function -/
theorem pe_callB (hc : CallR X (.builtin id) r) (hg : Gl X x) (hm : X.mg x = none) (hv : bootBuiltins x = some (.builtin id)) (ha : PA X (e :: es) t) (hn : x ≠ "__name__" := by decide) (hdb : (x == ("__debug__" : Str)) = false := by decide)
    (he : starEach (e :: es) X.env = (false, eval e X.env) :: starEach es X.env := by rfl) (hpl : (backTo pos (starEach es X.env)).any (·.1) = false := by rfl) : PE X (.Call (.Name x p) (e :: es) [] pos) (tCB r t) := by
  intro pins s σ H Q I h
  refine wpAny_Call_Name_kw (ld_blt I hg hm hv ?_ hn hdb)
  exact PyProof.Rows.callWith_builtin1 (thn (ha pos pins s σ H _ I h) fun us s1 ⟨vs, H1, I1, r1, q1⟩ => hc pins s1 σ H1 vs us Q I1 r1 q1) he hpl
/-- T(e, ..), T a built-in type -/
theorem pe_callTy (hc : CallR X (.type T) r) (hg : Gl X x) (hm : X.mg x = none) (hv : bootBuiltins x = some (.type T)) (ha : PA X (e :: es) t) (hn : x ≠ "__name__" := by decide) (hdb : (x == ("__debug__" : Str)) = false := by decide)
    (he : starEach (e :: es) X.env = (false, eval e X.env) :: starEach es X.env := by rfl) (hpl : (backTo pos (starEach es X.env)).any (·.1) = false := by rfl) : PE X (.Call (.Name x p) (e :: es) [] pos) (tCB r t) := by
  intro pins s σ H Q I h
  refine wpAny_Call_Name_kw (ld_blt I hg hm hv ?_ hn hdb)
  exact PyProof.Rows.callWith_type1 (thn (ha pos pins s σ H _ I h) fun us s1 ⟨vs, H1, I1, r1, q1⟩ => hc pins s1 σ H1 vs us Q I1 r1 q1) he hpl
end
end L2
namespace HT
open PySem PyProof.Rows
/-- t < u of tuples of ints -/
def lexLt : List Int → List Int → Bool
  | [], [] => false
  | [], _ :: _ => true
  | _ :: _, [] => false
  | x :: xs, y :: ys => if x = y then lexLt xs ys else decide (x < y)
section
open PySem.SeqAt
open PySem.AutoSeq1 (wpAny_loadPart')
open PySem.MeetsSeq PySem.MeetsSeq2 PySem.MeetsSeq3
end
section
variable {prog : Program} {w : World} {A : Around} {E : Value → Shared → Prop} {s : Shared}
/-- t + u, t not empty -/
theorem cat_tup {t b : Addr} {vs ws : List Value} {Q : Value → Shared → Prop} (ht : IsTup s.heap t vs.toArray) (hb : IsTup s.heap b ws.toArray) (hv : vs ≠ [])
    (h1 : ws = [] → Q (.ref t) s) (h2 : ws ≠ [] → Q (.ref s.heap.objs.size) { s with heap := s.heap.push { cls := .type "tuple", data := .seq (vs ++ ws).toArray } })
    (hsz : vs.length + ws.length ≤ sizeLine) : wpAny (model prog w) A (binaryOp .Add (.ref t) (.ref b)) Q E s := by
  obtain ⟨⟨cls, dd, data, sl⟩, ho, hc, n, hd⟩ := id ht
  obtain ⟨⟨cls2, dd2, data2, sl2⟩, ho2, hc2, n2, hd2⟩ := id hb
  simp only at hc hd hc2 hd2
  subst hc hd hc2 hd2
  have e : vs.toArray ++ ws.toArray = (vs ++ ws).toArray := by simp
  by_cases hw : ws = []
  · exact concat_meets ⟨_, ho, rfl⟩ ⟨_, ho2, rfl⟩ noFill_tuple_add seq_tuple_add PySem.F.slot_tuple_add PySem.F.entry_tuple_add (PySem.F.args_tuple_add_2 _ _)
      (tuple_addW1 t b vs.toArray ws.toArray n n2 dd dd2 sl sl2 (by simpa using hv) (by simp [hw])) ⟨ho, ho2, h1 hw⟩
  · refine concat_meets ⟨_, ho, rfl⟩ ⟨_, ho2, rfl⟩ noFill_tuple_add seq_tuple_add PySem.F.slot_tuple_add PySem.F.entry_tuple_add (PySem.F.args_tuple_add_2 _ _)
      (tuple_addW2 t b vs.toArray ws.toArray n n2 dd dd2 sl sl2 (by simpa using hv) (by simpa using hw) (by rw [List.size_toArray, List.size_toArray]; exact hsz)) ⟨ho, ho2, ?_⟩
    rw [e]
    exact h2 hw
/-- a slice's bound as a place among n (d where it is left out) -/
def sIx (n d : Nat) : Option Int → Nat
  | none => d
  | some v => if v < 0 then (v + (n : Int)).toNat else min v.toNat n
theorem sIx_le (n d : Nat) (hd : d ≤ n) (o : Option Int) : sIx n d o ≤ n := by
  cases o with
  | none => exact hd
  | some v =>
    show (if v < 0 then (v + (n : Int)).toNat else min v.toNat n) ≤ n
    by_cases hv : v < 0
    · rw [if_pos hv]; omega
    · rw [if_neg hv]; exact Nat.min_le_right _ _
theorem clip_eq (v : Int) (n d : Nat) : (if v < 0 then max (v + (n : Int)) 0 else min v (n : Int)) = ((sIx n d (some v) : Nat) : Int) := by
  show (if v < 0 then max (v + (n : Int)) 0 else min v (n : Int)) = (((if v < 0 then (v + (n : Int)).toNat else min v.toNat n) : Nat) : Int)
  by_cases hv : v < 0
  · simp only [if_pos hv]; omega
  · simp only [if_neg hv]; omega
theorem adjust_gen (lo hi : Option Int) (n : Nat) : Builtin.Slice.sliceAdjust lo hi 1 (n : Int) = (((sIx n 0 lo : Nat) : Int), ((sIx n n hi : Nat) : Int)) := by
  have h1 : ¬ ((1 : Int) < 0) := by omega
  unfold Builtin.Slice.sliceAdjust
  simp only [h1, if_false]
  refine Prod.ext ?_ ?_
  · cases lo with
    | none => rfl
    | some v => exact clip_eq v n 0
  · cases hi with
    | none => rfl
    | some v => exact clip_eq v n n
theorem places_gen (i j : Nat) : Builtin.Slice.slicePlaces (i : Int) (j : Int) 1 = j - i := by
  unfold Builtin.Slice.slicePlaces
  have h1 : (1 : Int) > 0 := by omega
  simp only [h1, if_true, Int.ediv_one]
  split <;> omega
theorem slicePart_ {v : Value} {o : Option Int} {Q : Option Int → Shared → Prop} (p : IsPart v o) (h : Q o s) : wpAny (model prog w) A (Builtin.Slice.slicePartIndex v) Q E s := by
  cases p with
  | none => exact slicePart_none h
  | int i t => exact slicePart_int h
theorem sliceApplied_gen {sl : Addr} {vl vu : Value} {lo hi : Option Int} {n : Nat} {Q : Int × Int × Nat → Shared → Prop} (hs : s.heap.IsSliceOf sl vl vu .none) (pl : IsPart vl lo) (pu : IsPart vu hi)
    (h : Q (((sIx n 0 lo : Nat) : Int), 1, sIx n n hi - sIx n 0 lo) s) : wpAny (model prog w) A (Builtin.Slice.sliceApplied (.ref sl) (pure (n : Int))) Q E s := by
  obtain ⟨os, hos, hcs, hds⟩ := id hs
  unfold Builtin.Slice.sliceApplied Builtin.Slice.sliceFields
  refine wpAny_bind (wpAny_bind (wpAny_field hos hds (x := vl) rfl (wpAny_bind (wpAny_field hos hds (x := vu) rfl (wpAny_bind (wpAny_field hos hds (x := .none) rfl (wpAny_pure ?_)))))))
  refine wpAny_bind (slicePart_none ?_)
  show wpAny _ _ (if ((1 : Int) == 0) = true then _ else _) _ _ s
  rw [if_neg (by decide)]
  refine wpAny_bind (slicePart_ pl (wpAny_bind (slicePart_ pu (wpAny_bind (wpAny_pure ?_)))))
  show wpAny _ _ (match Builtin.Slice.sliceAdjust lo hi 1 (n : Int) with | (lo, hi) => pure (lo, (1 : Int), Builtin.Slice.slicePlaces lo hi 1)) _ _ s
  rw [adjust_gen lo hi n]
  show wpAny _ _ (pure (((sIx n 0 lo : Nat) : Int), (1 : Int), Builtin.Slice.slicePlaces ((sIx n 0 lo : Nat) : Int) ((sIx n n hi : Nat) : Int) 1)) _ _ s
  rw [places_gen]
  exact wpAny_pure h
theorem pick_gen (xs : Array Value) (i k : Nat) : ((List.range k).filterMap fun (m : Nat) => xs[((i : Int) + (m : Int) * 1).toNat]?).toArray = ((xs.toList.drop i).take k).toArray := by
  have e : (fun (m : Nat) => xs[((i : Int) + (m : Int) * 1).toNat]?) = fun m => xs[i + m]? := by
    funext m
    have : ((i : Int) + (m : Int) * 1).toNat = i + m := by omega
    rw [this]
  rw [e]
  have := pick_run xs i k
  rw [List.filterMap_map] at this
  have e2 : ((fun x => xs[x]?) ∘ fun x => i + x) = fun m => xs[i + m]? := rfl
  rw [e2] at this
  rw [this]
theorem getItem_tuple_cut {t sl : Addr} {items : Array Value} {vl vu : Value} {lo hi : Option Int} {Q : Value → Shared → Prop} (ht : IsTup s.heap t items) (hs : s.heap.IsSliceOf sl vl vu .none) (pl : IsPart vl lo) (pu : IsPart vu hi)
    (hw : ¬ (sIx items.size 0 lo = 0 ∧ sIx items.size items.size hi = items.size))
    (h : Q (.ref s.heap.objs.size) { s with heap := s.heap.push { cls := .type "tuple", data := .seq ((items.toList.drop (sIx items.size 0 lo)).take (sIx items.size items.size hi - sIx items.size 0 lo)).toArray } })
    (hsz : items.size ≤ sizeLine) : wpAny (model prog w) A (getItem (.ref t) (.ref sl)) Q E s := by
  have htake : sizeOk (.seq ((items.toList.drop (sIx items.size 0 lo)).take (sIx items.size items.size hi - sIx items.size 0 lo)).toArray) := by
    show ((items.toList.drop (sIx items.size 0 lo)).take (sIx items.size items.size hi - sIx items.size 0 lo)).toArray.size ≤ sizeLine
    rw [List.size_toArray, List.length_take, List.length_drop, Array.length_toList]
    omega
  have hj : sIx items.size items.size hi ≤ items.size := sIx_le _ _ (Nat.le_refl _) hi
  obtain ⟨os, hos, hcs, hds⟩ := id hs
  have hTs : s.TypeIs (.ref sl) "slice" := ⟨os, hos, hcs⟩
  unfold getItem
  try with_reducible refine wpAny_holding ?_
  first | refine wpAny_bind (wpAny_pure ?_) | skip
  refine wpAny_bind (wpAny_sequenceKey ht.typeIs (by decide) ?_)
  refine wpAny_bind (wpAny_callSpecial?_slot (name := Str.ofString "__getitem__") ht.typeIs PyProof.Rows.slot_tuple_getitem
    (wpAny_call_entry PyProof.Rows.slot_tuple_getitem ht.typeIs entry_tuple_getitem ?_ (args_tuple_getitem _ _)))
  show wpAny _ _ (Builtin.Tuple.tupleItemsOf (.ref t) >>= _) _ _ s
  refine wpAny_bind (tupleItemsOf_ ht ?_)
  refine wpAny_bind (wpAny_typeOf hTs ?_)
  rw [if_pos (by decide)]
  refine wpAny_bind (sliceApplied_gen hs pl pu ?_)
  have hno : ¬ ((((sIx items.size 0 lo : Nat) : Int) == 0 && (1 : Int) == 1 && (sIx items.size items.size hi - sIx items.size 0 lo) == items.size) = true) := by
    intro q
    rw [Bool.and_eq_true, Bool.and_eq_true] at q
    have q1 : ((sIx items.size 0 lo : Nat) : Int) = 0 := eq_of_beq q.1.1
    have q2 : sIx items.size items.size hi - sIx items.size 0 lo = items.size := eq_of_beq q.2
    exact hw ⟨by omega, by omega⟩
  show wpAny _ _ (if (((sIx items.size 0 lo : Nat) : Int) == 0 && (1 : Int) == 1 && (sIx items.size items.size hi - sIx items.size 0 lo) == items.size) = true then _ else _) _ _ s
  rw [if_neg hno, pick_gen]
  first
    | exact wpAny_bind (m := Builtin.Tuple.tupleExact _) (wpAny_newObj_type (wpAny_pure ⟨_, rfl, wpAny_pure h⟩) htake)
    | exact wpAny_bind (m := Builtin.Tuple.tupleExact _) (wpAny_newObj_type (wpAny_bind (wpAny_pure (wpAny_pure ⟨_, rfl, wpAny_pure h⟩))) htake)
    | exact wpAny_bind (wpAny_bind (m := Builtin.Tuple.tupleExact _) (wpAny_newObj_type (wpAny_pure (wpAny_pure ⟨_, rfl, wpAny_pure h⟩)) htake))
    | exact wpAny_bind (wpAny_bind (m := Builtin.Tuple.tupleExact _) (wpAny_newObj_type (wpAny_pure ⟨_, rfl, wpAny_pure h⟩) htake))
end
end HT
namespace L2
open PySem PySem.Spec PyProof.Rows
abbrev TO := St → Hp → (Option Int → Hp → Prop) → Prop
/-- a slice's part (left out, or an int) -/
def PO (X : Cx) (e : Option Expr) (t : TO) : Prop :=
  ∀ (pins : List (Addr × Obj)) (s : Shared) (σ : St) (H : Hp) (Q : Option Int → Hp → Prop), Inv X pins σ H s → t σ H Q →
    wpAny (model X.prog X.w) X.A (evalPart e X.env) (fun u s' => ∃ o H', Inv X pins σ H' s' ∧ IsPart u o ∧ Q o H') X.xe s
def tNoPart : TO := fun _ H Q => Q none H
def tPart (t : TE) : TO := fun σ H Q => t σ H fun x H1 => ∃ i, x = .int i ∧ Q (some i) H1
theorem intsAre_of {ns : List Int} : ∀ {us : List Value}, Vals (ns.map V.int) us → IntsAre us ns := by
  induction ns with
  | nil => intro us r; rw [List.map_nil] at r; cases r; exact .nil
  | cons n ns ih =>
    intro us r
    rw [List.map_cons] at r
    cases r with
    | cons r1 r2 =>
      obtain ⟨t, e⟩ := r1
      subst e
      exact .cons n t (ih r2)
section
variable {X : Cx} {e : Expr} {te : TE} {lo hi : Option Expr} {tl th : TO} {pos p2 : Pos}
theorem po_none : PO X none tNoPart := by
  intro pins s σ H Q I h
  rw [evalPart_none]
  exact wpAny_pure ⟨none, H, I, .none, h⟩
theorem po_some (h : PE X e te) : PO X (some e) (tPart te) := by
  intro pins s σ H Q I hw
  rw [evalPart_some]
  refine thn (h pins s σ H _ I hw) fun u s1 ⟨x, H1, I1, r1, q1⟩ => ?_
  obtain ⟨i, rfl, q⟩ := q1
  obtain ⟨t, rfl⟩ := r1
  exact ⟨some i, H1, I1, .int i t, q⟩
/-- what a slice of a value is, by values: the slice object stands at sl -/
def SlR (X : Cx) (r : V → Option Int → Option Int → Hp → VK → Prop) : Prop :=
  ∀ (pins : List (Addr × Obj)) (s : Shared) (σ : St) (H : Hp) (x : V) (v vl vu : Value) (lo hi : Option Int) (sl : Addr) (Q : VK), Inv X pins σ H s → RelV x v → s.heap.IsSliceOf sl vl vu .none → IsPart vl lo → IsPart vu hi → r x lo hi H Q →
    ∃ T id, typeLookup (.type T) "__getitem__" = pure (some (.builtin id)) ∧ s.TypeIs v T ∧ wpAny (model X.prog X.w) X.A (getItem v (.ref sl)) (EP X pins σ Q) X.xe s
def tSl (r : V → Option Int → Option Int → Hp → VK → Prop) (te : TE) (tl th : TO) : TE := fun σ H Q => te σ H fun x H1 => tl σ H1 fun l H2 => th σ H2 fun u H3 => r x l u H3 Q
/-- a[lo:hi], any a -/
theorem pe_slice {r : V → Option Int → Option Int → Hp → VK → Prop} (hr : SlR X r) (he : PE X e te) (hl : PO X lo tl) (hu : PO X hi th) : PE X (.Subscript e (.Slice lo hi none p2) pos) (tSl r te tl th) := by
  intro pins s σ H Q I h
  refine Subscript_ (thn (he pins s σ H _ I h) fun v s1 ⟨x, H1, I1, r1, q1⟩ => ?_)
  refine wpAny_Slice (thn (hl pins s1 σ H1 _ I1 q1) fun vl s2 ⟨l, H2, I2, pl, q2⟩ => thn (hu pins s2 σ H2 _ I2 q2) fun vu s3 ⟨u, H3, I3, pu, q3⟩ => ?_)
  rw [evalPart_none]
  refine wpAny_pure ?_
  have I4 : Inv X pins σ H3 { s3 with heap := s3.heap.push { cls := .type "slice", data := .fields #[vl, vu, .none] } } := I3.kept (t' := s3.toks) fun b ob q => Heap.get?_push_of_some _ q
  obtain ⟨T, id, hT, ht, hg⟩ := hr pins { s3 with heap := s3.heap.push { cls := .type "slice", data := .fields #[vl, vu, .none] } } σ H3 x v vl vu l u s3.heap.objs.size Q I4 r1 (Heap.IsSliceOf.new ..) pl pu q3
  show wpAny (model X.prog X.w) X.A (subscriptTail e (.Slice lo hi none p2) v (.ref s3.heap.objs.size)) (EP X pins σ Q) X.xe { s3 with heap := s3.heap.push { cls := .type "slice", data := .fields #[vl, vu, .none] } }
  exact tail_any (ops := [.ref s3.heap.objs.size, v]) ht hT hg (by with_unfolding_all rfl)
/-- the items of xs[lo:hi] -/
def cutV (xs : List V) (lo hi : Option Int) : List V := (xs.drop (HT.sIx xs.length 0 lo)).take (HT.sIx xs.length xs.length hi - HT.sIx xs.length 0 lo)
theorem cutV_length (xs : List V) (lo hi : Option Int) : (cutV xs lo hi).length ≤ xs.length := by
  unfold cutV
  rw [List.length_take, List.length_drop]
  omega
/-- t[lo:hi], not the whole of it (the whole would be t itself) -/
def rSlT (K : PySem.W.Frag) : V → Option Int → Option Int → Hp → VK → Prop := fun x lo hi H Q => ∃ a xs, x = .ref a ∧ SqT K H a xs ∧
  ¬ (HT.sIx xs.length 0 lo = 0 ∧ HT.sIx xs.length xs.length hi = xs.length) ∧ ∀ p, H p = none → Q (.ref p) (upd H p (.tup (cutV xs lo hi)))
theorem sl_tup : SlR X (rSlT X.K) := by
  intro pins s σ H x v vl vu lo hi sl Q I rx hs pl pu h
  obtain ⟨a, xs, rfl, hx, hw, q⟩ := h
  cases rx
  obtain ⟨its, r, ht, hz⟩ := I.tuple hx
  have hlen : its.toArray.size = xs.length := by rw [List.size_toArray]; exact r.length.symm
  refine ⟨"tuple", _, PyProof.Rows.slot_tuple_getitem.lookup, ht.typeIs, ?_⟩
  refine HT.getItem_tuple_cut ht hs pl pu (by rw [hlen]; exact hw) ?_ (by rw [hlen]; exact hz)
  rw [hlen]
  refine ⟨.ref s.heap.objs.size, _, I.laid (t' := s.toks) (o := .tup (cutV xs lo hi)) (fun b ob q => Heap.get?_push_of_some _ q) (Nat.le_refl _) ?_, rfl, q _ (I.hok.fresh (Nat.le_refl _))⟩
  exact ⟨Nat.le_trans (cutV_length xs lo hi) hz, _, (r.drop (HT.sIx xs.length 0 lo)).take (HT.sIx xs.length xs.length hi - HT.sIx xs.length 0 lo), IsTup.new _ _⟩
def rLtT (K : PySem.W.Frag) : R2 := fun x y H Q => ∃ a b ns ms, x = .ref a ∧ y = .ref b ∧ SqT K H a (ns.map V.int) ∧ SqT K H b (ms.map V.int) ∧ Q (.bl (HT.lexLt ns ms)) H
/-- t + u, t not empty: u empty gives t itself -/
def rCatT (K : PySem.W.Frag) : R2 := fun x y H Q => ∃ a b xs ys, x = .ref a ∧ y = .ref b ∧ SqT K H a xs ∧ SqT K H b ys ∧ xs ≠ [] ∧ xs.length + ys.length ≤ sizeLine ∧
  (ys = [] → Q (.ref a) H) ∧ (ys ≠ [] → ∀ p, H p = none → Q (.ref p) (upd H p (.tup (xs ++ ys))))
theorem Vals.nil_iff {xs : List V} {us : List Value} (r : Vals xs us) : us = [] ↔ xs = [] := by
  cases r with
  | nil => simp
  | cons _ _ => simp
theorem op_catT : OpR X (binaryOp .Add) (rCatT X.K) := by
  intro pins s σ H x y v u Q I rx ry h
  obtain ⟨a, b, xs, ys, rfl, rfl, ha, hb, hx, hz, q1, q2⟩ := h
  cases rx
  cases ry
  obtain ⟨its, r1, p1, _⟩ := I.tuple ha
  obtain ⟨its2, r2, p2, _⟩ := I.tuple hb
  refine HT.cat_tup p1 p2 (fun z => hx (r1.nil_iff.mp z)) (fun z => ⟨.ref a, H, I, rfl, q1 (r2.nil_iff.mp z)⟩) (fun z => ?_) (by rw [← r1.length, ← r2.length]; exact hz)
  refine ⟨.ref s.heap.objs.size, _, I.laid (t' := s.toks) (o := .tup (xs ++ ys)) (fun b ob q => Heap.get?_push_of_some _ q) (Nat.le_refl _) ?_, rfl, q2 (fun w => z (r2.nil_iff.mpr w)) _ (I.hok.fresh (Nat.le_refl _))⟩
  exact ⟨by rw [List.length_append]; exact hz, _, r1.append r2, IsTup.new _ _⟩
end
end L2
namespace L2
open PySem PySem.Spec PyProof.Rows
/-- the place that an index of any sign means -/
def ixN (n : Nat) (i : Int) : Option Nat := if 0 ≤ i then (if i < n then some i.toNat else none) else if -(n : Int) ≤ i then some (i + n).toNat else none
def atI {α : Type} (xs : List α) (i : Int) : Option α := (ixN xs.length i).bind fun j => xs[j]?
theorem ixN_seq {n : Nat} {i : Int} {j : Nat} (h : ixN n i = some j) : seqIndex? i n = some j ∧ j < n ∧ -(n : Int) ≤ i ∧ i < n := by
  unfold ixN at h
  by_cases h0 : 0 ≤ i
  · rw [if_pos h0] at h
    by_cases h1 : i < n
    · rw [if_pos h1] at h
      have e : i.toNat = j := Option.some.inj h
      exact ⟨by rw [seqIndex_of h0 h1, e], by omega, by omega, h1⟩
    · rw [if_neg h1] at h; cases h
  · rw [if_neg h0] at h
    by_cases h1 : -(n : Int) ≤ i
    · rw [if_pos h1] at h
      have e : (i + n).toNat = j := Option.some.inj h
      exact ⟨by rw [seqIndex_neg (by omega) h1, e], by omega, h1, by omega⟩
    · rw [if_neg h1] at h; cases h
theorem atI_get {α : Type} {xs : List α} {i : Int} {v : α} (h : atI xs i = some v) : ∃ j, seqIndex? i xs.length = some j ∧ xs[j]? = some v ∧ j < xs.length ∧ -(xs.length : Int) ≤ i ∧ i < xs.length := by
  unfold atI at h
  cases e : ixN xs.length i with
  | none => rw [e] at h; cases h
  | some j =>
    rw [e] at h
    obtain ⟨h1, h2, h3, h4⟩ := ixN_seq e
    exact ⟨j, h1, h, h2, h3, h4⟩
theorem atI_nat {α : Type} {xs : List α} {j : Nat} {v : α} (h : xs[j]? = some v) : atI xs (j : Int) = some v := by
  have hj : j < xs.length := (List.getElem?_eq_some_iff.mp h).1
  have e : ixN xs.length (j : Int) = some j := by
    unfold ixN
    rw [if_pos (by omega), if_pos (by omega)]; simp
  unfold atI; rw [e]; exact h
/-- what stands as an index of a plain subscript -/
def PlainIx (b : Expr) : Prop := ∀ o i, subscripted b false o i = operate [o, i] (getItem o i)
/-- a subscript by values -/
def IxR (X : Cx) (r : R2) : Prop :=
  ∀ (value slice : Expr) (pins : List (Addr × Obj)) (s : Shared) (σ : St) (H : Hp) (x y : V) (v u : Value) (Q : VK), Inv X pins σ H s → RelV x v → RelV y u → r x y H Q →
    subscripted slice false v u = operate [v, u] (getItem v u) → wpAny (model X.prog X.w) X.A (subscriptTail value slice v u) (EP X pins σ Q) X.xe s
/-- a call of a builtin's method by values: the receiver, the arguments -/
def MtR (X : Cx) (id : String) (r : V → List V → Hp → VK → Prop) : Prop :=
  ∀ (pins : List (Addr × Obj)) (s : Shared) (σ : St) (H : Hp) (x : V) (xs : List V) (v : Value) (us : List Value) (Q : VK), Inv X pins σ H s → RelV x v → Vals xs us → r x xs H Q →
    wpAny (model X.prog X.w) X.A (call (.builtin id) (v :: us)) (EP X pins σ Q) X.xe s
section
variable {X : Cx} {a b : Expr} {ta tb : TE} {pos : Pos}
/-- a[b] -/
theorem pe_ix {r : R2} (hr : IxR X r) (ha : PE X a ta) (hb : PE X b tb) (hs : PlainIx b) : PE X (.Subscript a b pos) (tOp r ta tb) := by
  intro pins s σ H Q I h
  exact Subscript_ (binT ha hb I h fun v u s2 x y H2 I2 rx ry q => hr a b pins s2 σ H2 x y v u Q I2 rx ry q (hs _ _))
def rIxL (K : PySem.W.Frag) : R2 := fun x y H Q => ∃ p xs i v, x = .ref p ∧ y = .int i ∧ SqL K H p xs ∧ atI xs i = some v ∧ Q v H
def rIxT (K : PySem.W.Frag) : R2 := fun x y H Q => ∃ p xs i v, x = .ref p ∧ y = .int i ∧ SqT K H p xs ∧ atI xs i = some v ∧ Q v H
def rIxS : R2 := fun x y H Q => ∃ z i c, x = .str z ∧ y = .int i ∧ z.length ≤ sizeLine ∧ atI z.cps.toList i = some c ∧ Q (.str ⟨#[c]⟩) H
theorem ix_list : IxR X (rIxL X.K) := by
  intro value slice pins s σ H x y v u Q I rx ry h hs
  obtain ⟨p, xs, i, z, rfl, rfl, hq, he, q⟩ := h
  cases rx
  obtain ⟨t, rfl⟩ := ry
  obtain ⟨its, r, pl, hz⟩ := I.list hq
  obtain ⟨j, h1, h2, h3, h4, h5⟩ := atI_get he
  obtain ⟨w, ew, rw'⟩ := r.get h2
  have hl := r.length
  have hn := line63
  have fin : EP X pins σ Q w s := ⟨z, H, I, rw', q⟩
  by_cases h0 : 0 ≤ i
  · have hj : i.toNat = j := by
      rw [seqIndex_of h0 h5] at h1
      exact Option.some.inj h1
    exact item_listR pl.isList h0 (by omega) (by rw [hj]; simpa using ew) fin hs
  · have hj : (i + (its.toArray.size : Int)).toNat = j := by
      rw [seqIndex_neg (by omega) h4] at h1
      rw [List.size_toArray, ← hl]
      exact Option.some.inj h1
    exact subscriptTail_builtinR (x := w) pl.isList.typeIs slot_list_getitem.lookup
      (wpAny_getItem_list_neg (Q := fun r s' => r = w ∧ EP X pins σ Q r s') pl.isList (by omega) (by rw [List.size_toArray] <;> omega) (by omega) (by rw [hj]; simpa using ew) ⟨rfl, fin⟩) hs
theorem ix_tup : IxR X (rIxT X.K) := by
  intro value slice pins s σ H x y v u Q I rx ry h hs
  obtain ⟨p, xs, i, z, rfl, rfl, hq, he, q⟩ := h
  cases rx
  obtain ⟨t, rfl⟩ := ry
  obtain ⟨its, r, pl, hz⟩ := I.tuple hq
  obtain ⟨j, h1, h2, h3, h4, h5⟩ := atI_get he
  obtain ⟨w, ew, rw'⟩ := r.get h2
  have hl := r.length
  have hn := line63
  have fin : EP X pins σ Q w s := ⟨z, H, I, rw', q⟩
  exact subscriptTail_builtinR (x := w) pl.typeIs slot_tuple_getitem.lookup
    (getItem_tuple (j := j) (Q := fun r s' => r = w ∧ EP X pins σ Q r s') pl (by omega) (by omega) (by rw [List.size_toArray, ← hl]; exact h1) (by simpa using ew) ⟨rfl, fin⟩) hs
theorem ix_str : IxR X rIxS := by
  intro value slice pins s σ H x y v u Q I rx ry h hs
  obtain ⟨z, i, c, rfl, rfl, hz, he, q⟩ := h
  obtain ⟨t, rfl⟩ := rx
  obtain ⟨t', rfl⟩ := ry
  obtain ⟨j, h1, h2, h3, h4, h5⟩ := atI_get he
  have hl : z.cps.toList.length = z.length := by simp [Str.length]
  rw [hl] at h1 h4 h5
  have hn := line63
  exact tail_any (typeIs_str s z t) slot_str_getitem.lookup (getItem_str (c := c) (by
    have e1 : decide (i < -(2 ^ 63 : Int)) = false := decide_eq_false (by omega)
    have e2 : decide (i ≥ 2 ^ 63) = false := decide_eq_false (by omega)
    rw [e1, e2, Bool.or_false]) (by rw [h1]; simpa using h2) ⟨.str ⟨#[c]⟩, H, I.tok _, ⟨_, rfl⟩, q⟩) hs
/-- list, tuple or str -/
def rIx (K : PySem.W.Frag) : R2 := fun x y H Q => rIxL K x y H Q ∨ rIxT K x y H Q ∨ rIxS x y H Q
def rSetL : V → V → V → Hp → (Hp → Prop) → Prop := fun o i v H Q => ∃ p xs k j, o = .ref p ∧ i = .int k ∧ H p = some (.lst xs) ∧ ixN xs.length k = some j ∧ Q (upd H p (.lst (xs.set j v)))
/-- xs[lo:hi] of a list: a new list -/
def rSlL (K : PySem.W.Frag) : V → Option Int → Option Int → Hp → VK → Prop := fun x lo hi H Q => ∃ a xs, x = .ref a ∧ SqL K H a xs ∧ ∀ p, H p = none → Q (.ref p) (upd H p (.lst (cutV xs lo hi)))
def flatV : V → Bool
  | .non => true
  | .bl _ => true
  | .int _ => true
  | .str _ => true
  | _ => false
/-- == of flat values -/
def eqV : V → V → Bool
  | .non, .non => true
  | .bl a, .bl b => a == b
  | .bl a, .int b => (if a then 1 else 0) == b
  | .int a, .bl b => a == (if b then 1 else 0)
  | .int a, .int b => a == b
  | .str a, .str b => a == b
  | _, _ => false
/-- the items' answers, read off the values (a value's own answer does not lean on its token) -/
def eqU (x : V) (u : Value) : Bool := match u with
  | .none => eqV .non x
  | .bool b => eqV (.bl b) x
  | .int i _ => eqV (.int i) x
  | .str z _ => eqV (.str z) x
  | _ => false
def inV (x : V) (xs : List V) : Bool := xs.any fun y => eqV y x
/-- x in a list or tuple of flat items -/
def rIn (K : PySem.W.Frag) (neg : Bool) : R2 := fun x y H Q => ∃ p xs, y = .ref p ∧ (SqL K H p xs ∨ SqT K H p xs) ∧ flatV x = true ∧ xs.all flatV = true ∧ Q (.bl (if neg then !inV x xs else inV x xs)) H
theorem call_len_seq : CallR X (.builtin "len") (fun xs H Q => ∃ p ys, xs = [.ref p] ∧ (SqL X.K H p ys ∨ SqT X.K H p ys) ∧ Q (.int ys.length) H) := by
  intro pins s σ H xs us Q I r h
  obtain ⟨p, ys, rfl, hq, q⟩ := h
  obtain ⟨u, rfl, rx⟩ := vals1 r
  cases rx
  have hn := line63
  rcases hq with hq | hq
  · obtain ⟨its, r', pl, hz⟩ := I.list hq
    have hlen := r'.length
    exact Calls.call_len_list pl.isList (by simp only [List.size_toArray] <;> omega) ⟨.int ys.length, H, I.tok _, ⟨s.toks + 1, by rw [List.size_toArray, hlen]⟩, q⟩
  · obtain ⟨its, r', pl, hz⟩ := I.tuple hq
    have hlen := r'.length
    exact len_tuple pl (by simp only [List.size_toArray] <;> omega) ⟨.int ys.length, H, I.tok _, ⟨s.toks + 1, by rw [List.size_toArray, hlen]⟩, q⟩
theorem call_list_of : CallR X (.type "list") (fun xs H Q => ∃ p ys, xs = [.ref p] ∧ (SqL X.K H p ys ∨ SqT X.K H p ys) ∧ ∀ l, H l = none → Q (.ref l) (upd H l (.lst ys))) := by
  intro pins s σ H xs us Q I r h
  obtain ⟨p, ys, rfl, hq, q⟩ := h
  obtain ⟨u, rfl, rx⟩ := vals1 r
  cases rx
  have fin : ∀ (its : List Value), Vals ys its → ys.length ≤ sizeLine → ∀ (h' : Heap) (c' : Nat), (∀ b o', s.heap.get? b = some o' → h'.get? b = some o') →
      h'.get? s.heap.objs.size = some { cls := .type "list", dict := none, data := .seq its.toArray c', slots := #[] } → EP X pins σ Q (.ref s.heap.objs.size) { s with heap := h' } := fun its r' hz h' c' kp e =>
    ⟨.ref s.heap.objs.size, _, I.laid (t' := s.toks) kp (Nat.le_refl _) (show ObjOk X.prog X.w _ h' _ (.lst ys) from ⟨hz, its, c', r', e⟩), rfl, q _ (I.hok.fresh (Nat.le_refl _))⟩
  rcases hq with hq | hq
  · obtain ⟨its, r', pl, hz⟩ := I.list hq
    have hlen := r'.length
    obtain ⟨o, ho, hc, n, hd⟩ := pl.isList
    exact call_list_seq p (.inl rfl) ho hc hd (fun h' c' kp e => fin its r' hz h' c' kp e) (by simp only [List.size_toArray] <;> omega)
  · obtain ⟨its, r', pl, hz⟩ := I.tuple hq
    have hlen := r'.length
    obtain ⟨o, ho, hc, n, hd⟩ := pl
    exact call_list_seq p (.inr rfl) ho hc hd (fun h' c' kp e => fin its r' hz h' c' kp e) (by simp only [List.size_toArray] <;> omega)
theorem call_tuple_of : CallR X (.type "tuple") (fun xs H Q => ∃ p ys, xs = [.ref p] ∧ ((SqL X.K H p ys ∧ ∀ l, H l = none → Q (.ref l) (upd H l (.tup ys))) ∨ (SqT X.K H p ys ∧ Q (.ref p) H))) := by
  intro pins s σ H xs us Q I r h
  obtain ⟨p, ys, rfl, h⟩ := h
  obtain ⟨u, rfl, rx⟩ := vals1 r
  cases rx
  rcases h with ⟨hq, q⟩ | ⟨hq, q⟩
  · obtain ⟨its, r', pl, hz⟩ := I.list hq
    have hlen := r'.length
    refine call_tuple_list pl.isList (fun h' kp => ?_) (by simp only [List.size_toArray] <;> omega)
    have I1 : Inv X pins σ H { s with heap := h' } := I.kept (t' := s.toks) kp
    have I2 : Inv X pins σ (upd H h'.objs.size (.tup ys)) { s with heap := h'.push { cls := .type "tuple", data := .seq its.toArray } } :=
      I1.laid (t' := s.toks) (fun b o e => Heap.get?_push_of_some _ e) (Nat.le_refl _) (show ObjOk X.prog X.w _ _ _ (.tup ys) from ⟨hz, its, r', IsTup.new _ _⟩)
    exact ⟨.ref h'.objs.size, _, I2, rfl, q _ (I1.hok.fresh (Nat.le_refl _))⟩
  · obtain ⟨its, r', pl, hz⟩ := I.tuple hq
    exact call_tuple_same pl ⟨.ref p, H, I, rfl, q⟩
/-- the value is of that builtin type -/
def tyV (K : PySem.W.Frag) (T : String) (x : V) (H : Hp) : Prop := match x with
  | .str _ => T = "str"
  | .int _ => T = "int"
  | .ref p => (T = "list" ∧ ∃ xs, SqL K H p xs) ∨ (T = "tuple" ∧ ∃ o, K.lookup p = some o ∧ o.cls = .type "tuple" ∧ o.dict = none) ∨
      (T = "dict" ∧ ((∃ kvs, H p = some (.dK kvs)) ∨ ∃ kvs, H p = some (.dT kvs))) ∨ (T = "set" ∧ ∃ S n, H p = some (.set S n))
  | _ => False
theorem tyV_is {pins : List (Addr × Obj)} {σ : St} {H : Hp} {s : Shared} {T : String} {x : V} {v : Value} (I : Inv X pins σ H s) (r : RelV x v) (ty : tyV X.K T x H) :
    s.TypeIs v T ∧ ∀ a, v = .ref a → ∃ ob, s.heap.get? a = some ob ∧ ob.dict = none := by
  cases x with
  | str z =>
    obtain ⟨t, rfl⟩ := r
    cases (show T = "str" from ty)
    exact ⟨typeIs_str s z t, fun _ e => nomatch e⟩
  | int i =>
    obtain ⟨t, rfl⟩ := r
    cases (show T = "int" from ty)
    exact ⟨typeIs_int s i t, fun _ e => nomatch e⟩
  | ref p =>
    cases r
    rcases ty with ⟨rfl, xs, hq⟩ | ⟨rfl, o, hk, hc, hd⟩ | ⟨rfl, hk⟩ | ⟨rfl, S, n, hk⟩
    · obtain ⟨its, _, pl, _⟩ := I.list hq
      refine ⟨pl.isList.typeIs, fun a e => ?_⟩
      cases e
      obtain ⟨o, n, e, c, hd, _⟩ := pl
      exact ⟨o, e, hd⟩
    · refine ⟨⟨o, I.kIn p o hk, hc⟩, fun a e => ?_⟩
      cases e
      exact ⟨o, I.kIn _ o hk, hd⟩
    · have z : ∃ o, s.heap.get? p = some o ∧ o.ExactDict := by
        rcases hk with ⟨kvs, hk⟩ | ⟨kvs, hk⟩
        · obtain ⟨_, _, _, _, o, _, _, e, ex, _⟩ := I.hok p _ hk
          exact ⟨o, e, ex⟩
        · obtain ⟨_, _, _, _, o, _, _, e, ex, _⟩ := I.hok p _ hk
          exact ⟨o, e, ex⟩
      obtain ⟨o, e, ex⟩ := z
      refine ⟨⟨o, e, ex.1⟩, fun a e2 => ?_⟩
      cases e2
      exact ⟨o, e, ex.2.1⟩
    · obtain ⟨o, _, _, _, e, ex, _⟩ := I.hok p _ hk
      refine ⟨⟨o, e, ex.1⟩, fun a e2 => ?_⟩
      cases e2
      exact ⟨o, e, ex.2.1⟩
  | _ => exact False.elim ty
def tBM0 (K : PySem.W.Frag) (T : String) (r : V → List V → Hp → VK → Prop) (to : TE) : TE := fun σ H Q => to σ H fun x H1 => tyV K T x H1 ∧ r x [] H1 Q
def tBM (K : PySem.W.Frag) (T : String) (r : V → List V → Hp → VK → Prop) (to : TE) (t : TA) : TE := fun σ H Q => to σ H fun x H1 => tyV K T x H1 ∧ t σ H1 fun xs H2 => r x xs H2 Q
variable {o e : Expr} {es : List Expr} {to : TE} {t : TA} {name : Str} {apos cpos : Pos} {T id : String} {r : V → List V → Hp → VK → Prop}
theorem pe_bm0 (pa : PlainAttrs T) (slot : Slot T name id) (hty : typeOf (.builtin id) = pure (.type "method_descriptor")) (hm : MtR X id r) (ho : PE X o to)
    (hbase : attributeBase o name X.env (eval o X.env) = eval o X.env := by rfl) (hline : (apos.endLine == cpos.line) = true := by rfl) : PE X (.Call (.Attribute o name apos) [] [] cpos) (tBM0 X.K T r to) := by
  intro pins s σ H Q I h
  refine wpAny_Call_method0_late hbase hline (thn (ho pins s σ H _ I h) fun v s1 ⟨x, H1, I1, r1, ty, q1⟩ => ?_)
  obtain ⟨h1, h2⟩ := tyV_is I1 r1 ty
  exact ⟨T, id, pa, slot, hty, h1, h2, Calls.callWith_builtin rfl (PySem.evalArgs_none (hm pins s1 σ H1 x [] v [] Q I1 r1 .nil q1))⟩
theorem pe_bm (pa : PlainAttrs T) (slot : Slot T name id) (hty : typeOf (.builtin id) = pure (.type "method_descriptor")) (hm : MtR X id r) (ho : PE X o to) (ha : PA X (e :: es) t)
    (hbase : attributeBase o name X.env (eval o X.env) = eval o X.env := by rfl)
    (hfew : ((backTo cpos (starEach (e :: es) X.env)).all (fun x => !x.1) && (backToKw cpos (keywordEach [] X.env)).all (fun x => x.1.isSome)
      && decide ((e :: es).length + ([] : List Keyword).length + (if ([] : List Keyword).isEmpty then 0 else 1) < 30)) = true := by rfl)
    (hline : (apos.endLine == cpos.line) = true := by rfl) (hs : starEach (e :: es) X.env = (false, eval e X.env) :: starEach es X.env := by rfl) (hplain : (backTo cpos (starEach es X.env)).any (·.1) = false := by rfl) :
    PE X (.Call (.Attribute o name apos) (e :: es) [] cpos) (tBM X.K T r to t) := by
  intro pins s σ H Q I h
  refine wpAny_Call_method_late hbase hfew hline rfl (thn (ho pins s σ H _ I h) fun v s1 ⟨x, H1, I1, r1, ty, q1⟩ => ?_)
  obtain ⟨h1, h2⟩ := tyV_is I1 r1 ty
  refine ⟨T, id, pa, slot, hty, h1, h2, ?_⟩
  have hA := ha cpos pins s1 σ H1 _ I1 q1
  rw [hs] at hA ⊢
  refine Calls.callWith_builtin (by show (false || (backTo cpos (starEach es X.env)).any (·.1)) = false; rw [hplain] <;> rfl) (Calls.evalArgs_plain ?_)
  exact thn hA fun us s2 ⟨vs, H2, I2, r2, q2⟩ => hm pins s2 σ H2 x vs v us Q I2 r1 r2 q2
/- xs.append(e), list.index on a module's tuple .. are MtR facts of 06m -/
end
end L2
namespace L2
open PySem PySem.Spec PyProof.Rows
def MtM (X : Cx) (id : String) (r : V → List V → Hp → VK → Prop) : Prop :=
  ∀ (pins : List (Addr × Obj)) (s : Shared) (σ : St) (H : Hp) (x : V) (xs : List V) (v : Value) (us : List Value) (Q : VK), Inv X pins σ H s → RelV x v → Vals xs us → r x xs H Q →
    wpAny (model X.prog X.w) X.A (call (.builtin id) (v :: us)) (EP X pins σ Q) X.xe s
theorem Vals.one : ∀ {x : V} {us : List Value}, Vals [x] us → ∃ u, us = [u] ∧ RelV x u
  | _, _, .cons r .nil => ⟨_, rfl, r⟩
theorem Vals.zero : ∀ {us : List Value}, Vals [] us → us = []
  | _, .nil => rfl
section
variable {X : Cx} {pins : List (Addr × Obj)} {σ : St} {H : Hp} {s : Shared} {l b : Addr} {xs ys zs : List V}
theorem Inv.lset {its its' : List Value} {n : Nat} {f : Array Value → Array Value} {t' : Nat} (I : Inv X pins σ H s) (hH : H l = some (.lst xs))
    (e : s.heap.get? l = some { cls := .type "list", data := .seq its.toArray n }) (hf : f its.toArray = its'.toArray) (hv : Vals ys its') (hz : ys.length ≤ sizeLine) :
    Inv X pins σ (upd H l (.lst ys)) { s with heap := s.heap.update l (Obj.mapSeq f), toks := t' } := by
  have q := PySem.IsL.update e f
  rw [hf] at q
  refine I.write (x := l) (e := l) (by rw [hH]; exact trivial) (.inl rfl) (fun b' u hb hu => (Heap.get?_update_other s.heap (Obj.mapSeq f) (Ne.symm hb)).trans hu) ⟨_, q⟩ ?_
  exact ⟨hz, its', _, hv, q⟩
theorem Inv.lnew {its : List Value} {t' : Nat} (I : Inv X pins σ H s) (hv : Vals ys its) (hz : ys.length ≤ sizeLine) :
    Inv X pins σ (upd H s.heap.objs.size (.lst ys)) { s with heap := s.heap.push { cls := .type "list", data := .seq its.toArray }, toks := t' } :=
  I.laid (fun _ _ q => Heap.get?_push_of_some _ q) (Nat.le_refl _) ⟨hz, its, 0, hv, Heap.get?_push_size _ rfl⟩
theorem Inv.fresh (I : Inv X pins σ H s) : H s.heap.objs.size = none := I.hok.fresh (Nat.le_refl _)
theorem Inv.lstM (I : Inv X pins σ H s) (hH : H l = some (.lst xs)) : xs.length ≤ sizeLine ∧ ∃ (its : List Value) (n : Nat), Vals xs its ∧ xs.length = its.length ∧ s.heap.get? l = some { cls := .type "list", data := .seq its.toArray n } := by
  obtain ⟨z, its, n, r, e⟩ := I.hok l _ hH
  exact ⟨z, its, n, r, r.length, e⟩
end
section
variable {X : Cx}
def rAppend : V → List V → Hp → VK → Prop := fun x vs H Q => ∃ l xs y, x = .ref l ∧ vs = [y] ∧ H l = some (.lst xs) ∧ xs.length < sizeLine ∧ Q .non (upd H l (.lst (xs ++ [y])))
theorem mt_append : MtM X "list.append" rAppend := by
  intro pins s σ H x vs v us Q I rx rv h
  obtain ⟨l, xs, y, rfl, rfl, hH, hz, q⟩ := h
  cases rx
  obtain ⟨u, rfl, ru⟩ := rv.one
  obtain ⟨z, its, n, r, hl, e⟩ := I.lstM hH
  refine call_meets F.slot_list_append ⟨_, e, rfl⟩ F.entry_list_append (F.args_list_append_2 _ _) (PySem.list_append l its.toArray n u (by rw [List.size_toArray]; omega)) ⟨e, ?_⟩
  refine ⟨.non, _, I.lset (its' := its ++ [u]) hH e (by simp) (r.append (.cons ru .nil)) ?_, rfl, q⟩
  rw [List.length_append, List.length_singleton]
  omega
def rExtend : V → List V → Hp → VK → Prop := fun x vs H Q => ∃ l b xs zs, x = .ref l ∧ vs = [.ref b] ∧ H l = some (.lst xs) ∧ H b = some (.lst zs) ∧ xs.length + zs.length ≤ sizeLine ∧ Q .non (upd H l (.lst (xs ++ zs)))
def rPop : V → List V → Hp → VK → Prop := fun x vs H Q => ∃ l xs y, x = .ref l ∧ vs = [] ∧ H l = some (.lst xs) ∧ xs[xs.length - 1]? = some y ∧ Q y (upd H l (.lst xs.dropLast))
def rPopAt : V → List V → Hp → VK → Prop := fun x vs H Q => ∃ l xs i k y, x = .ref l ∧ vs = [.int i] ∧ H l = some (.lst xs) ∧ -(2 ^ 63) ≤ i ∧ i < 2 ^ 63 ∧ seqIndex? i xs.length = some k ∧ xs[k]? = some y ∧ Q y (upd H l (.lst (xs.eraseIdx k)))
def rReverse : V → List V → Hp → VK → Prop := fun x vs H Q => ∃ l xs, x = .ref l ∧ vs = [] ∧ H l = some (.lst xs) ∧ Q .non (upd H l (.lst xs.reverse))
def rClear : V → List V → Hp → VK → Prop := fun x vs H Q => ∃ l xs, x = .ref l ∧ vs = [] ∧ H l = some (.lst xs) ∧ Q .non (upd H l (.lst []))
theorem mt_clear : MtM X "list.clear" rClear := by
  intro pins s σ H x vs v us Q I rx rv h
  obtain ⟨l, xs, rfl, rfl, hH, q⟩ := h
  cases rx
  have hus := rv.zero
  subst hus
  obtain ⟨z, its, n, r, hl, e⟩ := I.lstM hH
  refine call_meets F.slot_list_clear ⟨_, e, rfl⟩ F.entry_list_clear (F.args_list_clear_1 _) (AutoSeq1.list_clear_list_0 l its.toArray n (by rw [List.size_toArray]; omega)) ⟨e, ?_⟩
  exact ⟨.non, _, I.lset (its' := []) (ys := []) hH e rfl .nil (Nat.zero_le _), rfl, q⟩
def rCat : R2 := fun x y H Q => ∃ l b xs zs, x = .ref l ∧ y = .ref b ∧ H l = some (.lst xs) ∧ H b = some (.lst zs) ∧ xs.length + zs.length ≤ sizeLine ∧ ∀ p, H p = none → Q (.ref p) (upd H p (.lst (xs ++ zs)))
theorem op_cat : OpR X (binaryOp .Add) rCat := by
  intro pins s σ H x y v u Q I rx ry h
  obtain ⟨l, b, xs, zs, rfl, rfl, hH, hB, hz, q⟩ := h
  cases rx
  cases ry
  obtain ⟨z, its, n, r, hl, e⟩ := I.lstM hH
  obtain ⟨z2, its2, n2, r2, hl2, e2⟩ := I.lstM hB
  refine PySem.P.add_list e e2 ?_ (by rw [List.size_toArray, List.size_toArray]; omega)
  have ea : its.toArray ++ its2.toArray = (its ++ its2).toArray := by simp
  rw [ea]
  exact ⟨.ref _, _, I.lnew (t' := s.toks) (r.append r2) (by rw [List.length_append]; omega), rfl, q _ I.fresh⟩
/-- a list times an int (a negative one is nothing) -/
def rRep : R2 := fun x y H Q => ∃ l k xs, x = .ref l ∧ y = .int k ∧ H l = some (.lst xs) ∧ -(2 ^ 63) ≤ k ∧ k < 2 ^ 63 ∧ xs.length * k.toNat ≤ sizeLine ∧
  ∀ p, H p = none → Q (.ref p) (upd H p (.lst (List.replicate k.toNat xs).flatten))
end
section
variable {prog : Program} {w : World} {A : Around} {E : Value → Shared → Prop} {s : Shared}
end
section
variable {X : Cx}
end
end L2
namespace Att
open PySem PySem.W PySem.Calls PyProof.Rows
theorem ints_of_wellAll {P : Params} {h : Heap} : ∀ (ns : List Int) (vs : List Value), WellAll P h vs (ns.map WData.int) → IntsAre vs ns := by
  intro ns
  induction ns with
  | nil =>
    intro vs w
    rw [List.map_nil] at w
    cases w
    exact .nil
  | cons n ns ih =>
    intro vs w
    rw [List.map_cons] at w
    cases w with
    | cons a b =>
      cases a
      exact .cons _ _ (ih _ b)
theorem script_of {l : OpenLaw} {n : Nat} (hn : l.most = some n) {P : Params} {h : Heap} {args : List WData} {vals : List Value}
    (hpre : l.row.toRowW.claim.pre args = true) (hwl : WellAll P h vals args) :
    ∃ a vs ns, vals = [Value.ref a] ∧ args = [WData.list (ns.map WData.int)] ∧ h.get? a = some { cls := .type "list", data := .seq vs.toArray } ∧ IntsAre vs ns ∧ ns.length ≤ n := by
  have hsh : WShape.hasAll [] args [.list .int] = true := (pre_splitW hpre).1
  have hc : l.pre.holds [] { args := args } = true := (pre_splitW hpre).2
  obtain ⟨d, r, rfl, h1, h2⟩ := hasAllW_cons hsh
  obtain rfl := hasAllW_nil h2
  obtain ⟨xs, rfl, h3⟩ := hasW_list h1
  obtain ⟨ns, rfl⟩ := items_int h3
  have hlen : ns.length ≤ n := by
    unfold OpenLaw.pre at hc
    have h4 : (WTm.not (.lt (.lit (.int (n : Int))) (.len (.arg 0)))).holds [] { args := [.list (ns.map .int)] } = true := by
      have h4 := (holds_andW hc).1
      rw [hn] at h4
      exact h4
    have h5 := condW_of h4 (w_not (w_lt w_lit (w_len_list (w_arg rfl))))
    rw [List.length_map] at h5
    refine Nat.le_of_not_lt fun q => ?_
    have q' : (n : Int) < ((ns.length : Nat) : Int) := by omega
    first
      | (rw [decide_eq_true q'] at h5; exact absurd h5 (by decide))
      | (simp at h5; omega)
  cases hwl with
  | cons w1 w2 =>
    cases w2
    cases w1 with
    | list ho hall => exact ⟨_, _, ns, rfl, rfl, ho, ints_of_wellAll ns _ hall, hlen⟩
theorem post_true (l : OpenLaw) (args : List WData) : l.row.toRowW.claim.post args (.bool true) args = true :=
  postW_of (r := l.row.toRowW) (X := (true == true))
    (show WShape.has [] (.bool true) .bool = true by first | rfl | decide | simp [WShape.has, WShape.arms, WShape.armsAll])
    (show (WTm.eq .res (.lit (.bool true))).value [] { args := args, res := some (.bool true), after := args } = some (.bool (true == true)) from w_eq_bool (w_res rfl) w_lit) rfl
section
variable {prog : Program} {w : World} {A : Around} {E : Value → Shared → Prop} {s : Shared} {K : Frag}
def noObjs (h : Heap) : Heap := { h with objs := #[] }
def ledger (h : Heap) (L d : Addr) : List (Addr × Obj) := (List.range h.objs.size).filterMap fun a => if a = L ∨ a = d then none else (h.get? a).map fun o => (a, o)
end
end Att
namespace L2
open PySem PySem.Spec PyProof.Rows
theorem vals_ints : ∀ {vs : List Value} {ns : List Int}, IntsAre vs ns → Vals (ns.map V.int) vs
  | _, _, .nil => .nil
  | _, _, .cons n t h => .cons ⟨t, rfl⟩ (vals_ints h)
/-- nothing is tracked but the script, known to the object (or it is an object of the module) -/
def Only (H : Hp) : Prop := ∀ b, H b = none ∨ ∃ o xs, H b = some (.frz o (.lst xs))
end L2
namespace L2
open PySem PySem.Spec PyProof.Rows
abbrev KOf {K : PySem.W.Frag} {h : Heap} (_ : K.In h) : PySem.W.Frag := K
end L2
/- THE LAST THEOREM (shape; LID, My.* are yours):
   My.Adr: a structure of the addresses that your layer names (classes, functions); My.Txt K t: a structure (Prop) of the equations over K;
   My.txt_mk : {K} {implicit addresses ..} (e1 : nsIn K mainGlobals "law" = some (some (.ref f))) (e2 : K.lookup f = some ⟨oc, od, .func (fnOf "law" "law" params body scope dV kV doc pm an cdv ct), sl⟩) (e3 : codeIn K cdv "law" = true) .. : ∃ t, My.Txt K t
set_option maxRecDepth 100000 in
set_option maxHeartbeats 0 in
theorem PySem.Challenge.cw_LID_holds : PySem.Challenge.rw_LID.Holds := by
  w_on; o_law; k_head; (case hw => w_witness2)
  k_fill
  refine L2.walk_of (l := PySem.Challenge.rw_LID) (n := 63) (k := 40) (x := "script") (CX := fun w => ..) (sp := fun _ => My.sp_law) rfl (by decide) rfl ⟨rfl, by decide, by decide⟩ (fun w h Y => PySem.W.kIn_of Y) ?F ?S ?C
  case F =>
    intro w mg fa h KX G hmg
    have T : ∃ t, My.Txt (L2.KOf KX) t := by
      dsimp only [L2.KOf]                          -- K must stand as «<heap const> w.params» for k_is
      refine' My.txt_mk ?e1 ?e2 ?e3 ..
      (case e1 => PySem.W.k_is)                    -- in the order: a name -> its address -> its object -> its parts
      (case e2 => PySem.W.k_is)
      ..
    obtain ⟨t, T⟩ := T
    have e0 := hmg.symm.trans (PySem.W.mg_of KX G T.law)
    cases e0                                       -- fa is the law's own address
    exact ⟨_, fun s u => .of_eq rfl, fun base kb nb => My.law_fn T kb nb⟩     -- if «.of_eq rfl» comes too early: refine' ⟨_, ?b, fun base kb nb => My.law_fn T kb nb⟩; exact fun s u => .of_eq rfl
  case S => exact fun w H a ns hl hO hS => ..
  case C => exact ..
(the tactic k_is has no namespace: write k_is) -/
namespace L2
open PySem PySem.Spec PyProof.Rows
/-- the j-th statement of a class's body -/
def inClass (s : Stmt) (j : Nat) : Stmt := match s with
  | .ClassDef _ _ _ body _ _ _ _ _ _ _ => body.getD j (.Pass ⟨0, 0, 0, 0⟩)
  | _ => .Pass ⟨0, 0, 0, 0⟩
def defArgs (s : Stmt) : Arguments := match s with
  | .FunctionDef _ a _ _ _ _ _ _ _ _ => a
  | _ => { posonlyargs := [], args := [], vararg := none, kwonlyargs := [], kw_defaults := [], kwarg := none, defaults := [] }
def defBody (s : Stmt) : List Stmt := match s with
  | .FunctionDef _ _ b _ _ _ _ _ _ _ => b
  | _ => []
def defScope (s : Stmt) : Scope := match s with
  | .FunctionDef _ _ _ _ _ _ sc _ _ _ => sc
  | _ => { kind := .function, names := [], isGenerator := false, isCoroutine := false }
abbrev CX0 : CXT := fun _ _ _ _ _ _ => False
abbrev E0 : XK := fun _ _ _ => False
theorem pass0 {X : Cx} : Passes CX0 X E0 := fun _ _ _ _ _ _ _ h => h.elim
structure Fun (K : PySem.W.Frag) (x qual : Str) (st : Stmt) (f : Addr) (fd : FuncData) : Prop where
  ex : ∃ (oc : Value) (od : Option Addr) (kV doc pm : Value) (an : Option Addr) (cdv ct : Value) (osl : Array (Option Value)),
    fd = PySem.W.fnOf x qual (defArgs st) (defBody st) (defScope st) .none kV doc pm an cdv ct ∧ K.lookup f = some ⟨oc, od, .func fd, osl⟩ ∧ PySem.W.codeIn K cdv qual = true
  kp : PySem.W.keepIn K (.ref f) = true
section
variable {P : Program} {w : World} {K : PySem.W.Frag} {mg : Str → Option Value} {base : Heap}
/-- THE RULE for a def: its body as a term of rules, and the reading of that term -/
theorem Fun.ok {x qual : Str} {st : Stmt} {f : Addr} {fd : FuncData} {N ps : List Str} {k : Nat} {sp : Sp} (F : Fun K x qual st f fd) (S : FnScope N ps (defScope st)) (len : ∀ vs H Q E, sp vs H Q E → vs.length = ps.length)
    (hbody : ∀ (cdv : Value) (A : Around) (outer : List Env) (s : Shared) (H : Hp) (vs : List V) (Q : VK) (E : XK), Room k (A.deeper (envOfC qual (defScope st) s.heap.objs.size f cdv)) → sp vs H Q E →
      ∃ t, PSs (cxOf CX0 P w K mg base N qual (defScope st) f cdv A outer s H E).nox (defBody st) t ∧ t { nx := fun _ H' => Q .non H', rt := Q } (start N vs) H) : FnOk P w K mg base CX0 (k + 1) f fd ps sp := by
  obtain ⟨oc, od, kV, doc, pm, an, cdv, ct, osl, rfl, lk, hcd⟩ := F.ex
  refine fn_of lk hcd S len fun A outer s H vs Q E hr hsp => ?_
  obtain ⟨t, h, q⟩ := hbody cdv A outer s H vs Q E hr hsp
  exact ⟨t, h.nox, q⟩
/-- how its arguments bind (no defaults): h is «fun _ _ _ _ _ _ us hl => match us, hl with | [_, _], _ => rfl», one _ a parameter -/
theorem Fun.binds {x qual : Str} {st : Stmt} {f : Addr} {fd : FuncData} {ps : List Str} (F : Fun K x qual st f fd)
    (h : ∀ (kV doc pm : Value) (an : Option Addr) (cdv ct : Value) (us : List Value), us.length = ps.length → bindArgs (PySem.W.fnOf x qual (defArgs st) (defBody st) (defScope st) .none kV doc pm an cdv ct) ⟨us, []⟩ = pure (ps.zip us)) : Binds K fd ps [] := by
  obtain ⟨oc, od, kV, doc, pm, an, cdv, ct, osl, rfl, lk, hcd⟩ := F.ex
  exact .all (h kV doc pm an cdv ct)
theorem fun_mk {x qual : Str} {st : Stmt} {f : Addr} {oc : Value} {od an : Option Addr} {osl : Array (Option Value)} {kV doc pm cdv ct : Value} (l : K.lookup f = some ⟨oc, od, .func (PySem.W.fnOf x qual (defArgs st) (defBody st) (defScope st) .none kV doc pm an cdv ct), osl⟩)
    (c : PySem.W.codeIn K cdv qual = true) (k : PySem.W.keepIn K (.ref f) = true) : Fun K x qual st f (PySem.W.fnOf x qual (defArgs st) (defBody st) (defScope st) .none kV doc pm an cdv ct) := ⟨⟨oc, od, kV, doc, pm, an, cdv, ct, osl, rfl, l, c⟩, k⟩
end
theorem hu_of {A : Around} {k : Nat} (hr : Room k A) : A.units + 1 < cLine := Nat.lt_of_le_of_lt (Nat.add_le_add_left (by decide : 1 ≤ 64) _) hr.units
section
variable {X : Cx}
theorem pv (i : Nat) {x : Str} {pos : Pos} (hN : X.N[i]? = some x := by rfl) (hv : Vis X.env.scope x := by first | exact Or.inl rfl | exact Or.inr (Or.inl rfl) | exact Or.inr (Or.inr rfl)) (hd : (x == ("__debug__" : Str)) = false := by decide)
    (hcd : (x == ("__classdict__" : Str)) = false := by decide) : PE X (.Name x pos) (tVar i) := pe_var hN hv hd hcd
end
theorem iteF {A B : Prop} (h : B) : if false = true then A else B := by
  rw [if_neg Bool.false_ne_true]
  exact h
theorem iteT {A B : Prop} (h : A) : if true = true then A else B := by
  rw [if_pos rfl]
  exact h
/-- all that was tracked is as it was -/
def Same (H H' : Hp) : Prop := ∀ b o, H b = some o → H' b = some o
theorem Same.refl (H : Hp) : Same H H := fun _ _ h => h
theorem Same.trans {H H1 H2 : Hp} (a : Same H H1) (b : Same H1 H2) : Same H H2 := fun c o h => b c o (a c o h)
theorem Same.free {H H' : Hp} (e : Same H H') {l : Addr} (h : H' l = Option.none) : H l = Option.none := by
  cases q : H l with
  | none => rfl
  | some o =>
    rw [e l o q] at h
    cases h
theorem Same.seq {K : PySem.W.Frag} {H H' : Hp} {a : Addr} {xs : List V} (e : Same H H') (h : SqL K H a xs) : SqL K H' a xs := by
  rcases h with (h | ⟨o, h⟩) | h
  · exact .inl (.inl (e _ _ h))
  · exact .inl (.inr ⟨o, e _ _ h⟩)
  · exact .inr h
end L2
namespace FW
structure Low (a b : Int) : Prop where
  pos : 0 < b
  cop : Int.gcd a b = 1
theorem dvd_of_cop {a b c : Int} (h : Int.gcd a b = 1) (d : a ∣ b * c) : a ∣ c := by
  have h1 : a ∣ ((Int.gcd a b : Nat) : Int) * c := Int.dvd_gcd_mul_iff_dvd_mul.mpr d
  rw [h] at h1
  simpa using h1
/-- two fractions in lowest terms of the same ratio are one -/
theorem Low.uniq {a b c d : Int} (h : Low a b) (k : Low c d) (e : a * d = c * b) : a = c ∧ b = d := by
  have h1 : b ∣ d := dvd_of_cop (a := b) (b := a) (by rw [Int.gcd_comm]; exact h.cop) ⟨c, by rw [e, Int.mul_comm]⟩
  have h2 : d ∣ b := dvd_of_cop (a := d) (b := c) (by rw [Int.gcd_comm]; exact k.cop) ⟨a, by rw [← e, Int.mul_comm]⟩
  have e1 : b = d := by
    have := Int.le_of_dvd k.pos h1
    have := Int.le_of_dvd h.pos h2
    omega
  subst e1
  exact ⟨Int.eq_of_mul_eq_mul_right (by have := h.pos; omega) e, rfl⟩
abbrev g (a b : Int) : Int := ((Int.gcd a b : Nat) : Int)
theorem g_pos {a b : Int} (h : b ≠ 0) : 0 < g a b := by
  have := Int.gcd_pos_of_ne_zero_right a h
  show (0 : Int) < ((Int.gcd a b : Nat) : Int)
  omega
theorem g_step {a b : Int} : Int.gcd b (a % b) = Int.gcd a b := by
  rw [Int.emod_def, Int.gcd_sub_mul_left_right, Int.gcd_comm]
/-- what the law and the program make of two numbers, the second above 0 -/
def low (t b : Int) : Int × Int := (t / g t b, b / g t b)
theorem low_mul {t b : Int} : (low t b).1 * g t b = t ∧ (low t b).2 * g t b = b :=
  ⟨Int.ediv_mul_cancel (Int.gcd_dvd_left ..), Int.ediv_mul_cancel (Int.gcd_dvd_right ..)⟩
theorem low_Low {t b : Int} (h : 0 < b) : Low (low t b).1 (low t b).2 := by
  have gp := g_pos (a := t) (b := b) (by omega)
  refine ⟨?_, ?_⟩
  · have e := (low_mul (t := t) (b := b)).2
    rcases Int.lt_or_le 0 (low t b).2 with q | q
    · exact q
    · have := Int.mul_nonpos_of_nonpos_of_nonneg q (Int.le_of_lt gp)
      omega
  · exact Int.gcd_ediv_gcd_ediv_gcd_of_ne_zero_right (by omega)
theorem low_eq {t b : Int} : (low t b).1 * b = t * (low t b).2 := by
  have e := low_mul (t := t) (b := b)
  generalize (low t b).1 = x at e ⊢
  generalize (low t b).2 = y at e ⊢
  obtain ⟨e1, e2⟩ := e
  calc x * b = x * (y * g t b) := by rw [e2]
    _ = (x * g t b) * y := by rw [Int.mul_comm y, Int.mul_assoc]
    _ = t * y := by rw [e1]
theorem low_of {a b t s : Int} (h : Low a b) (hs : 0 < s) (e : a * s = t * b) : (a, b) = low t s := by
  have k := low_Low (t := t) hs
  have q := low_eq (t := t) (b := s)
  have e2 : a * (low t s).2 = (low t s).1 * b := by
    have e3 : (a * (low t s).2) * s = ((low t s).1 * b) * s := by
      calc (a * (low t s).2) * s = (a * s) * (low t s).2 := by rw [Int.mul_assoc, Int.mul_comm _ s, ← Int.mul_assoc]
        _ = (t * b) * (low t s).2 := by rw [e]
        _ = (t * (low t s).2) * b := by rw [Int.mul_assoc, Int.mul_comm b, ← Int.mul_assoc]
        _ = ((low t s).1 * s) * b := by rw [q]
        _ = ((low t s).1 * b) * s := by rw [Int.mul_assoc, Int.mul_comm s, ← Int.mul_assoc]
    exact Int.eq_of_mul_eq_mul_right (by omega) e3
  obtain ⟨e4, e5⟩ := h.uniq k e2
  exact Prod.ext e4 e5
/-- natAbs facts -/
theorem abs_ediv_le {a b : Int} (h : b ∣ a) : (a / b).natAbs ≤ a.natAbs := by
  obtain ⟨c, rfl⟩ := h
  by_cases hb : b = 0
  · subst hb; simp
  · rw [Int.mul_ediv_cancel_left _ hb, Int.natAbs_mul]
    have : 0 < b.natAbs := by omega
    exact Nat.le_mul_of_pos_left _ this
theorem low_abs (t b : Int) : (low t b).1.natAbs ≤ t.natAbs ∧ (low t b).2.natAbs ≤ b.natAbs :=
  ⟨abs_ediv_le (Int.gcd_dvd_left ..), abs_ediv_le (Int.gcd_dvd_right ..)⟩
def plusM (a b c d : Int) : Int × Int :=
  let s := g b d
  let top := a * (d / s) + c * (b / s)
  (top / g top s, b / g top s * (d / s))
def timesM (a b c d : Int) : Int × Int := (a / g a d * (c / g c b), b / g c b * (d / g a d))
/-- a fraction that is W over S -/
structure IsQ (p : Int × Int) (W S : Int) : Prop where
  lo : Low p.1 p.2
  eq : p.1 * S = W * p.2
end FW
namespace L2
open PySem PySem.Spec PyProof.Rows
/-- a def of the text as it stands behind the top, under its own name -/
structure FnAt (K : PySem.W.Frag) (mg : Str → Option Value) (x : Str) (st : Stmt) (ps : List Str) (f : Addr) (fd : FuncData) : Prop where
  F : Fun K x x st f fd
  b : Binds K fd ps []
  m : mg x = some (.ref f)
theorem Same.upd {H : Hp} {p : Addr} {o : HO} (h : H p = Option.none) : Same H (upd H p o) := fun b u e => by
  rw [upd_ne (ne_of_none e h)]
  exact e
theorem Same.tup {K : PySem.W.Frag} {H H' : Hp} {a : Addr} {xs : List V} (e : Same H H') (h : SqT K H a xs) : SqT K H' a xs := by
  rcases h with (h | ⟨o, h⟩) | h
  · exact .inl (.inl (e _ _ h))
  · exact .inl (.inr ⟨o, e _ _ h⟩)
  · exact .inr h
theorem iteBB {c : Bool} {A B : Prop} (h1 : c = true → A) (h2 : c = false → B) : if c = true then A else B := by
  cases c with
  | true => exact iteT (h1 rfl)
  | false => exact iteF (h2 rfl)
theorem two_le : (2 : Nat) ≤ sizeLine := by decide
/-- an int of less than 2 ^ 2000 -/
def Sm (x : Int) : Prop := x.natAbs < 2 ^ 2000
theorem Sm.bits {x : Int} (h : Sm x) : Builtin.Int.intBits x ≤ 2000 := intBits_le h
theorem Sm.mul {x y : Int} (h : Sm x) (k : Sm y) : IntMulOk x y := mulOk_of_bits h.bits k.bits (by decide)
theorem log2_lt {n k : Nat} (h : n < 2 ^ k) (hk : 0 < k) : n.log2 < k := by
  rcases Nat.eq_zero_or_pos n with h0 | hp
  · subst h0
    simpa using hk
  · exact (Nat.log2_lt (by omega)).mpr h
theorem Sm.log {x : Int} (h : Sm x) : x.natAbs.log2 < 9000 := Nat.lt_of_lt_of_le (log2_lt h (by decide)) (by decide)
theorem Sm.le {x y : Int} (h : Sm y) (k : x.natAbs ≤ y.natAbs) : Sm x := Nat.lt_of_le_of_lt k h
end L2
namespace Att
open PySem PySem.W PySem.Calls PyProof.Rows
theorem weight_mem : ∀ {ns : List Int} {n : Int}, n ∈ ns → WData.weight (.int n) ≤ WData.weightAll (ns.map WData.int)
  | m :: r, n, h => by
    show WData.weight (.int n) ≤ WData.weight (.int m) + 1 + WData.weightAll (r.map WData.int)
    rcases List.mem_cons.mp h with e | e
    · subst e
      omega
    · have := weight_mem (ns := r) e
      omega
theorem bits_of_lay {ns : List Int} (h : WData.layableAll [WData.list (ns.map WData.int)] = true) : ∀ n ∈ ns, Builtin.Int.intBits n ≤ 2 ^ 20 := by
  intro n hn
  have h1 : (WData.list (ns.map WData.int)).layable = true := (layW_cons h).1
  have h2 : WData.weight (WData.list (ns.map WData.int)) ≤ 2 ^ 20 := of_decide_eq_true (Bool.and_eq_true_iff.mp h1).2
  have h3 : WData.weightAll (ns.map WData.int) ≤ 2 ^ 20 := by simpa only [WData.weight] using h2
  have h4 := weight_mem hn
  have h5 : WData.weight (.int n) ≤ 2 ^ 20 := Nat.le_trans h4 h3
  simpa only [WData.weight, Builtin.Int.intBits] using h5
/-- attach_call, with the bound of the script's ints -/
theorem attach_callB {l : OpenLaw} {n : Nat} {q : Program} {loose : List Str} {XP : (Str → Option Value) → Heap → Prop} {YP : World → Heap → Prop} {d : DefRec}
    (hn : l.most = some n) (hdf : d.params.defaults = [])
    (call : ∀ (w : World) (s₀ s₁ : Shared) (mg mb : Str → Option Value) (fa : Addr) (a : Addr) (vs : List Value) (ns : List Int),
      Ground q loose [] XP w s₀ mg mb s₁.heap → YP w s₁.heap → mg d.name = some (.ref fa) →
      s₁.heap.get? a = some { cls := .type "list", data := .seq vs.toArray } → IntsAre vs ns → ns.length ≤ n → (∀ x ∈ ns, Builtin.Int.intBits x ≤ 2 ^ 20) → s₁.gens = #[] →
      codeAny (model l.prog w) callerA (.call (.ref fa) ⟨[.ref a], []⟩) (fun r s' => r = .ok (.ret (.bool true)) ∧ OldK s₁.heap s'.heap ∧ s'.os = s₁.os ∧ AllBare s'.gens) s₁) :
    WalkO q loose XP YP l.row.toRowW d [] (fun f vs => PySem.call f vs) := by
  intro w s₀ s₁ mg mb G Y fa o pm cd doc dV kV ho hd hcd hD hmg hg args vals as hpre hlay hrd hwl hlo
  obtain rfl : dV = .none := Dflts.none hD hdf
  obtain rfl : kV = .none := Dflts.noKw hD
  obtain ⟨a, vs, ns, rfl, rfl, hobj, hints, hlen⟩ := script_of hn hpre hwl
  refine enter_call (codeAny_mono (call w s₀ s₁ mg mb fa a vs ns G Y hmg hobj hints hlen (bits_of_lay hlay) hg) fun r s' hq => ?_)
  obtain ⟨rfl, h2, h3, h4⟩ := hq
  exact ⟨.inl ⟨.bool true, .bool true, [], rfl, fun _ => rfl, .bool true, post_true l _, fun _ => ⟨List.Pairwise.nil, fun _ hm => (nomatch hm)⟩⟩, h2, h3, h4⟩
end Att
namespace L2
open PySem PySem.Spec PyProof.Rows
/-- a def by what the top has written -/
theorem fnAt_mk {K : PySem.W.Frag} {mg : Str → Option Value} {h : Heap} {x : Str} {st : Stmt} {ps : List Str} {f : Addr} {oc : Value} {od an : Option Addr} {osl : Array (Option Value)} {kV doc pm cdv ct : Value} (X : K.In h) (G : h.Ns mainGlobals mg)
    (a : PySem.W.nsIn K mainGlobals x = some (some (.ref f)))
    (l : K.lookup f = some ⟨oc, od, .func (PySem.W.fnOf x x (defArgs st) (defBody st) (defScope st) .none kV doc pm an cdv ct), osl⟩)
    (c : PySem.W.codeIn K cdv x = true) (k : PySem.W.keepIn K (.ref f) = true)
    (b : ∀ (kV doc pm : Value) (an : Option Addr) (cdv ct : Value) (us : List Value), us.length = ps.length → bindArgs (PySem.W.fnOf x x (defArgs st) (defBody st) (defScope st) .none kV doc pm an cdv ct) ⟨us, []⟩ = pure (ps.zip us)) :
    FnAt K mg x st ps f (PySem.W.fnOf x x (defArgs st) (defBody st) (defScope st) .none kV doc pm an cdv ct) :=
  ⟨fun_mk l c k, (fun_mk l c k).binds b, PySem.W.mg_of X G a⟩
end L2
namespace L2
open PySem PySem.Spec PyProof.Rows
section
variable {X : Cx}
theorem op_mulB : OpR X (binaryOp .Mult) (rI IntMulOk fun i j => .int (i * j)) := opI fun _ _ _ _ _ _ _ hc q => mul_int q hc
def CDivP (_ j : Int) : Prop := 0 < j ∧ j.natAbs.log2 < 9000
theorem op_fdivP : OpR X (binaryOp .FloorDiv) (rI CDivP fun i j => .int (i / j)) := opI fun i j _ _ _ _ _ hc q => by
  have h0 : (0 : Int) < j := hc.1
  refine floordiv_int (by omega) ?_ (.inl (PyProof.noPylong_of_log2 hc.2))
  rw [Int.fdiv_eq_ediv_of_nonneg _ (Int.le_of_lt h0)]
  exact q
def CDivB (_ j : Int) : Prop := j ≠ 0 ∧ j.natAbs.log2 < 9000
def rIsi (K : PySem.W.Frag) : List V → Hp → VK → Prop := fun xs H Q => ∃ x n t b, xs = [x, .ty n] ∧ TyOf K H x t ∧ PySem.W.kitOne K t (.type n) = some b ∧ Q (.bl b) H
theorem call_isi : CallR X (.builtin "isinstance") (rIsi X.K) := by
  intro pins s σ H xs us Q I r h
  obtain ⟨x, n, t, b, rfl, ty, e, q⟩ := h
  obtain ⟨u, w', rfl, r1, r2⟩ := vals2 r
  cases (show w' = Value.type n from r2)
  exact isinst_ok I r1 ty e fun tk => ⟨.bl b, H, I.tok tk, rfl, q⟩
def rIsiC (K : PySem.W.Frag) : List V → Hp → VK → Prop := fun xs H Q => ∃ x C t b, xs = [x, .ref C] ∧ TyOf K H x t ∧ PySem.W.kitOne K t (.ref C) = some b ∧ Q (.bl b) H
def rEqT (K : PySem.W.Frag) : R2 := fun x y H Q => ∃ (a b : Addr) (ns ms : List Int), x = .ref a ∧ y = .ref b ∧ SqT K H a (ns.map V.int) ∧ SqT K H b (ms.map V.int) ∧ Q (.bl (decide (ns = ms))) H
end
def cCx (X : Cx) (scope : Scope) (cl : List (Str × Addr)) (C : Addr) (Nc : List Str) (s : Shared) (H : Hp) (fp : List Addr) : Cx where
  prog := X.prog
  w := X.w
  K := X.K
  mg := X.mg
  base := X.base
  A := X.A
  N := Nc
  s₀ := s
  H₀ := H
  env := compEnvC scope cl C X.env
  outer := X.stack
  stack := X.stack
  ex := fp
  fn := fun _ => false
  calm := X.calm
  pn := []
  xe := fun _ _ => False
/-- the tests of a clause -/
def PTs (X : Cx) (ifs : List Expr) (t : TT) : Prop :=
  ∀ (pins : List (Addr × Obj)) (s : Shared) (σ : St) (H : Hp) (Q : Bool → Hp → Prop), Inv X pins σ H s → t σ H Q →
    wpAny (model X.prog X.w) X.A (forIn ifs true fun c r => if r = true then do let ok ← isTrue c X.env (eval c X.env); pure (ForInStep.yield ok) else pure (ForInStep.yield r)) (TP X pins σ Q) X.xe s
def tTrue : TT := fun _ H Q => Q true H
theorem pts_nil {X : Cx} : PTs X [] tTrue := fun _ _ _ H _ I h => wpAny_tests_nil ⟨H, I, h⟩
theorem pts_one {X : Cx} {c : Expr} {t : TT} (h : PT X c t) : PTs X [c] t := fun pins s σ H Q I q => wpAny_tests_one (h pins s σ H Q I q)
theorem comp_loop0 {prog : Program} {w : World} {A : Around} {R : Result → Shared → Prop} {s : Shared} {elt target iter : Expr} {ifs : List Expr} {scope : Scope} {pos : Pos} {it acc : Value} {env : Env} (I : Nat → Shared → Prop)
    (turn : ∀ n s, I n s → wpAny (model prog w) A (pyNext it) (fun r s₁ => match r with
      | none => R (.ok .next) s₁
      | some v => wpAny (model prog w) A (letOwnedTupleGo target it v) (fun _ s₂ => wpAny (model prog w) A (assign target env v) (fun _ s₃ =>
          wpAny (model prog w) A (forIn ifs true fun c r => if r = true then do let ok ← isTrue c env (eval c env); pure (ForInStep.yield ok) else pure (ForInStep.yield r)) (fun ok s₄ =>
            if ok = true then wpAny (model prog w) A (eval elt env) (fun x s₅ =>
              wpAny (model prog w) A (call (.builtin "list.append") [acc, x]) (fun _ s₆ => ∃ m, m < n ∧ I m s₆) (fun _ _ => False) s₅) (fun _ _ => False) s₄
            else ∃ m, m < n ∧ I m s₄) (fun _ _ => False) s₃) (fun _ _ => False) s₂) (fun _ _ => False) s₁) (fun _ _ => False) s)
    (n : Nat) (h : I n s) :
    codeAny (model prog w) A (.compLoop (.ListComp elt [⟨target, iter, ifs, 0⟩] scope pos) 0 it acc env) R s := by
  refine codeAny_loop rfl I (fun n s hI => ?_) n h
  show wpAny _ A ((compTurn (.ListComp elt [⟨target, iter, ifs, 0⟩] scope pos) 0 it acc env).onRaise (fun x => do noteFrame x env; theTreesLotGoes x)) _ _ s
  refine wpAny_noted ?_
  rw [compTurn_list]
  refine wpAny_bind (wpAny_standAt (wpAny_bind (wpAny_mono (turn n s hI) (fun r s₁ h₁ => ?_) fun _ _ h' => h'.elim)))
  cases r with
  | none => exact wpAny_pure h₁
  | some v =>
    refine wpAny_bind (wpAny_mono h₁ (fun _ s₂ h₂ => wpAny_bind (wpAny_mono h₂ (fun _ s₃ h₃ => wpAny_bind (wpAny_mono h₃ (fun ok s₄ h₄ => ?_) fun _ _ h' => h'.elim)) fun _ _ h' => h'.elim)) fun _ _ h' => h'.elim)
    cases ok with
    | false => exact wpAny_pure ⟨rfl, h₄⟩
    | true =>
      exact wpAny_bind (wpAny_bind (wpAny_mono h₄ (fun x s₅ h₅ => wpAny_bind (wpAny_mono h₅ (fun _ s₆ h₆ => wpAny_pure (wpAny_pure ⟨rfl, h₆⟩)) fun _ _ h' => h'.elim)) fun _ _ h' => h'.elim))
/-- the reading: W, the invariant by turn, measure, the block's slots, the list so far, heap -/
def CompW (J : It) (g : TG) (tt : TT) (te : TE) (σ0 : St) (Q : VK) (D : Addr) (H1 : Hp) : Prop :=
  ∃ W : Nat → Nat → St → List V → Hp → Prop, (∃ m, W 0 m σ0 [] H1) ∧ ∀ i m σ2 ys H2, W i m σ2 ys H2 → H2 D = some (.lst ys) ∧ ys.length < sizeLine ∧
    ((J.stop i H2 ∧ Q (.ref D) H2) ∨ (J.go i H2 ∧ ∀ x H3, J.yld i H2 x H3 → g x σ2 H3 fun σ4 H4 => tt σ4 H4 fun b H5 =>
      if b = true then te σ4 H5 fun v H6 => H6 D = some (.lst ys) ∧ ∃ m', m' < m ∧ W (i + 1) m' σ4 (ys ++ [v]) (upd H6 D (.lst (ys ++ [v])))
      else ∃ m', m' < m ∧ W (i + 1) m' σ4 ys H5))
def tComp (wi : TI) (g : TG) (tt : TT) (te : TE) (σc : St → St) : TE := fun σ H Q => wi σ H fun J H1 => ∀ D, H1 D = none → CompW J g tt te (σc σ) Q D (upd H1 D (.lst []))
/-- what the block takes from the frame around -/
structure Caps (X : Cx) (scope : Scope) (cl : List (Str × Addr)) (Nc : List Str) (σc : St → St) : Prop where
  clos : closureFor scope X.env = pure cl
  kind : scope.kind = .function
  nocell : ∀ y ∈ scope.names, y.2 ≠ .cell
  names : ∀ y ∈ scope.names, y.2 = .local → scope.names.lookup y.1 = some .local
  cells : ∀ x c, cl.lookup x = some c → X.env.cells.lookup x = some c
  has : ∀ x, ((relabel scope X.env).names.lookup x = some .cell ∨ (relabel scope X.env).names.lookup x = some .free) → ∃ c, cl.lookup x = some c
  len : ∀ σ, (σc σ).length = Nc.length
  cap : ∀ σ (i : Nat) x v, Nc[i]? = some x → (σc σ)[i]? = some (some v) → Vis (relabel scope X.env) x →
    ((relabel scope X.env).names.lookup x = some .cell ∨ (relabel scope X.env).names.lookup x = some .free) ∧
    (X.env.kindOf x = some .cell ∨ X.env.kindOf x = some .free) ∧ ∃ j : Nat, X.N[j]? = some x ∧ σ[j]? = some (some v) ∧ Vis X.env.scope x
section
variable {X : Cx} {tg iter elt : Expr} {ifs : List Expr} {scope : Scope} {cl : List (Str × Addr)} {Nc : List Str} {σc : St → St} {pos : Pos} {wi : TI} {g : TG} {tt : TT} {te : TE}
theorem cCx_ok {pins : List (Addr × Obj)} {σ : St} {H : Hp} {s : Shared} {fp : List Addr} {C : Addr} (I : Inv X pins σ H s) (c : Caps X scope cl Nc σc) (hC : s.heap.objs.size ≤ C) (hf : ∀ b ∈ fp, FpOk X pins H b) (hlt : ∀ b ∈ fp, b < s.heap.objs.size) :
    (cCx X scope cl C Nc s H fp).Ok where
  mod := I.ok.mod
  kind := c.kind
  glob := I.ok.glob
  blt := I.ok.blt
  above := hC
  inj := fun x y a h1 h2 => I.ok.inj x y a (c.cells x a h1) (c.cells y a h2)
  has := c.has
  cab := fun _ _ h _ => absurd (show false = true from h) Bool.false_ne_true
  hd := I.ok.hd
  frames := I.ok.frames
  stk := .inl rfl
  exf := fun b hb => ⟨fun z => absurd (Nat.lt_of_lt_of_le (hlt b hb) hC) (by
      have z' : b = C := z
      rw [z']
      exact Nat.lt_irrefl _), fun x a h z => (hf b hb).2.2.2.2.1 x a (c.cells x a h) z⟩
  bs := I.bs
  bsz := Nat.le_trans I.ok.bsz I.sz
  noex := fun b o e hb => by
    rcases (hf b hb).2.2.2.1 with z | z
    · exact I.ok.noex b o e z
    · exact absurd (Nat.lt_of_lt_of_le (Heap.lt_size e) (Nat.le_trans I.ok.bsz z)) (Nat.lt_irrefl _)
  exfs := fun b hb z => by
    rcases List.mem_cons.mp (I.stkSub b z) with q | q
    · exact (hf b hb).2.1 q
    · exact (hf b hb).2.2.1 q
  funs := I.stack
  frf := I.stkFree
theorem cCx_inv {pins : List (Addr × Obj)} {σ : St} {H : Hp} {s : Shared} {fp : List Addr} {C : Addr} {h' : Heap} {t' : Nat} {m : Str → Option Value} (I : Inv X pins σ H s) (c : Caps X scope cl Nc σc) (hC : s.heap.objs.size ≤ C)
    (hf : ∀ b ∈ fp, FpOk X pins H b) (hlt : ∀ b ∈ fp, b < s.heap.objs.size) (hk : ∀ b o, s.heap.get? b = some o → h'.get? b = some o) (hn : h'.Ns C m) :
    Inv (cCx X scope cl C Nc s H fp) [] (σc σ) H { s with heap := h', toks := t' } := by
  refine ⟨cCx_ok I c hC hf hlt, rfl, I.bare, Un.kept hk, ⟨m, hn, fun i x v e1 e2 e3 => ?_⟩, fun x a h => ?_, I.hok.fresh hC, fun x a h => I.freeC x a (c.cells x a h), fun p hp => absurd (show p ∈ ([] : List (Addr × Obj)) from hp) (by simp), I.hok.kept hk, c.len σ⟩
  · obtain ⟨k1, k2, j, n1, n2, n3⟩ := c.cap σ i x v e1 e2 e3
    obtain ⟨m0, _, hl⟩ := I.loc
    obtain ⟨u, ru, lk⟩ := hl j x v n1 n2 n3
    refine ⟨u, ru, .inr ⟨k1, ?_⟩⟩
    rcases lk with ⟨z, _⟩ | ⟨_, a, ha, hcell⟩
    · rcases k2 with k2 | k2 <;> rw [k2] at z <;> cases z
    · obtain ⟨a', ha'⟩ := c.has x k1
      have e := c.cells x a' ha'
      rw [ha] at e
      cases e
      obtain ⟨o, ho, hd⟩ := hcell
      exact ⟨a, ha', ⟨o, hk _ _ ho, hd⟩⟩
  · obtain ⟨v, o, ho, hd⟩ := I.cell x a (c.cells x a h)
    exact ⟨v, o, hk _ _ ho, hd⟩
/-- the block runs -/
theorem comp_block {pins : List (Addr × Obj)} {σ : St} {H : Hp} {s : Shared} {Q : VK} {J : It} {fp : List Addr} {it : Addr} {tn : Nat → Heap → Prop} {RR : Value → Addr → Result → Shared → Prop} {E : Value → Shared → Prop}
    (hc : X.calm = true) (c : Caps X scope cl Nc σc)
    (hg : ∀ C s H fp, PG (cCx X scope cl C Nc s H fp) tg g) (ht : ∀ C s H fp, PTs (cCx X scope cl C Nc s H fp) ifs tt) (he : ∀ C s H fp, PE (cCx X scope cl C Nc s H fp) elt te)
    (I : Inv X pins σ H s) (T : Turn X.prog X.w X.K tg J fp it tn) (st : tn 0 s.heap) (hf : ∀ b ∈ fp, FpOk X pins H b)
    (h : ∀ D, H D = none → CompW J g tt te (σc σ) Q D (upd H D (.lst [])))
    (hRR : ∀ D C H' s' m, Inv X pins σ H' s' → H' C = none → s.heap.objs.size ≤ C → s'.heap.Ns C m → Q (.ref D) H' → RR (.ref D) C (.ok .next) s') :
    wpAny (model X.prog X.w) X.A (newList []) (fun acc s₃ => wpAny (model X.prog X.w) X.A (newFunctionEnv scope X.env.globals cl [] X.env.qual none .none (some X.env)) (fun cenv s₄ =>
      codeAny (model X.prog X.w) X.A (.compStart (.ListComp elt [⟨tg, iter, ifs, 0⟩] scope pos) 0 (.ref it) acc { cenv with scope := relabel scope X.env }) (RR acc cenv.locals) s₄) E s₃) E s := by
  have fit : ∀ b ∈ fp, b < s.heap.objs.size := fun b hb => by
    obtain ⟨o, e, _⟩ := T.obj _ _ st b hb
    exact Heap.lt_size e
  obtain ⟨W, ⟨m0, w0⟩, turn⟩ := h s.heap.objs.size (I.hok.fresh (Nat.le_refl _))
  refine wpAny_newObj_type (wpAny_newFunctionEnv c.nocell (by intro y hy; simp at hy) (fun h₁ hns₁ hsb₁ => ?_) c.kind)
  dsimp only at hns₁ hsb₁ ⊢
  have I1 : Inv X pins σ (upd H s.heap.objs.size (.lst [])) { s with heap := s.heap.push { cls := .type "list", dict := none, data := .seq ([] : List Value).toArray } } :=
    I.laid (t' := s.toks) (fun b u e => Heap.get?_push_of_some _ e) (Nat.le_refl _) ⟨Nat.zero_le _, [], 0, .nil, Heap.get?_push_size _ rfl⟩
  generalize hH2 : s.heap.push { cls := .type "list", dict := none, data := .seq ([] : List Value).toArray } = G at hns₁ hsb₁ I1 ⊢
  have hG : G.objs.size = s.heap.objs.size + 1 := by rw [← hH2, Heap.size_push]
  have old : ∀ b o, G.get? b = some o → h₁.get? b = some o := fun b o e => hsb₁.extBut b o (Nat.ne_of_lt (Heap.lt_size e)) (Heap.get?_push_of_some _ e)
  have hf1 : ∀ b ∈ fp, FpOk X pins (upd H s.heap.objs.size (.lst [])) b := fun b hb =>
    ⟨by rw [upd_ne (Nat.ne_of_lt (fit b hb))]; exact (hf b hb).1, (hf b hb).2⟩
  have hlt1 : ∀ b ∈ fp, b < G.objs.size := fun b hb => Nat.lt_of_lt_of_le (fit b hb) (by rw [hG]; exact Nat.le_succ _)
  have I2 := cCx_inv (C := G.objs.size) (t' := s.toks + ([] : List (Str × Value)).length) I1 c (Nat.le_refl _) hf1 hlt1 old hns₁
  have st1 : tn 0 h₁ := T.keep _ _ _ st fun b hb o e => old b o (by rw [← hH2]; exact Heap.get?_push_of_some _ e)
  -- the iterator's own objects, seen from the block
  have fpB : ∀ {H' : Hp}, (∀ b ∈ fp, H' b = none) → ∀ b ∈ fp, FpOk (cCx X scope cl G.objs.size Nc { s with heap := G } (upd H s.heap.objs.size (.lst [])) fp) [] H' b := fun {H'} hn b hb => by
    have ok := cCx_ok (C := G.objs.size) I1 c (Nat.le_refl _) hf1 hlt1
    obtain ⟨e1, e2⟩ := ok.exf b hb
    exact ⟨hn b hb, e1, ok.exfs b hb, .inl hb, e2, fun p hp => absurd (show p ∈ ([] : List (Addr × Obj)) from hp) (by simp)⟩
  have loop : ∀ s₃ : Shared, s₃ = { s with heap := h₁, toks := s.toks + ([] : List (Str × Value)).length } →
      codeAny (model X.prog X.w) X.A (.compLoop (.ListComp elt [⟨tg, iter, ifs, 0⟩] scope pos) 0 (.ref it) (.ref s.heap.objs.size) (compEnvC scope cl G.objs.size X.env))
        (RR (.ref s.heap.objs.size) G.objs.size) s₃ := by
    rintro s₃ rfl
    refine comp_loop0 (fun n s' => ∃ i σ' ys H', Inv (cCx X scope cl G.objs.size Nc { s with heap := G } (upd H s.heap.objs.size (.lst [])) fp) [] σ' H' s' ∧ tn i s'.heap ∧ (∀ b ∈ fp, H' b = none) ∧ W i n σ' ys H') ?_ m0
      ⟨0, σc σ, [], _, I2, st1, fun b hb => (hf1 b hb).1, w0⟩
    rintro n s5 ⟨i, σ5, ys, H5, I5, st5, fr5, w5⟩
    obtain ⟨hD, hsz, alt⟩ := turn i n σ5 ys H5 w5
    rcases alt with ⟨stop, q⟩ | ⟨go, step⟩
    · refine thn (T.done (cCx X scope cl G.objs.size Nc { s with heap := G } (upd H s.heap.objs.size (.lst [])) fp) rfl rfl rfl hc i [] s5 σ5 H5 _ I5 (fpB fr5) st5 stop) fun r s6 ⟨hr, I6⟩ => ?_
      subst hr
      obtain ⟨m6, n6, _⟩ := I6.loc
      have I7 : Inv X pins σ H5 s6 := I1.call' I6.os I6.base I6.hok I6.bare fun b hb => ⟨(hf1 b hb).2.2.2.1, (hf1 b hb).2.1, (hf1 b hb).2.2.2.2.1, (hf1 b hb).2.2.2.2.2⟩
      exact hRR _ _ H5 s6 m6 I7 I6.free (by rw [hG]; exact Nat.le_succ _) n6 q
    · refine thn (T.item (cCx X scope cl G.objs.size Nc { s with heap := G } (upd H s.heap.objs.size (.lst [])) fp) rfl rfl rfl hc i [] s5 σ5 H5 _ I5 (fpB fr5) st5 go) fun r s6 ⟨u, hr, h6⟩ => ?_
      subst hr
      refine thn h6 fun _ s7 ⟨x, H7, I7, r7, y7, st7, fr7⟩ => ?_
      have I7' := I7.pinned (fpB fr7) (T.obj _ _ st7)
      refine thn (hg _ _ _ _ _ s7 σ5 H7 x u _ I7' r7 (step x H7 y7)) fun _ s8 ⟨σ8, H8, I8, q8⟩ => ?_
      refine thn (ht _ _ _ _ _ s8 σ8 H8 _ I8 q8) fun ok s9 ⟨H9, I9, q9⟩ => ?_
      have again : ∀ {σ' : St} {H' : Hp} {s' : Shared} {ys' : List V} {m' : Nat}, Inv (cCx X scope cl G.objs.size Nc { s with heap := G } (upd H s.heap.objs.size (.lst [])) fp) ([] ++ pinsAt fp s7.heap) σ' H' s' → m' < n → W (i + 1) m' σ' ys' H' →
          ∃ m, m < n ∧ ∃ i σ' ys H', Inv (cCx X scope cl G.objs.size Nc { s with heap := G } (upd H s.heap.objs.size (.lst [])) fp) [] σ' H' s' ∧ tn i s'.heap ∧ (∀ b ∈ fp, H' b = none) ∧ W i m σ' ys H' := fun {σ' H' s' ys' m'} J7 hm hw => by
        refine ⟨m', hm, i + 1, σ', ys', H', J7.unpinned, T.keep _ _ _ st7 fun b hb o e => (J7.pin (b, o) (List.mem_append_right _ (List.mem_append_right _ (mem_pinsAt hb e)))).1, fun b hb => ?_, hw⟩
        obtain ⟨o, e, d⟩ := T.obj _ _ st7 b hb
        exact (J7.pin (b, o) (List.mem_append_right _ (List.mem_append_right _ (mem_pinsAt hb e)))).2.1
      cases ok with
      | false =>
        rw [if_neg Bool.false_ne_true] at q9 ⊢
        obtain ⟨m', hm, hw⟩ := q9
        exact again I9 hm hw
      | true =>
        rw [if_pos rfl] at q9 ⊢
        refine thn (he _ _ _ _ _ s9 σ8 H9 _ I9 q9) fun v s10 ⟨y, H10, I10, r10, hD10, m', hm, hw⟩ => ?_
        refine thn (mt_append _ s10 σ8 H10 (.ref s.heap.objs.size) [y] (.ref s.heap.objs.size) [v] (fun _ H' => H' = upd H10 s.heap.objs.size (.lst (ys ++ [y]))) I10 rfl (.cons r10 .nil) ⟨_, ys, y, rfl, rfl, hD10, hsz, rfl⟩) fun _ s11 ⟨z, H11, I11, _, e11⟩ => ?_
        subst e11
        exact again I11 hm hw
  exact codeAny_compStart_list (loop _ rfl) (T.self _ 0 _ _ _ st1 (loop _ rfl))
/-- [elt for tg in iter if ..], as a value -/
theorem pe_comp (hc : X.calm = true) (c : Caps X scope cl Nc σc) (hi : PI X tg iter wi)
    (hg : ∀ C s H fp, PG (cCx X scope cl C Nc s H fp) tg g) (ht : ∀ C s H fp, PTs (cCx X scope cl C Nc s H fp) ifs tt) (he : ∀ C s H fp, PE (cCx X scope cl C Nc s H fp) elt te)
    (hs : ∀ x, foldedSetIterable iter X.env x = pure x := by intro _; rfl) : PE X (.ListComp elt [⟨tg, iter, ifs, 0⟩] scope pos) (tComp wi g tt te σc) := by
  intro pins s σ H Q I h
  rw [eval_ListComp]
  refine wpAny_comprehension_free (use := none) rfl hs c.clos c.kind c.names (thn (hi pins s σ H _ I h) fun v s1 h1 => thn h1 fun itv s2 h2 => ?_)
  obtain ⟨it, fp, tn, J, H2, rfl, I2, T, st2, f2, W⟩ := h2
  refine comp_block (Q := Q) hc c hg ht he I2 T st2 f2 W ?_
  intro D C H' s' m I' hC hCs hn q
  refine ⟨m, hn, fun h' sb => ⟨.ref D, H', ?_, rfl, q⟩⟩
  have nl : C ≠ X.env.locals := Nat.ne_of_gt (Nat.lt_of_lt_of_le I2.lt hCs)
  refine I'.turned (t' := s'.toks) (it := C) (fun b o hb e => sb.extBut b o hb e) hC nl (.inr (Nat.le_trans I2.sz hCs)) (fun x a e z => ?_) (fun p hp z => ?_)
  · obtain ⟨v, q⟩ := I2.cell x a e
    exact absurd (Nat.lt_of_lt_of_le q.lt hCs) (by rw [z]; exact Nat.lt_irrefl _)
  · exact absurd (Nat.lt_of_lt_of_le (Heap.lt_size (I2.pin p hp).1) hCs) (by rw [z]; exact Nat.lt_irrefl _)
/-- y = [elt for tg in iter if ..], the store ahead of the block's end -/
theorem ps_comp {i : Nat} {y : Str} {py spos : Pos} (hc : X.calm = true) (hN : X.N.Nodup) (hiy : X.N[i]? = some y) (hy : Loc X.env.scope y) (c : Caps X scope cl Nc σc) (hi : PI X tg iter wi)
    (hg : ∀ C s H fp, PG (cCx X scope cl C Nc s H fp) tg g) (ht : ∀ C s H fp, PTs (cCx X scope cl C Nc s H fp) ifs tt) (he : ∀ C s H fp, PE (cCx X scope cl C Nc s H fp) elt te)
    (hsw : swapsWith (.ListComp elt [⟨tg, iter, ifs, 0⟩] scope pos) (some (.Name y py)) spos.line X.env = pure true := by rfl)
    (hs : ∀ x, foldedSetIterable iter X.env x = pure x := by intro _; rfl) (hf : X.fn y = true ∨ X.env.scope.names.lookup y = some .local := by first | exact .inl rfl | exact .inr rfl | assumption) :
    PS X (.Assign [.Name y py] (.ListComp elt [⟨tg, iter, ifs, 0⟩] scope pos) spos) (tAsg (tComp wi g tt te σc) (gName i)) := by
  intro pins s σ H D I h
  rw [exec_Assign_Name_used _ _ _ _ hsw]
  refine wpAny_bind (wpAny_standAt (wpAny_bind ?_))
  show wpAny _ X.A (do let _ ← comprehension (.ListComp elt [⟨tg, iter, ifs, 0⟩] scope pos) scope X.env _ (newList []) false (eval iter X.env) (some (assign (.Name y py) X.env))) _ _ s
  refine wpAny_bind (wpAny_mono (wpAny_comprehension_free (use := some (assign (.Name y py) X.env)) (Q := fun _ s' => SP X pins D .next s') rfl hs c.clos c.kind c.names
    (thn (hi pins s σ H _ I h) fun v s1 h1 => thn h1 fun itv s2 h2 => ?_)) (fun _ s' hq => wpAny_pure (wpAny_pure hq)) fun _ _ e => e)
  obtain ⟨it, fp, tn, J, H2, rfl, I2, T, st2, f2, W⟩ := h2
  refine comp_block (Q := fun v H' => D.nx (σ.set i (some v)) H') hc c hg ht he I2 T st2 f2 W ?_
  intro L C H' s' m I' hC hCs hn q
  have nl : C ≠ X.env.locals := Nat.ne_of_gt (Nat.lt_of_lt_of_le I2.lt hCs)
  have nfs : C ∉ X.fs := I2.nofs hCs
  obtain ⟨oC, es, ep, hoC, hdC, hrC⟩ := id hn
  have ncell : ∀ v, oC.data ≠ .cell v := fun v z => by rw [hdC] at z; cases z
  have I'' : Inv X (pins ++ [(C, oC)]) σ H' s' := I'.pins_of fun p hp => by
    rcases List.mem_append.mp hp with z | z
    · exact I'.pin p (List.mem_append_right _ z)
    · have e : p = (C, oC) := by simpa using z
      subst e
      exact ⟨hoC, hC, nl, nfs, ncell⟩
  show wpAny _ X.A (assign (.Name y py) X.env (.ref L)) _ _ _
  refine wpAny_assign_Name (store_ok I'' hN hiy hy (v := .ref L) rfl (fun s3 I3 => ?_) hf)
  have hn3 : s3.heap.Ns C m := ⟨oC, es, ep, (I3.pin (C, oC) (by simp)).1, hdC, hrC⟩
  refine ⟨m, hn3, fun h' sb => ⟨σ.set i (some (.ref L)), H', ?_, q⟩⟩
  refine I3.unpinned.turned (t' := s3.toks) (it := C) (fun b o hb e => sb.extBut b o hb e) hC nl (.inr (Nat.le_trans I2.sz hCs)) (fun x a e z => ?_) (fun p hp z => ?_)
  · obtain ⟨v, q⟩ := I2.cell x a e
    exact absurd (Nat.lt_of_lt_of_le q.lt hCs) (by rw [z]; exact Nat.lt_irrefl _)
  · exact absurd (Nat.lt_of_lt_of_le (Heap.lt_size (I2.pin p hp).1) hCs) (by rw [z]; exact Nat.lt_irrefl _)
/-- no name of the frame around is taken -/
theorem caps0 (hk : scope.kind = .function) (hfree : ∀ x ∈ scope.names, x.2 ≠ .free) (hcell : ∀ x ∈ scope.names, x.2 ≠ .cell) (hnames : ∀ y ∈ scope.names, y.2 = .local → scope.names.lookup y.1 = some .local) :
    Caps X scope [] Nc (fun _ => List.replicate Nc.length none) where
  clos := closureFor_none hfree
  kind := hk
  nocell := hcell
  names := hnames
  cells := fun x c e => by cases e
  has := fun x h => by
    have hm : (relabel scope X.env).names = scope.names := by
      unfold relabel
      refine map_eq_self fun y hy => ?_
      obtain ⟨n, k⟩ := y
      have : (k == NameKind.free) = false := by simpa using hfree _ hy
      simp [this]
    rw [hm] at h
    rcases h with h | h
    · exact absurd rfl (hcell _ (PySem.mem_of_lookup h))
    · exact absurd rfl (hfree _ (PySem.mem_of_lookup h))
  len := fun _ => by simp
  cap := fun σ i x v _ e _ => by
    rw [List.getElem?_replicate] at e
    split at e <;> cases e
end
end L2
namespace L2
open PySem PySem.Spec PyProof.Rows
/-- the pairs of the lists at a and b -/
def Itz (K : PySem.W.Frag) (a b : Addr) : It :=
  ⟨fun i H => ∃ xs ys x y, SqL K H a xs ∧ SqL K H b ys ∧ xs[i]? = some x ∧ ys[i]? = some y,
   fun i H v H' => ∃ p, v = .ref p ∧ H p = none ∧ ∀ xs ys x y, SqL K H a xs → SqL K H b ys → xs[i]? = some x → ys[i]? = some y → H' = upd H p (.tup [x, y]),
   fun i H => ∃ xs ys, SqL K H a xs ∧ SqL K H b ys ∧ (xs.length ≤ i ∨ ys.length ≤ i)⟩
section
variable {X : Cx} {pins : List (Addr × Obj)} {σ : St} {H : Hp} {s : Shared} {h' : Heap}
/-- some untracked records of ours have turned, a new object is laid -/
theorem Inv.turnedLaid {t' : Nat} {ch : List Addr} {p : Addr} {o : HO} (I : Inv X pins σ H s) (k : ∀ b u, b ∉ ch → s.heap.get? b = some u → h'.get? b = some u) (hf : ∀ b ∈ ch, FpOk X pins H b)
    (hp : s.heap.objs.size ≤ p) (new : ObjOk X.prog X.w (upd H p o) h' p o) : Inv X pins σ (upd H p o) { s with heap := h', toks := t' } := by
  have hn := I.hok.fresh hp
  have nch : ∀ b u, H b = some u → b ∉ ch := fun b u e z => by rw [(hf b z).1] at e; cases e
  refine I.call (g' := s.gens) (d' := s.drawn) (ch := ch) ⟨fun b u e _ _ hc => k b u hc e, fun b u e _ _ hc => ⟨u.slots, k b u hc e⟩, fun b u e n _ => ?_, fun b u e hc => ⟨u, k b u hc e⟩, fun b xs e => ?_, fun b u xs e => ?_, fun b ps e => ?_⟩ (fun b u e => ?_) I.bare
    fun b hb => ⟨(hf b hb).2.2.2.1, (hf b hb).2.1, (hf b hb).2.2.2.2.1, (hf b hb).2.2.2.2.2⟩
  · rw [upd_ne (Nat.ne_of_lt (Nat.lt_of_lt_of_le (Heap.lt_size e) hp))]
    exact n
  · rw [upd_ne (ne_of_none e hn)]
    exact e
  · rw [upd_ne (ne_of_none e hn)]
    exact e
  · exact ⟨#[], by rw [upd_ne (ne_of_none e hn), e]; simp⟩
  · by_cases hb : b = p
    · subst hb
      rw [upd_same] at e
      cases e
      exact new
    · rw [upd_ne hb] at e
      refine (I.hok b u e).stay (fun c v hc q => k c v ?_ q) (fun c q => by rw [upd_ne (ne_of_none q hn)]; exact q) fun c xs q => by rw [upd_ne (ne_of_none q hn)]; exact q
      rcases hc with z | z
      · rw [z]
        exact nch b u e
      · exact nch c _ z
/-- .. nothing laid -/
theorem Inv.turnedAll {t' : Nat} {ch : List Addr} (I : Inv X pins σ H s) (k : ∀ b u, b ∉ ch → s.heap.get? b = some u → h'.get? b = some u) (hf : ∀ b ∈ ch, FpOk X pins H b) : Inv X pins σ H { s with heap := h', toks := t' } := by
  have nch : ∀ b u, H b = some u → b ∉ ch := fun b u e z => by rw [(hf b z).1] at e; cases e
  refine I.call (g' := s.gens) (d' := s.drawn) (ch := ch) ⟨fun b u e _ _ hc => k b u hc e, fun b u e _ _ hc => ⟨u.slots, k b u hc e⟩, fun b u e n _ => n, fun b u e hc => ⟨u, k b u hc e⟩, fun b xs e => e, fun b u xs e => e, fun b ps e => ⟨#[], by rw [e]; simp⟩⟩ (fun b u e => ?_) I.bare
    fun b hb => ⟨(hf b hb).2.2.2.1, (hf b hb).2.1, (hf b hb).2.2.2.2.1, (hf b hb).2.2.2.2.2⟩
  refine (I.hok b u e).stay (fun c v hc q => k c v ?_ q) (fun c q => q) fun c xs q => q
  rcases hc with z | z
  · rw [z]
    exact nch b u e
  · exact nch c _ z
end
theorem turn_zip {P : Program} {w : World} {K : PySem.W.Frag} {elts : List Expr} {kk : Nat} {pos : Pos} (a b z TI TO i1 i2 : Addr) (D : ZipApart z TI TO i1 i2 a b) :
    Turn P w K (.Tuple elts kk pos) (Itz K a b) [z, TI, TO, i1, i2] z (fun i h => IsZip h z TI TO .none ∧ IsPair h TI (.ref i1) (.ref i2) ∧ (∃ x y, IsPair h TO x y) ∧ h.IsListIter i1 a i ∧ h.IsListIter i2 b i) where
  mem := by simp
  obj := fun i h st c hc => by
    obtain ⟨hz, hTI, ⟨x, y, hTO⟩, ⟨o1, e1, c1, d1⟩, ⟨o2, e2, c2, d2⟩⟩ := st
    have hc' : c = z ∨ c = TI ∨ c = TO ∨ c = i1 ∨ c = i2 := by simpa using hc
    rcases hc' with rfl | rfl | rfl | rfl | rfl
    · exact ⟨_, hz, fun v q => by have q' : Data.fields _ = Data.cell v := q; cases q'⟩
    · exact ⟨_, hTI, fun v q => by have q' : Data.seq _ _ = Data.cell v := q; cases q'⟩
    · exact ⟨_, hTO, fun v q => by have q' : Data.seq _ _ = Data.cell v := q; cases q'⟩
    · exact ⟨_, e1, fun v q => by rw [d1] at q; cases q⟩
    · exact ⟨_, e2, fun v q => by rw [d2] at q; cases q⟩
  keep := fun i h h' st k => by
    obtain ⟨hz, hTI, ⟨x, y, hTO⟩, h1, h2⟩ := st
    exact ⟨k z (by simp) _ hz, k TI (by simp) _ hTI, ⟨x, y, k TO (by simp) _ hTO⟩, h1.at fun o e => k i1 (by simp) o e, h2.at fun o e => k i2 (by simp) o e⟩
  item := by
    intro X hP hw hK hc i pins s σ H E I hf st hg
    subst hP hw hK
    obtain ⟨xs, ys, x, y, hq1, hq2, hx, hy⟩ := hg
    obtain ⟨its, rv, p1, hz1⟩ := I.list hq1
    obtain ⟨its2, rv2, p2, hz2⟩ := I.list hq2
    obtain ⟨u, hu, ru⟩ := rv.get hx
    obtain ⟨v, hv, rvv⟩ := rv2.get hy
    obtain ⟨hz, hTI, ⟨ta, tb, hTO⟩, h1, h2⟩ := st
    refine wpAny_pyNext_zip_item D hz hTI hTO h1 h2 p1.isList p2.isList (x := u) (y := v) (by simpa using hu) (by simpa using hv) fun h' a1 a2 a3 a4 a5 a6 hk => ?_
    refine ⟨_, rfl, wpAny_letOwnedTupleGo_zip a1 fun h'' hz'' sb => ?_⟩
    have nz : s.heap.objs.size ≠ z := Nat.ne_of_gt (Heap.lt_size hz)
    have hk2 : ∀ c o, c ∉ [z, TI, TO, i1, i2] → s.heap.get? c = some o → h''.get? c = some o := fun c o hc e => by
      simp only [List.mem_cons, List.not_mem_nil, or_false, not_or] at hc
      exact sb.extBut c o hc.1 (hk c o hc.1 hc.2.2.1 hc.2.2.2.1 hc.2.2.2.2 e)
    refine ⟨.ref s.heap.objs.size, upd H s.heap.objs.size (.tup [x, y]), I.turnedLaid (t' := s.toks) hk2 hf (Nat.le_refl _) ⟨two_le, [u, v], .cons ru (.cons rvv .nil), ⟨_, sb.extBut _ _ nz a5, rfl, _, rfl⟩⟩, rfl,
      ⟨_, rfl, I.hok.fresh (Nat.le_refl _), fun xs' ys' x' y' e1 e2 e3 e4 => ?_⟩, ⟨hz'', sb.extBut _ _ D.TIz (hk _ _ D.TIz D.TITO D.TIi1 D.TIi2 hTI), ⟨_, _, sb.extBut _ _ D.TOz a2⟩, a3.extBut sb.extBut D.i1z, a4.extBut sb.extBut D.i2z⟩, fun c hc => ?_⟩
    · rw [I.list_inj e1 hq1, hx] at e3
      rw [I.list_inj e2 hq2, hy] at e4
      cases e3
      cases e4
      rfl
    · obtain ⟨o, e, _⟩ : ∃ o, s.heap.get? c = some o ∧ True := by
        have hc' : c = z ∨ c = TI ∨ c = TO ∨ c = i1 ∨ c = i2 := by simpa using hc
        obtain ⟨o1, e1, _⟩ := h1
        obtain ⟨o2, e2, _⟩ := h2
        rcases hc' with rfl | rfl | rfl | rfl | rfl
        · exact ⟨_, hz, trivial⟩
        · exact ⟨_, hTI, trivial⟩
        · exact ⟨_, hTO, trivial⟩
        · exact ⟨_, e1, trivial⟩
        · exact ⟨_, e2, trivial⟩
      rw [upd_ne (Nat.ne_of_lt (Heap.lt_size e))]
      exact (hf c hc).1
  done := by
    intro X hP hw hK hc i pins s σ H E I hf st hg
    subst hP hw hK
    obtain ⟨xs, ys, hq1, hq2, hend⟩ := hg
    obtain ⟨its, rv, p1, hz1⟩ := I.list hq1
    obtain ⟨its2, rv2, p2, hz2⟩ := I.list hq2
    obtain ⟨hz, hTI, ⟨ta, tb, hTO⟩, h1, h2⟩ := st
    have l1 := rv.length
    have l2 := rv2.length
    refine wpAny_pyNext_zip_end (I.ok.hd hc) D hz hTI hTO h1 h2 p1.isList p2.isList ?_ fun h' hk => ⟨rfl, I.turnedAll (t' := s.toks) (ch := [z, TI, TO, i1, i2]) (fun c o hc e => ?_) hf⟩
    · rcases hend with q | q
      · exact .inl (by simp; omega)
      · exact .inr (by simp; omega)
    · simp only [List.mem_cons, List.not_mem_nil, or_false, not_or] at hc
      exact hk c o hc.1 hc.2.2.1 hc.2.2.2.1 hc.2.2.2.2 e
  self := fun _ _ _ _ _ st h => wpAny_pyIter_zip st.1 h
section
variable {X : Cx} {elts : List Expr} {kk : Nat} {tpos : Pos}
def iZip (K : PySem.W.Frag) (ta : TA) : TI := fun σ H R => ta σ H fun vs H1 => ∃ a b, vs = [.ref a, .ref b] ∧ (∃ xs, SqL K H1 a xs) ∧ (∃ ys, SqL K H1 b ys) ∧ R (Itz K a b) H1
theorem pi_zip {e1 e2 : Expr} {ta : TA} {p pos : Pos} (hg : Gl X "zip") (hm : X.mg "zip" = none) (ha : PA X [e1, e2] ta)
    (hs : starEach [e1, e2] X.env = [(false, eval e1 X.env), (false, eval e2 X.env)] := by rfl) (hs2 : starEach [e2] X.env = [(false, eval e2 X.env)] := by rfl) : PI X (.Tuple elts kk tpos) (.Call (.Name "zip" p) [e1, e2] [] pos) (iZip X.K ta) := by
  intro pins s σ H R I h
  refine Call_ (ld_blt I hg hm Boot.«zip» (PyProof.Rows.callWith_type1 (thn (ha pos pins s σ H _ I h) fun us s1 ⟨vs, H1, I1, r1, q1⟩ => ?_) (by rw [hs, hs2]) (by rw [hs2]; rfl)))
  obtain ⟨a, b, e, ⟨xs, hx⟩, ⟨ys, hy⟩, q⟩ := q1
  subst e
  cases r1 with
  | cons r rr =>
    cases rr with
    | cons r' rr =>
      cases rr
      cases r
      cases r'
      obtain ⟨its, rv, p1, hz1⟩ := I1.list hx
      obtain ⟨its2, rv2, p2, hz2⟩ := I1.list hy
      have l1 : a < s1.heap.objs.size := by obtain ⟨_, e, _⟩ := p1.isList; exact Heap.lt_size e
      have l2 : b < s1.heap.objs.size := by obtain ⟨_, e, _⟩ := p2.isList; exact Heap.lt_size e
      refine call_zip_2 p1.isList p2.isList fun h' hz hTI hTO hi1 hi2 hsz hk => ?_
      refine wpAny_pyIter_zip hz ?_
      refine ⟨s1.heap.objs.size + 4, [s1.heap.objs.size + 4, s1.heap.objs.size + 2, s1.heap.objs.size + 3, s1.heap.objs.size, s1.heap.objs.size + 1], _, _, H1, rfl, I1.kept (t' := s1.toks) hk, turn_zip a b _ _ _ _ _ (zipApart_new l1 l2), ⟨hz, hTI, ⟨_, _, hTO⟩, hi1, hi2⟩, fun c hc => ?_, q⟩
      have hc' : s1.heap.objs.size ≤ c := by
        simp only [List.mem_cons, List.not_mem_nil, or_false] at hc
        rcases hc with e | e | e | e | e <;> rw [e] <;> first | exact Nat.le_refl _ | exact Nat.le_add_right _ _
      exact I1.fpOk hc' (I1.hok.fresh hc')
end
/-- over the pairs of two lists that the body leaves as they are -/
theorem for_zip {K : PySem.W.Frag} {a b : Addr} {xs ys : List V} {g : TG} {tb : TS} {D : Ends} {σ : St} {H : Hp} (Pv : Nat → St → Hp → Prop) (h0 : Pv 0 σ H) (hl : ∀ i σ H, i ≤ min xs.length ys.length → Pv i σ H → SqL K H a xs ∧ SqL K H b ys)
    (hs : ∀ i x y σ H p, xs[i]? = some x → ys[i]? = some y → Pv i σ H → H p = none → g (.ref p) σ (upd H p (.tup [x, y])) fun σ2 H2 => tb { D with nx := Pv (i + 1), ct := Pv (i + 1), bk := D.nx } σ2 H2)
    (hd : ∀ σ H, Pv (min xs.length ys.length) σ H → D.nx σ H) :
    ∃ W : Nat → Nat → St → Hp → Prop, (∃ m, W 0 m σ H) ∧ ∀ i m σ H, W i m σ H →
      ((Itz K a b).stop i H ∧ D.nx σ H) ∨ ((Itz K a b).go i H ∧ ∃ N : St → Hp → Prop, (∀ σ' H', N σ' H' → ∃ m', m' < m ∧ W (i + 1) m' σ' H') ∧ ∀ x H', (Itz K a b).yld i H x H' → g x σ H' fun σ2 H2 => tb { D with nx := N, ct := N, bk := D.nx } σ2 H2) := by
  refine ⟨fun i m σ H => m = min xs.length ys.length - i ∧ i ≤ min xs.length ys.length ∧ Pv i σ H, ⟨min xs.length ys.length, by simp, Nat.zero_le _, h0⟩, ?_⟩
  rintro i m σ H ⟨rfl, hi, p⟩
  obtain ⟨q1, q2⟩ := hl i σ H hi p
  by_cases hlt : i < min xs.length ys.length
  · have h1 : i < xs.length := by omega
    have h2 : i < ys.length := by omega
    refine .inr ⟨⟨xs, ys, xs[i], ys[i], q1, q2, by simp [h1], by simp [h2]⟩, Pv (i + 1), fun σ' H' p' => ⟨min xs.length ys.length - (i + 1), by omega, rfl, hlt, p'⟩, fun v H' y => ?_⟩
    obtain ⟨t, rfl, ht, y⟩ := y
    have e := y xs ys xs[i] ys[i] q1 q2 (by simp [h1]) (by simp [h2])
    subst e
    exact hs i xs[i] ys[i] σ H t (by simp [h1]) (by simp [h2]) p ht
  · have e : i = min xs.length ys.length := by omega
    subst e
    exact .inl ⟨⟨xs, ys, q1, q2, by omega⟩, hd σ H p⟩
end L2
namespace L2
open PySem PySem.Spec PyProof.Rows
/-- an own error class of the text, under ValueError -/
structure ExcCls (K : PySem.W.Frag) (mg : Str → Option Value) (x : Str) (C : Addr) : Prop where
  m : mg x = some (.ref C)
  ex : PySem.W.excIn K C [.type "ValueError", .type "Exception", .type "BaseException", .type "object"] "ValueError.__new__" = true
/-- how an exception lies behind a call: B is what of the state stands as it stood -/
def CXe (P : Program) (w : World) : CXT := fun outer H s E e s' => ∃ (ea : Addr) (cls a0 : Value) (H' : Hp) (B : Heap),
  e = .ref ea ∧ s'.os = s.os ∧ AllBare s'.gens ∧ Un (frs outer) [] H H' s.heap s'.heap ∧ HOk P w H' s'.heap ∧ Heap.FlyingW B outer ea cls a0 s'.heap ∧
  (∀ b o, s'.heap.get? b = some o → b ∉ frs outer → (H' b ≠ none ∨ s.heap.get? b ≠ none) → B.get? b = some o) ∧ H' ea = none ∧ s.heap.get? ea = none ∧ E cls none H'
/-- an exception made here reaches what is wanted of it -/
def Throws (X : Cx) (C : Addr) (R : Hp → Prop) : Prop :=
  ∀ (pins : List (Addr × Obj)) (σ : St) (H : Hp) (s : Shared) (h' : Heap) (ea : Addr) (vs : List Value), Inv X pins σ H s → Heap.MadeExcOf s.heap h' ea (.ref C) vs → R H → X.xe (.ref ea) { s with heap := h' }
section
variable {X : Cx}
def tRaise (te : TE) (R : Hp → Prop) : TS := fun _ σ H => te σ H fun v H1 => ([v] : List V).length = 1 ∧ R H1
end
end L2
namespace L2
open PySem PySem.Spec PyProof.Rows
/-- within the suite of an except -/
abbrev Cx.marked (X : Cx) (ea : Addr) : Cx := { X with A := X.A.mark (some (.ref ea)), calm := false, xe := fun _ _ => False }
section
variable {X : Cx} {pins : List (Addr × Obj)} {σ : St} {H : Hp} {s : Shared} {ea : Addr}
/-- an exception of the class cls stands there -/
def ExcAt (p : Addr) (cls : Value) (h : Heap) : Prop := ∃ o, h.get? p = some o ∧ o.cls = cls
end
end L2
namespace L2
open PySem PySem.Spec PySem.W PySem.Calls PyProof.Rows
/-- what isinstance asks of an own error class -/
structure ExcKit (K : Frag) (C : Addr) : Prop where
  ga : findIn K (.ref C) "__getattribute__" = some (some (.builtin "BaseException.__getattribute__"))
  gx : findIn K (.ref C) "__getattr__" = some none
  cl : findIn K (.ref C) "__class__" = some (some (.builtin "object.__class__"))
  mo : mroIn K C (.type "object") = some true
  mb : mroIn K C (.type "BaseException") = some true
section
variable {prog : Program} {w : World} {A : Around} {E : Value → Shared → Prop} {h : Heap} {g : Array GenState} {d : Drawn} {t : Nat} {os : OsState} {a C : Addr} {o : Obj} {K : Frag}
open Builtin Builtin.ObjectAttr Builtin.Getset_descriptor in
end
section
variable {X : Cx}
/-- isinstance of an exception that was caught -/
def rIsiX (K : Frag) : List V → Hp → VK → Prop := fun xs H Q => ∃ p c cv C b, xs = [.ref p, c] ∧ RelV c cv ∧ H p = some (.ext (ExcAt p (.ref C))) ∧ ExcKit K C ∧ kitOne K (.ref C) cv = some b ∧ Q (.bl b) H
end
end L2
namespace L2
open PySem PySem.Spec PyProof.Rows
/-- try: f(..) / except C as n: suite; what the suite leaves, without n -/
def tTry (K : PySem.W.Frag) (Ch : Value) (i : Nat) (sp : Sp) (t : TA) (ts : TS) : TS := fun D σ H => t σ H fun vs H1 => sp vs H1 (fun _ H2 => D.nx σ H2)
  (fun cls _ H2 => (∃ C, cls = .ref C) ∧ PySem.W.exmOne K cls Ch = some true ∧ ∀ ea, H2 ea = none → ts { nx := fun σ' H' => D.nx (σ'.set i none) H', rt := fun _ _ => False } (σ.set i (some (.ref ea))) (upd H2 ea (.ext (ExcAt ea cls))))
section
variable {X : Cx} {k : Nat} {f : Addr} {fd : FuncData} {ps : List Str} {sp : Sp} {x c n : Str} {p cpos epos np hpos pos : Pos} {e : Expr} {es : List Expr} {t : TA} {b₀ : Stmt} {suite : List Stmt} {ts : TS} {i : Nat} {Ch : Value}
end
end L2
namespace L2
open PySem PySem.Spec PyProof.Rows
section
variable {X : Cx}
theorem ints_get {its : List Value} {ns : List Int} (i : IntsAre its ns) : ∀ (j : Nat) v, its[j]? = some v → ∃ t, v = Value.int (ns.getD j 0) t := by
  induction i with
  | nil => intro j v h; simp at h
  | cons n t i ih =>
    intro j v h
    cases j with
    | zero => simp at h; exact ⟨t, h.symm⟩
    | succ j =>
      obtain ⟨t', e⟩ := ih j v (by simpa using h)
      exact ⟨t', by simpa using e⟩
/-- sum(xs), xs a list of numbers -/
theorem call_sum (hc : X.calm = true) : CallR X (.builtin "sum") (fun xs H Q => ∃ (p : Addr) (ns : List Int), xs = [.ref p] ∧ SqL X.K H p (ns.map V.int) ∧ Q (.int ns.sum) H) := by
  intro pins s σ H xs us Q I r h
  obtain ⟨p, ns, rfl, hp, q⟩ := h
  obtain ⟨u, rfl, ru⟩ := vals1 r
  cases ru
  obtain ⟨its, rv, pl, _⟩ := I.list hp
  have i1 : IntsAre its ns := intsAre_of rv
  have lp : p < s.heap.objs.size := by obtain ⟨_, e, _⟩ := pl.isList; exact Heap.lt_size e
  refine call_sum_walkG (wpAny_pyIter_list pl.isList ?_)
  refine ⟨s.heap.objs.size, _, _, _, _, _, fun j => ns.getD j 0, rfl, Walks.list (A := X.A.in1) (I.ok.hd hc) s.heap.objs.size p (Nat.ne_of_lt lp) its.toArray, ⟨⟨_, Heap.get?_push_size _ rfl, rfl, rfl⟩, pl.isList.at fun o e => Heap.get?_push_of_some _ e⟩, fun b hb => ?_, fun j v hj => ints_get i1 j v (by simpa using hj), fun h' tk t' kk => ?_⟩
  · have hb' : b = s.heap.objs.size ∨ b = p := by simpa using hb
    rcases hb' with rfl | rfl
    · rw [Heap.size_push]; exact Nat.lt_succ_self _
    · rw [Heap.size_push]; exact Nat.lt_succ_of_lt lp
  · refine ⟨.int ns.sum, H, I.kept (t' := tk) fun b o e => kk b o (fun z => ?_) (Heap.get?_push_of_some _ e), ⟨t', ?_⟩, q⟩
    · have z' : b = s.heap.objs.size := by simpa using z
      exact absurd (Heap.lt_size e) (by rw [z']; exact Nat.lt_irrefl _)
    · have l1 : its.toArray.size = ns.length := by rw [List.size_toArray]; exact i1.length
      rw [preSum_getD, l1, List.take_of_length_le (Nat.le_refl _)]
end
end L2
namespace L2
open PySem PySem.Spec PyProof.Rows
section
variable {X : Cx}
def rLeS : R2 := fun x y H Q => ∃ i j, x = .str i ∧ y = .str j ∧ Q (.bl (!decide (j.cps.toList < i.cps.toList))) H
/-- z[i:j] of a text -/
def rSlS : V → Option Int → Option Int → Hp → VK → Prop := fun x lo hi H Q => ∃ z i j, x = .str z ∧ lo = some i ∧ hi = some j ∧ z.length ≤ sizeLine ∧ Q (.str (Txt.slice z (some i) (some j))) H
end
def MonE (t : TE) : Prop := ∀ σ H Q Q', (∀ v H1, Q v H1 → Q' v H1) → t σ H Q → t σ H Q'
def MonT (t : TT) : Prop := ∀ σ H Q Q', (∀ b H1, Q b H1 → Q' b H1) → t σ H Q → t σ H Q'
def MonA (t : TA) : Prop := ∀ σ H Q Q', (∀ v H1, Q v H1 → Q' v H1) → t σ H Q → t σ H Q'
def MonR (r : R2) : Prop := ∀ x y H Q Q', (∀ v H1, Q v H1 → Q' v H1) → r x y H Q → r x y H Q'
def MonS (sp : Sp) : Prop := ∀ vs H Q Q' E, (∀ v H1, Q v H1 → Q' v H1) → sp vs H Q E → sp vs H Q' E
def MonB (r : List V → Hp → VK → Prop) : Prop := ∀ xs H Q Q', (∀ v H1, Q v H1 → Q' v H1) → r xs H Q → r xs H Q'
end L2
namespace L2
open PySem PySem.Spec PyProof.Rows
inductive Dt where
  | non | int (i : Int) | str (x : Str) | tup (ds : List Dt)
mutual
def Dt.beq : Dt → Dt → Bool
  | .non, .non => true
  | .int i, .int j => i == j
  | .str x, .str y => x == y
  | .tup a, .tup b => Dt.beqs a b
  | _, _ => false
def Dt.beqs : List Dt → List Dt → Bool
  | [], [] => true
  | x :: xs, y :: ys => Dt.beq x y && Dt.beqs xs ys
  | _, _ => false
end
mutual
def Dt.hgt : Dt → Nat
  | .tup ds => Dt.hgts ds + 1
  | _ => 0
def Dt.hgts : List Dt → Nat
  | [] => 0
  | d :: r => max (Dt.hgt d) (Dt.hgts r)
end
mutual
def DatAt (K : PySem.W.Frag) (H : Hp) : V → Dt → Prop
  | v, .non => v = .non
  | v, .int i => v = .int i
  | v, .str x => v = .str x
  | v, .tup ds => ∃ r vs, v = .ref r ∧ SqT K H r vs ∧ DatsAt K H vs ds
def DatsAt (K : PySem.W.Frag) (H : Hp) : List V → List Dt → Prop
  | [], [] => True
  | v :: vs, d :: ds => DatAt K H v d ∧ DatsAt K H vs ds
  | _, _ => False
end
mutual
theorem Dt.beq_iff : ∀ (x y : Dt), Dt.beq x y = true ↔ x = y
  | .non, y => by cases y <;> simp [Dt.beq]
  | .int i, y => by cases y <;> simp [Dt.beq]
  | .str i, y => by cases y <;> simp [Dt.beq]
  | .tup a, y => by
    cases y with
    | tup b =>
      have := Dt.beqs_iff a b
      simp [Dt.beq, this]
    | _ => simp [Dt.beq]
theorem Dt.beqs_iff : ∀ (x y : List Dt), Dt.beqs x y = true ↔ x = y
  | [], y => by cases y <;> simp [Dt.beqs]
  | a :: r, y => by
    cases y with
    | nil => simp [Dt.beqs]
    | cons b t =>
      have h1 := Dt.beq_iff a b
      have h2 := Dt.beqs_iff r t
      simp [Dt.beqs, h1, h2]
end
theorem Dt.beq_self (x : Dt) : Dt.beq x x = true := (Dt.beq_iff x x).mpr rfl
theorem Dt.beqs_self (x : List Dt) : Dt.beqs x x = true := (Dt.beqs_iff x x).mpr rfl
theorem Dt.hgt_mem : ∀ {ds : List Dt} {d : Dt}, d ∈ ds → d.hgt ≤ Dt.hgts ds
  | e :: r, d, h => by
    have e1 : Dt.hgts (e :: r) = max (Dt.hgt e) (Dt.hgts r) := by simp [Dt.hgts]
    rw [e1]
    rcases List.mem_cons.mp h with z | z
    · rw [z]; omega
    · have := Dt.hgt_mem z
      omega
section
variable {K : PySem.W.Frag} {H H' : Hp}
theorem DatAt.non : DatAt K H .non .non := by simp [DatAt]
theorem DatAt.int (i : Int) : DatAt K H (.int i) (.int i) := by simp [DatAt]
theorem DatAt.str (i : Str) : DatAt K H (.str i) (.str i) := by simp [DatAt]
theorem DatAt.tup {r : Addr} {vs : List V} {ds : List Dt} (h : SqT K H r vs) (k : DatsAt K H vs ds) : DatAt K H (.ref r) (.tup ds) := by
  simp only [DatAt]
  exact ⟨r, vs, rfl, h, k⟩
theorem DatsAt.nil : DatsAt K H [] [] := by simp [DatsAt]
theorem DatsAt.cons {v : V} {d : Dt} {vs : List V} {ds : List Dt} (h : DatAt K H v d) (k : DatsAt K H vs ds) : DatsAt K H (v :: vs) (d :: ds) := by
  simp only [DatsAt]
  exact ⟨h, k⟩
theorem DatAt.un {v : V} {ds : List Dt} (h : DatAt K H v (.tup ds)) : ∃ r vs, v = .ref r ∧ SqT K H r vs ∧ DatsAt K H vs ds := by
  simp only [DatAt] at h
  exact h
theorem DatsAt.un {vs : List V} {d : Dt} {ds : List Dt} (h : DatsAt K H vs (d :: ds)) : ∃ v r, vs = v :: r ∧ DatAt K H v d ∧ DatsAt K H r ds := by
  cases vs with
  | nil => simp [DatsAt] at h
  | cons v r =>
    simp only [DatsAt] at h
    exact ⟨v, r, rfl, h.1, h.2⟩
theorem DatsAt.un0 {vs : List V} (h : DatsAt K H vs []) : vs = [] := by
  cases vs with
  | nil => rfl
  | cons v r => simp [DatsAt] at h
mutual
theorem DatAt.same (e : Same H H') : ∀ {v : V} {d : Dt}, DatAt K H v d → DatAt K H' v d
  | v, .non, h => by simpa [DatAt] using h
  | v, .int i, h => by simpa [DatAt] using h
  | v, .str i, h => by simpa [DatAt] using h
  | v, .tup ds, h => by
    obtain ⟨r, vs, rfl, h1, h2⟩ := h.un
    exact .tup (e.tup h1) (DatsAt.same e h2)
theorem DatsAt.same (e : Same H H') : ∀ {vs : List V} {ds : List Dt}, DatsAt K H vs ds → DatsAt K H' vs ds
  | vs, [], h => by
    rw [h.un0]
    exact .nil
  | vs, d :: ds, h => by
    obtain ⟨v, r, rfl, h1, h2⟩ := h.un
    exact .cons (DatAt.same e h1) (DatsAt.same e h2)
end
theorem DatsAt.length : ∀ {vs : List V} {ds : List Dt}, DatsAt K H vs ds → vs.length = ds.length
  | vs, [], h => by rw [h.un0]; rfl
  | vs, d :: ds, h => by
    obtain ⟨v, r, rfl, _, h2⟩ := h.un
    simp [DatsAt.length h2]
theorem DatsAt.get : ∀ {vs : List V} {ds : List Dt} {i : Nat} {d : Dt}, DatsAt K H vs ds → ds[i]? = some d → ∃ v, vs[i]? = some v ∧ DatAt K H v d
  | vs, [], i, d, h, e => by simp at e
  | vs, c :: ds, i, d, h, e => by
    obtain ⟨v, r, rfl, h1, h2⟩ := h.un
    cases i with
    | zero =>
      have e' : c = d := by simpa using e
      subst e'
      exact ⟨v, rfl, h1⟩
    | succ i =>
      obtain ⟨u, e1, e2⟩ := DatsAt.get (i := i) (d := d) h2 (by simpa using e)
      exact ⟨u, by simpa using e1, e2⟩
theorem DatsAt.get' {vs : List V} {ds : List Dt} {i : Nat} {v : V} (h : DatsAt K H vs ds) (e : vs[i]? = some v) : ∃ d, ds[i]? = some d ∧ DatAt K H v d := by
  have hl := h.length
  have hi : i < ds.length := by
    have := (List.getElem?_eq_some_iff.mp e).1
    omega
  obtain ⟨u, e1, e2⟩ := h.get (List.getElem?_eq_getElem hi)
  rw [e] at e1
  cases e1
  exact ⟨_, List.getElem?_eq_getElem hi, e2⟩
theorem DatsAt.append : ∀ {vs ws : List V} {ds es : List Dt}, DatsAt K H vs ds → DatsAt K H ws es → DatsAt K H (vs ++ ws) (ds ++ es)
  | vs, ws, [], es, h, k => by
    rw [h.un0]
    exact k
  | vs, ws, d :: ds, es, h, k => by
    obtain ⟨v, r, rfl, h1, h2⟩ := h.un
    exact .cons h1 (DatsAt.append h2 k)
end
theorem Dt.all_beqs : ∀ (a b : List Dt), ((List.range (min a.length b.length)).all (fun j => Dt.beq (a.getD j .non) (b.getD j .non)) && a.length == b.length) = Dt.beqs a b
  | [], [] => by simp [Dt.beqs]
  | [], _ :: _ => by simp [Dt.beqs]
  | _ :: _, [] => by simp [Dt.beqs]
  | x :: a, y :: b => by
    have ih := Dt.all_beqs a b
    have e : min (x :: a).length (y :: b).length = min a.length b.length + 1 := by simp
    rw [e, List.range_succ_eq_map]
    simp only [List.all_cons, List.all_map, Dt.beqs, List.length_cons]
    rw [← ih, Bool.and_assoc]
    congr 1
    congr 1
    rw [Bool.eq_iff_iff]
    simp
section
variable {X : Cx} {pins : List (Addr × Obj)} {σ : St} {H : Hp} {s : Shared}
mutual
theorem DatAt.inj (I : Inv X pins σ H s) : ∀ {v : V} {d e : Dt}, DatAt X.K H v d → DatAt X.K H v e → d = e
  | v, .non, e, h, k => by
    have h' : v = .non := by simpa [DatAt] using h
    subst h'
    cases e <;> simp [DatAt] at k ⊢
  | v, .int i, e, h, k => by
    have h' : v = .int i := by simpa [DatAt] using h
    subst h'
    cases e <;> simp [DatAt] at k ⊢
    exact k
  | v, .str i, e, h, k => by
    have h' : v = .str i := by simpa [DatAt] using h
    subst h'
    cases e <;> simp [DatAt] at k ⊢
    exact k
  | v, .tup ds, e, h, k => by
    obtain ⟨r, vs, rfl, h1, h2⟩ := h.un
    cases e with
    | tup es =>
      obtain ⟨r', ws, e', k1, k2⟩ := k.un
      cases e'
      have := I.tuple_inj h1 k1
      subst this
      rw [DatsAt.inj I h2 k2]
    | _ => simp [DatAt] at k
theorem DatsAt.inj (I : Inv X pins σ H s) : ∀ {vs : List V} {ds es : List Dt}, DatsAt X.K H vs ds → DatsAt X.K H vs es → ds = es
  | vs, [], es, h, k => by
    have := h.un0
    subst this
    cases es with
    | nil => rfl
    | cons _ _ => simp [DatsAt] at k
  | vs, d :: ds, es, h, k => by
    obtain ⟨v, r, rfl, h1, h2⟩ := h.un
    cases es with
    | nil => simp [DatsAt] at k
    | cons e es =>
      simp only [DatsAt] at k
      rw [DatAt.inj I h1 k.1, DatsAt.inj I h2 k.2]
end
theorem getD_of {α : Type} {xs : List α} {i : Nat} {x d : α} (h : xs[i]? = some x) : xs.getD i d = x := by
  rw [List.getD_eq_getElem?_getD, h]
  rfl
/-- what is told of the items -/
theorem items_eq {A : Around} {vs ws : List V} {ds es : List Dt} {its its2 : List Value} (h : DatsAt X.K H vs ds) (k : DatsAt X.K H ws es) (r1 : Vals vs its) (r2 : Vals ws its2)
    (ih : ∀ (d e : Dt) (x y : V) (u v : Value), d ∈ ds → DatAt X.K H x d → DatAt X.K H y e → RelV x u → RelV y v → SeqAt.EqAt A s u v (Dt.beq d e)) (j : Nat) (h1 : j < its.toArray.size) (h2 : j < its2.toArray.size) :
    SeqAt.EqAt A s its.toArray[j] its2.toArray[j] (Dt.beq (ds.getD j .non) (es.getD j .non)) := by
  have l1 := r1.length
  have l2 := r2.length
  have m1 := h.length
  have m2 := k.length
  rw [List.size_toArray] at h1 h2
  have g1 : ds[j]? = some ds[j] := List.getElem?_eq_getElem (by omega)
  have g2 : es[j]? = some es[j] := List.getElem?_eq_getElem (by omega)
  obtain ⟨x, ex, hx⟩ := h.get g1
  obtain ⟨y, ey, hy⟩ := k.get g2
  obtain ⟨u, eu, ru⟩ := r1.get ex
  obtain ⟨v, ev, rv⟩ := r2.get ey
  have f1 : its.toArray[j] = u := by
    have := (List.getElem?_eq_some_iff.mp eu).2
    simpa using this
  have f2 : its2.toArray[j] = v := by
    have := (List.getElem?_eq_some_iff.mp ev).2
    simpa using this
  rw [f1, f2, getD_of g1, getD_of g2]
  exact ih _ _ x y u v (List.getElem_mem _) hx hy ru rv
theorem tuple_all {vs ws : List V} {ds es : List Dt} {its its2 : List Value} (h : DatsAt X.K H vs ds) (k : DatsAt X.K H ws es) (r1 : Vals vs its) (r2 : Vals ws its2) :
    ((List.range (min its.toArray.size its2.toArray.size)).all (fun j => Dt.beq (ds.getD j .non) (es.getD j .non)) && its.toArray.size == its2.toArray.size) = Dt.beqs ds es := by
  have l1 := r1.length
  have l2 := r2.length
  have m1 := h.length
  have m2 := k.length
  rw [← Dt.all_beqs, List.size_toArray, List.size_toArray, ← l1, ← l2, m1, m2]
theorem eqAt_dat (I : Inv X pins σ H s) : ∀ (n : Nat) (A : Around) (d e : Dt) (x y : V) (u v : Value), d.hgt ≤ n → A.units + n < cLine → DatAt X.K H x d → DatAt X.K H y e → RelV x u → RelV y v → SeqAt.EqAt A s u v (Dt.beq d e) := by
  intro n
  induction n with
  | zero => 
    intro A d e x y u v hd hu hx hy ru rv
    have hu' : A.units < cLine := by omega
    cases d with
    | non =>
      have hx' : x = .non := by simpa [DatAt] using hx
      subst hx'
      cases (show u = Value.none from ru)
      cases e with
      | non =>
        have hy' : y = .non := by simpa [DatAt] using hy
        subst hy'
        cases (show v = Value.none from rv)
        exact SeqAt.EqAt.same _
      | int j =>
        have hy' : y = .int j := by simpa [DatAt] using hy
        subst hy'
        obtain ⟨t, rfl⟩ := (show ∃ t, v = Value.int j t from rv)
        exact SeqAt.EqAt.none_int _ _
      | str j =>
        have hy' : y = .str j := by simpa [DatAt] using hy
        subst hy'
        obtain ⟨t, rfl⟩ := (show ∃ t, v = Value.str j t from rv)
        exact SeqAt.EqAt.none_str _ _
      | tup es =>
        obtain ⟨r, ws, rfl, k1, k2⟩ := hy.un
        cases (show v = Value.ref r from rv)
        obtain ⟨its, _, p, _⟩ := I.tuple k1
        exact SeqAt.EqAt.none_tuple p hu'
    | int i =>
      have hx' : x = .int i := by simpa [DatAt] using hx
      subst hx'
      obtain ⟨t, rfl⟩ := (show ∃ t, u = Value.int i t from ru)
      cases e with
      | non =>
        have hy' : y = .non := by simpa [DatAt] using hy
        subst hy'
        cases (show v = Value.none from rv)
        exact SeqAt.EqAt.int_none _ _
      | int j =>
        have hy' : y = .int j := by simpa [DatAt] using hy
        subst hy'
        obtain ⟨t, rfl⟩ := (show ∃ t, v = Value.int j t from rv)
        exact SeqAt.EqAt.int_int _ _ _ _
      | str j =>
        have hy' : y = .str j := by simpa [DatAt] using hy
        subst hy'
        obtain ⟨t, rfl⟩ := (show ∃ t, v = Value.str j t from rv)
        exact SeqAt.EqAt.int_str _ _ _ _
      | tup es =>
        obtain ⟨r, ws, rfl, k1, k2⟩ := hy.un
        cases (show v = Value.ref r from rv)
        obtain ⟨its, _, p, _⟩ := I.tuple k1
        exact SeqAt.EqAt.int_tuple _ _ p hu'
    | str i =>
      have hx' : x = .str i := by simpa [DatAt] using hx
      subst hx'
      obtain ⟨t, rfl⟩ := (show ∃ t, u = Value.str i t from ru)
      cases e with
      | non =>
        have hy' : y = .non := by simpa [DatAt] using hy
        subst hy'
        cases (show v = Value.none from rv)
        exact SeqAt.EqAt.str_none _ _
      | int j =>
        have hy' : y = .int j := by simpa [DatAt] using hy
        subst hy'
        obtain ⟨t, rfl⟩ := (show ∃ t, v = Value.int j t from rv)
        exact SeqAt.EqAt.str_int _ _ _ _
      | str j =>
        have hy' : y = .str j := by simpa [DatAt] using hy
        subst hy'
        obtain ⟨t, rfl⟩ := (show ∃ t, v = Value.str j t from rv)
        exact SeqAt.EqAt.str_str _ _ _ _
      | tup es =>
        obtain ⟨r, ws, rfl, k1, k2⟩ := hy.un
        cases (show v = Value.ref r from rv)
        obtain ⟨its, _, p, _⟩ := I.tuple k1
        exact SeqAt.EqAt.str_tuple _ _ p hu'
    | tup ds => simp [Dt.hgt] at hd
  | succ n ih =>
    intro A d e x y u v hd hu hx hy ru rv
    have hu' : A.units < cLine := by omega
    by_cases hflat : d.hgt ≤ n
    · exact ih A d e x y u v hflat (by omega) hx hy ru rv
    · cases d with
      | tup ds =>
        have hds : Dt.hgts ds ≤ n := by simpa [Dt.hgt] using hd
        obtain ⟨a, vs, rfl, h1, h2⟩ := hx.un
        cases (show u = Value.ref a from ru)
        obtain ⟨its, r1, p1, _⟩ := I.tuple h1
        cases e with
        | non =>
          have hy' : y = .non := by simpa [DatAt] using hy
          subst hy'
          cases (show v = Value.none from rv)
          exact SeqAt.EqAt.tuple_none p1 hu'
        | int j =>
          have hy' : y = .int j := by simpa [DatAt] using hy
          subst hy'
          obtain ⟨t, rfl⟩ := (show ∃ t, v = Value.int j t from rv)
          exact SeqAt.EqAt.tuple_int _ _ p1 hu'
        | str j =>
          have hy' : y = .str j := by simpa [DatAt] using hy
          subst hy'
          obtain ⟨t, rfl⟩ := (show ∃ t, v = Value.str j t from rv)
          exact SeqAt.EqAt.tuple_str _ _ p1 hu'
        | tup es =>
          obtain ⟨b, ws, rfl, k1, k2⟩ := hy.un
          cases (show v = Value.ref b from rv)
          obtain ⟨its2, r2, p2, _⟩ := I.tuple k1
          by_cases hab : a = b
          · subst hab
            have e1 : Dt.tup ds = Dt.tup es := DatAt.inj I hx hy
            rw [e1, Dt.beq_self]
            exact SeqAt.EqAt.same _
          · have e2 : Dt.beq (.tup ds) (.tup es) = Dt.beqs ds es := by simp [Dt.beq]
            rw [e2, ← tuple_all h2 k2 r1 r2]
            refine SeqAt.EqAt.of_refs hab (SeqAt.RcAt.tuples p1 p2 hu' fun j j1 j2 => items_eq h2 k2 r1 r2 (fun d e x y u v hm q1 q2 q3 q4 => ?_) j j1 j2)
            exact ih A.in1 d e x y u v (Nat.le_trans (Dt.hgt_mem hm) hds) (by show A.units + 1 + n < cLine; omega) q1 q2 q3 q4
      | _ => exact absurd (Nat.zero_le n) (by simpa [Dt.hgt] using hflat)
/-- the rule of a comparison of data, at the top -/
def rEqD (K : PySem.W.Frag) : R2 := fun x y H Q => ∃ d e, DatAt K H x d ∧ DatAt K H y e ∧ d.hgt ≤ 30 ∧ Q (.bl (Dt.beq d e)) H
def rNeD (K : PySem.W.Frag) : R2 := fun x y H Q => ∃ d e, DatAt K H x d ∧ DatAt K H y e ∧ d.hgt ≤ 30 ∧ Q (.bl (!Dt.beq d e)) H
theorem list_all {vs ws : List V} {ds es : List Dt} {its its2 : List Value} (h : DatsAt X.K H vs ds) (k : DatsAt X.K H ws es) (r1 : Vals vs its) (r2 : Vals ws its2) (hsz : its.toArray.size = its2.toArray.size) :
    (List.range its.toArray.size).all (fun j => Dt.beq (ds.getD j .non) (es.getD j .non)) = Dt.beqs ds es := by
  have e := tuple_all h k r1 r2
  rw [hsz, Nat.min_self, beq_self_eq_true, Bool.and_true] at e
  rw [hsz]
  exact e
/-- == and != of two lists of data -/
def rEqL (K : PySem.W.Frag) : R2 := fun x y H Q => ∃ a b vs ws ds es, x = .ref a ∧ y = .ref b ∧ SqL K H a vs ∧ SqL K H b ws ∧ DatsAt K H vs ds ∧ DatsAt K H ws es ∧ Dt.hgts ds ≤ 30 ∧ Q (.bl (Dt.beqs ds es)) H
def rNeL (K : PySem.W.Frag) : R2 := fun x y H Q => ∃ a b vs ws ds es, x = .ref a ∧ y = .ref b ∧ SqL K H a vs ∧ SqL K H b ws ∧ DatsAt K H vs ds ∧ DatsAt K H ws es ∧ Dt.hgts ds ≤ 30 ∧ Q (.bl (!Dt.beqs ds es)) H
/-- isinstance of a tuple, also of one that stands in the text -/
theorem call_isiT : CallR X (.builtin "isinstance") (fun xs H Q => ∃ a vs n b, xs = [.ref a, .ty n] ∧ SqT X.K H a vs ∧ PySem.W.kitOne X.K (.type "tuple") (.type n) = some b ∧ Q (.bl b) H) := by
  intro pins s σ H xs us Q I r h
  obtain ⟨a, vs, n, b, rfl, ht, e, q⟩ := h
  obtain ⟨u, w', rfl, r1, r2⟩ := vals2 r
  cases (show u = Value.ref a from r1)
  cases (show w' = Value.type n from r2)
  obtain ⟨its, _, ⟨o, h1, h2, _⟩, _⟩ := I.tuple ht
  exact PySem.W.kia_one PySem.W.kitx_tuple I.kIn ⟨o, h1, h2⟩ e (fun z => nomatch z) fun tk => ⟨.bl b, H, I.tok tk, rfl, q⟩
end
end L2
namespace L2
open PySem PySem.Spec PySem.W PyProof.Rows
/-- every question of the tree lies below N, every end of it satisfies P -/
def Tr {α : Type} (N : Nat) (P : α → Prop) : KasT α → Prop
  | .ret a => P a
  | .ask i j k => i < N ∧ j < N ∧ ∀ b, Tr N P (k b)
theorem Tr.bind {α β : Type} {N : Nat} {P : α → Prop} {R : β → Prop} {f : α → KasT β} : ∀ {t : KasT α}, Tr N P t → (∀ a, P a → Tr N R (f a)) → Tr N R (t.bind f)
  | .ret a, h, k => k a h
  | .ask _ _ _, h, k => ⟨h.1, h.2.1, fun b => Tr.bind (h.2.2 b) k⟩
theorem Tr.wp {α : Type} {N : Nat} {P : α → Prop} {cmp : Nat → Nat → (Bool → Shared → Prop) → Shared → Prop} {s : Shared} {Q : α → Shared → Prop} (lt : Nat → Nat → Bool)
    (hc : ∀ i j (C : Bool → Shared → Prop), i < N → j < N → C (lt i j) s → cmp i j C s) (hq : ∀ a, P a → Q a s) : ∀ {t : KasT α}, Tr N P t → t.kasWp cmp Q s
  | .ret a, h => hq a h
  | .ask i j _, h => hc i j _ h.1 h.2.1 (Tr.wp lt hc hq (h.2.2 _))
/-- a row of the places 0, 1, .. N - 1, each once -/
def Pl (N : Nat) (p : Array Nat) : Prop := p.Perm (List.range N).toArray
theorem Pl.below {N : Nat} {p : Array Nat} (hN : 0 < N) (h : Pl N p) (k : Nat) : p.getD k 0 < N := by
  by_cases hk : k < p.size
  · have e : p.getD k 0 = p[k] := by simp [Array.getD, hk]
    have m : p[k] ∈ (List.range N).toArray := h.mem_iff.mp (Array.getElem_mem hk)
    rw [e]
    simpa using m
  · have e : p.getD k 0 = 0 := by simp [Array.getD, hk]
    rw [e]
    exact hN
theorem Pl.rev {N : Nat} {p : Array Nat} (h : Pl N p) (i j : Nat) : Pl N (kas_rev p i j) := (mirror_perm p i j _).trans h
theorem Pl.bub {N : Nat} {p : Array Nat} (h : Pl N p) (i j : Nat) : Pl N (bubble p i j) := (bubble_perm p i j).trans h
section
variable {N : Nat} (hN : 0 < N)
include hN
theorem tr_asc {p : Array Nat} (h : Pl N p) : ∀ f n, Tr N (fun _ => True) (kas_asc p f n)
  | 0, _ => trivial
  | f + 1, n => ⟨h.below hN _, h.below hN _, fun b => by
    cases b with
    | true => exact trivial
    | false => exact tr_asc h f (n + 1)⟩
theorem tr_desc : ∀ f (p : Array Nat) n q, Pl N p → Tr N (fun r => Pl N r.1) (kas_desc f p n q)
  | 0, _, _, _, h => h
  | f + 1, p, n, q, h => ⟨h.below hN _, h.below hN _, fun b => by
    cases b with
    | true =>
      show Tr N _ (if q > 0 then _ else _)
      split
      · exact tr_desc f _ _ _ (h.rev _ _)
      · exact tr_desc f _ _ _ h
    | false =>
      refine ⟨h.below hN _, h.below hN _, fun b => ?_⟩
      cases b with
      | true => exact h
      | false => exact tr_desc f _ _ _ h⟩
theorem tr_tail {p : Array Nat} (h : Pl N p) (n m : Nat) : Tr N (fun r => Pl N r.2) (kas_tail3 n m p) := (tr_asc hN (h.rev _ _) _ _).bind fun _ _ => h.rev _ _
theorem tr_part {p : Array Nat} (h : Pl N p) (n m : Nat) : Tr N (fun r => Pl N r.2) (kas_descPart n m p) := (tr_desc hN _ _ _ _ h).bind fun r hr => by
  split
  · exact tr_tail hN (hr.rev _ _) _ _
  · exact tr_tail hN hr _ _
theorem tr_count {p : Array Nat} (h : Pl N p) (m : Nat) : Tr N (fun r => Pl N r.2) (kas_count m p) := (tr_asc hN h _ _).bind fun n _ => by
  split
  · exact h
  · split
    · refine ⟨h.below hN _, h.below hN _, fun b => ?_⟩
      cases b with
      | true => exact h
      | false => exact tr_part hN (h.rev _ _) _ _
    · exact tr_part hN h _ _
theorem tr_place {p : Array Nat} (h : Pl N p) (k : Nat) : ∀ f l r, Tr N (fun _ => True) (kas_place p k f l r)
  | 0, _, _ => trivial
  | f + 1, l, r => by
    show Tr N _ (if l ≥ r then _ else _)
    split
    · exact trivial
    · refine ⟨h.below hN _, h.below hN _, fun b => ?_⟩
      cases b with
      | true => exact tr_place h k f _ _
      | false => exact tr_place h k f _ _
theorem tr_bin : ∀ f (p : Array Nat) k, Pl N p → Tr N (Pl N) (kas_bin f p k)
  | 0, _, _, h => h
  | f + 1, p, k, h => (tr_place hN h k _ _ _).bind fun _ _ => tr_bin f _ _ (h.bub _ _)
theorem tr_sort : Tr N (Pl N) (kas_sort N) := (tr_count hN (show Pl N _ from Array.Perm.refl _) N).bind fun r hr => by
  split
  · exact tr_bin hN _ _ _ hr
  · exact hr
end
section
variable {prog : Program} {w : World} {A : Around} {E : Value → Shared → Prop} {s : Shared}
/-- the list at a is sorted where it stands; all else stays -/
theorem lsort {a : Addr} {us : List Value} {n : Nat} {R : PySem.Fin → Shared → Prop} (stands : s.heap.get? a = some (seqObj "list" us.toArray n)) (few : us.length < 64) (lt : Nat → Nat → Bool) (κ : SortKind)
    (kind : ∀ z : Shared, (∀ b o, b ≠ a → s.heap.get? b = some o → z.heap.get? b = some o) → 2 ≤ us.length → ∀ Q : SortKind → Shared → Prop, Q κ z → wpAny (model prog w) A (keyKind' us.toArray) Q (fun _ _ => False) z)
    (ask : ∀ z : Shared, (∀ b o, b ≠ a → s.heap.get? b = some o → z.heap.get? b = some o) → ∀ i j (C : Bool → Shared → Prop), i < us.length → j < us.length → C (lt i j) z → kas_ask prog w A κ us i j C z)
    (done : ∀ (p : Array Nat) (g : Heap) (c : Nat), Pl us.length p → (∀ b o, b ≠ a → s.heap.get? b = some o → g.get? b = some o) → g.get? a = some (seqObj "list" (p.toList.map fun i => us.getD i Value.none).toArray c) →
      R (.done (.ret .none)) { s with heap := g }) : wpAny (model prog w) A (Builtin.«list.sort» ⟨[.ref a], []⟩) R E s := by
  have lta : a < s.heap.objs.size := Heap.lt_size stands
  obtain ⟨c1, st1⟩ : ∃ c1, (s.heap.update a (Obj.mapSeq fun _ => (#[] : Array Value))).get? a = some (seqObj "list" #[] c1) := ⟨_, get?_update_seq stands fun _ => #[]⟩
  generalize hg : ((s.heap.update a (Obj.mapSeq fun _ => (#[] : Array Value))).push (seqObj "tuple" us.toArray 0)).push (seqObj "list" #[] 0) = g1
  have stays : ∀ b o, b ≠ a → s.heap.get? b = some o → g1.get? b = some o := fun b o hb e => by
    rw [← hg]
    exact Heap.get?_push_of_some _ (Heap.get?_push_of_some _ ((Heap.SameBut.update s.heap a _).2 b hb |>.trans e))
  have st2 : g1.get? a = some (seqObj "list" #[] c1) := by
    rw [← hg]
    exact Heap.get?_push_of_some _ (Heap.get?_push_of_some _ st1)
  have ends : ∀ (p : Array Nat), Pl us.length p → ∀ Q : Unit → Shared → Prop, (∀ g c, (∀ b o, b ≠ a → s.heap.get? b = some o → g.get? b = some o) → g.get? a = some (seqObj "list" (p.toList.map fun i => us.getD i Value.none).toArray c) → Q () { s with heap := g }) →
      wpAny (model prog w) A (Builtin.List.listUpdate (.ref a) fun _ => (p.toList.map fun i => us.getD i Value.none).toArray) Q E { s with heap := g1 } := fun p hp Q hQ => by
    refine listUpdate_at (s := { s with heap := g1 }) st2 rfl (hQ _ _ (fun b o hb e => ((Heap.SameBut.update g1 a _).2 b hb).trans (stays b o hb e)) (get?_update_seq st2 fun _ => _)) (Nat.zero_le _) ?_
    have hs : p.size = us.length := by simpa using hp.size_eq
    rw [List.size_toArray, List.length_map, Array.length_toList, hs, sizeLine_eq]
    omega
  rw [list_sort_plain]
  refine wpAny_bind (listItems_at stands rfl ?_)
  refine wpAny_bind (listUpdate_at stands rfl ?_ (by rw [List.size_toArray, sizeLine_eq]; omega) (Nat.zero_le _))
  refine wpAny_bind (seqEpoch_at st1 rfl (wpAny_bind (wpAny_newTuple (wpAny_bind (wpAny_newList ?_ (Nat.zero_le _))) (by show us.length ≤ _; rw [sizeLine_eq]; omega))))
  refine wpAny_holding ?_
  show wpAny (model prog w) A _ R E { s with heap := ((s.heap.update a (Obj.mapSeq fun _ => (#[] : Array Value))).push (seqObj "tuple" us.toArray 0)).push (seqObj "list" #[] 0) }
  rw [hg]
  dsimp only
  by_cases h2 : us.toArray.size < 2
  · rw [if_pos h2, if_pos h2]
    refine wpAny_bind (wpAny_pure ?_)
    rw [StateT.run_pure]
    refine wpAny_bind (wpAny_pure ?_)
    dsimp only
    refine wpAny_bind (seqEpoch_at st2 rfl ?_)
    have e1 : (arrOf (SortSt.mk' general' (us.toArray.zip us.toArray) #[] 7 none)).map (·.2) = ((List.range us.length).toArray.toList.map fun i => us.getD i Value.none).toArray := by
      show (us.toArray.zip us.toArray).map (·.2) = _
      apply Array.toList_inj.mp
      refine List.ext_getElem (by simp) fun i k1 k2 => ?_
      have k3 : i < us.length := by simpa using k1
      simp [List.getD_eq_getElem?_getD, k3]
    rw [e1]
    refine wpAny_bind (ends _ (Array.Perm.refl _) _ fun g c k1 k2 => ?_)
    simp only [bne_self_eq_false, Bool.false_eq_true, if_false]
    exact wpAny_pure (done _ g c (Array.Perm.refl _) k1 k2)
  · rw [if_neg h2, if_neg h2]
    have h2' : 2 ≤ us.length := by rw [List.size_toArray] at h2; omega
    refine wpAny_bind (wpAny_mono (kind { s with heap := g1 } stays h2' (fun k z => k = κ ∧ z = { s with heap := g1 }) ⟨rfl, rfl⟩) (fun k z hk => ?_) fun _ _ x => x.elim)
    obtain ⟨rfl, rfl⟩ := hk
    have tree : (kas_sort us.length).kasWp (kas_ask prog w A k us) (fun p z => Pl us.length p ∧ z = { s with heap := g1 }) { s with heap := g1 } :=
      (tr_sort (by omega)).wp lt (ask { s with heap := g1 } stays) fun p hp => ⟨hp, rfl⟩
    refine wpAny_bind (wpAny_mono (kat_run (E := E) (Q := fun st z => ∃ p : Array Nat, arrOf st = p.map (kas_item (us.toArray.zip us.toArray)) ∧ failedOf st = none ∧ Pl us.length p ∧ z = { s with heap := g1 }) rfl h2' few
      (fun p st z _ q1 q2 q3 => ⟨p, q1, q2, q3⟩) tree) ?_ fun _ _ x => x)
    rintro ⟨⟨⟩, st⟩ z ⟨p, q1, q2, q3, rfl⟩
    dsimp only
    refine wpAny_bind (seqEpoch_at st2 rfl ?_)
    rw [kat_snds rfl q1]
    refine wpAny_bind (ends p q3 _ fun g c k1 k2 => ?_)
    rw [q2]
    simp only [bne_self_eq_false, Bool.false_eq_true, if_false]
    exact wpAny_pure (done p g c q3 k1 k2)
end
end L2
namespace L2
open PySem PySem.Spec PySem.W PyProof.Rows
def pairD (f : Str × Int) : Dt := .tup [.str f.1, .int f.2]
def pairLt (f g : Str × Int) : Bool := if f.1 == g.1 then (if f.2 == g.2 then false else decide (f.2 < g.2)) else decide (f.1.cps.toList < g.1.cps.toList)
section
variable {X : Cx} {pins : List (Addr × Obj)} {σ : L2.St} {H : Hp} {s : Shared}
theorem pair_at (I : Inv X pins σ H s) {v : V} {u : Value} {f : Str × Int} (h : DatAt X.K H v (pairD f)) (r : RelV v u) :
    ∃ a t t' o n, u = Value.ref a ∧ s.heap.get? a = some o ∧ o.cls = .type "tuple" ∧ o.data = .seq #[Value.str f.1 t, Value.int f.2 t'] n := by
  obtain ⟨a, ws, rfl, h1, h2⟩ := h.un
  obtain ⟨v1, r1, rfl, q1, h3⟩ := h2.un
  obtain ⟨v2, r2, rfl, q2, h4⟩ := h3.un
  have e3 := h4.un0
  subst e3
  have e1 : v1 = .str f.1 := by simpa [DatAt] using q1
  have e2 : v2 = .int f.2 := by simpa [DatAt] using q2
  subst e1 e2
  obtain ⟨its, rv, ⟨o, e, c, n, d⟩, _⟩ := I.tuple h1
  cases (show u = Value.ref a from r)
  obtain ⟨x, y, rfl, rx, ry⟩ := vals2 rv
  obtain ⟨t, rfl⟩ := (show ∃ t, x = Value.str f.1 t from rx)
  obtain ⟨t', rfl⟩ := (show ∃ t, y = Value.int f.2 t from ry)
  exact ⟨a, t, t', o, n, rfl, e, c, d⟩
theorem pairs_tups (I : Inv X pins σ H s) {z : Heap} (kept : ∀ b o, s.heap.get? b = some o → z.get? b = some o) : ∀ (ps : List (Str × Int)) (vs : List V) (us : List Value), DatsAt X.K H vs (ps.map pairD) → Vals vs us →
    ∃ fs, KatTups z us fs ∧ fs.length = us.length ∧ ∀ f ∈ fs, ∃ x t, f = Value.str x t
  | [], vs, us, h, r => by
    have e := h.un0
    subst e
    cases r
    exact ⟨[], .nil, rfl, fun f hf => nomatch hf⟩
  | p :: ps, vs, us, h, r => by
    obtain ⟨v, w', rfl, h1, h2⟩ := DatsAt.un (d := pairD p) (ds := ps.map pairD) h
    cases r with
    | cons r1 r2 =>
      obtain ⟨a, t, t', o, n, rfl, e1, e2, e3⟩ := pair_at I h1 r1
      obtain ⟨fs, k1, k2, k3⟩ := pairs_tups I kept ps _ _ h2 r2
      refine ⟨Value.str p.1 t :: fs, .cons (kept _ _ e1) e2 e3 rfl k1, by simp [k2], fun f hf => ?_⟩
      rcases List.mem_cons.mp hf with q | q
      · exact ⟨_, _, q⟩
      · exact k3 f q
end
/-- the items of a list, in another order -/
theorem DatsAt.pick {K : PySem.W.Frag} {H : Hp} {vs : List V} {ds : List Dt} {d0 : Dt} (h : DatsAt K H vs ds) : ∀ (l : List Nat), (∀ i ∈ l, i < vs.length) → DatsAt K H (l.map fun i => vs.getD i .non) (l.map fun i => ds.getD i d0)
  | [], _ => .nil
  | i :: l, a => by
    have hi := a i (List.mem_cons_self ..)
    have hl := h.length
    obtain ⟨v, ev, hv⟩ := h.get (i := i) (d := ds[i]) (List.getElem?_eq_getElem (by omega))
    refine .cons ?_ (DatsAt.pick h l fun k hk => a k (List.mem_cons_of_mem _ hk))
    show DatAt K H (vs.getD i .non) (ds.getD i d0)
    rw [getD_of ev, getD_of (List.getElem?_eq_getElem (show i < ds.length by omega))]
    exact hv
end L2
namespace L2
open PySem PySem.Spec PyProof.Rows
/-- over a list that stays -/
theorem comp_list {K : PySem.W.Frag} {a D : Addr} {xs : List V} {g : TG} {tt : TT} {te : TE} {Q : VK} {H : Hp} {σ0 : L2.St} (Pv : Nat → L2.St → List V → Hp → Prop) (p0 : Pv 0 σ0 [] H)
    (hl : ∀ i σ ys H', i ≤ xs.length → Pv i σ ys H' → SqL K H' a xs ∧ H' D = some (.lst ys) ∧ ys.length < sizeLine)
    (hs : ∀ i x σ ys H', xs[i]? = some x → Pv i σ ys H' → ∀ N : L2.St → List V → Hp → Prop, (∀ σ ys H, Pv (i + 1) σ ys H → N σ ys H) →
      g x σ H' fun σ4 H4 => tt σ4 H4 fun b H5 => if b = true then te σ4 H5 fun v H6 => H6 D = some (.lst ys) ∧ N σ4 (ys ++ [v]) (upd H6 D (.lst (ys ++ [v]))) else N σ4 ys H5)
    (hd : ∀ σ ys H', Pv xs.length σ ys H' → Q (.ref D) H') : CompW (Itl K a) g tt te σ0 Q D H := by
  refine ⟨fun i m σ ys H => m = xs.length - i ∧ i ≤ xs.length ∧ Pv i σ ys H, ⟨xs.length, by simp, Nat.zero_le _, p0⟩, ?_⟩
  rintro i m σ ys H2 ⟨rfl, hi, p⟩
  obtain ⟨q1, q2, q3⟩ := hl i σ ys H2 hi p
  refine ⟨q2, q3, ?_⟩
  by_cases hlt : i < xs.length
  · refine .inr ⟨⟨xs, xs[i], q1, by simp [hlt]⟩, fun x H3 y => ?_⟩
    obtain ⟨e, y⟩ := y
    subst e
    exact hs i x σ ys _ (y xs q1) p (fun σ ys H => ∃ m', m' < xs.length - i ∧ m' = xs.length - (i + 1) ∧ i + 1 ≤ xs.length ∧ Pv (i + 1) σ ys H) fun σ ys H z => ⟨_, by omega, rfl, hlt, z⟩
  · have e : i = xs.length := by omega
    subst e
    exact .inl ⟨⟨xs, q1, Nat.le_refl _⟩, hd σ ys H2 p⟩
def LsM (K : PySem.W.Frag) (H : Hp) (a : Addr) (ds : List Dt) : Prop := ∃ vs, H a = some (.lst vs) ∧ DatsAt K H vs ds
theorem LsM.same {K : PySem.W.Frag} {H H' : Hp} {a : Addr} {ds : List Dt} (h : LsM K H a ds) (e : Same H H') : LsM K H' a ds := by
  obtain ⟨vs, h1, h2⟩ := h
  exact ⟨vs, e _ _ h1, h2.same e⟩
section
variable {K : PySem.W.Frag} {H : Hp} {a : Addr} {xs ys : List V}
/-- a list is written: what is a tuple stays -/
theorem sqT_upd {r : Addr} {vs : List V} (ha : H a = some (.lst xs)) (h : SqT K H r vs) : SqT K (upd H a (.lst ys)) r vs := by
  rcases h with (h | ⟨o, h⟩) | h
  · exact .inl (.inl (by rw [upd_ne (ne_of h ha (by intro z; cases z))]; exact h))
  · exact .inl (.inr ⟨o, by rw [upd_ne (ne_of h ha (by intro z; cases z))]; exact h⟩)
  · exact .inr h
mutual
theorem DatAt.updL (ha : H a = some (.lst xs)) : ∀ {v : V} {d : Dt}, DatAt K H v d → DatAt K (upd H a (.lst ys)) v d
  | v, .non, h => by simpa [DatAt] using h
  | v, .int i, h => by simpa [DatAt] using h
  | v, .str i, h => by simpa [DatAt] using h
  | v, .tup ds, h => by
    obtain ⟨r, vs, rfl, h1, h2⟩ := h.un
    exact .tup (sqT_upd ha h1) (DatsAt.updL ha h2)
theorem DatsAt.updL (ha : H a = some (.lst xs)) : ∀ {vs : List V} {ds : List Dt}, DatsAt K H vs ds → DatsAt K (upd H a (.lst ys)) vs ds
  | vs, [], h => by
    rw [h.un0]
    exact .nil
  | vs, d :: ds, h => by
    obtain ⟨v, r, rfl, h1, h2⟩ := h.un
    exact .cons (DatAt.updL ha h1) (DatsAt.updL ha h2)
end
theorem LsM.updL {b : Addr} {ds : List Dt} (ha : H a = some (.lst xs)) (hb : b ≠ a) (h : LsM K H b ds) : LsM K (upd H a (.lst ys)) b ds := by
  obtain ⟨vs, h1, h2⟩ := h
  exact ⟨vs, by rw [upd_ne hb]; exact h1, h2.updL ha⟩
end
end L2
namespace L2
open PySem PySem.Spec PyProof.Rows FW
def frD (p : Int × Int) : Dt := .tup [.int p.1, .int p.2]
def prD (p : Dt × Dt) : Dt := .tup [p.1, p.2]
def rowD (r : Dt × Int) : Dt := .tup [r.1, .int r.2]
def parD (S : Int) (r : Dt × Int) : Dt := prD (r.1, frD (low r.2 S))
/-- an outcome -/
inductive Oc : Dt → Prop
  | non : Oc .non
  | int (n : Int) : Oc (.int n)
  | recd (fs : List (Str × Int)) : Oc (.tup (fs.map pairD))
def tyD : Dt → String
  | .non => "NoneType"
  | .int _ => "int"
  | .str _ => "str"
  | .tup _ => "tuple"
theorem hgt_pairs : ∀ fs : List (Str × Int), Dt.hgts (fs.map pairD) ≤ 1
  | [] => by simp [Dt.hgts]
  | f :: fs => by
    have := hgt_pairs fs
    simp only [List.map_cons, Dt.hgts, pairD, Dt.hgt]
    omega
theorem Oc.hgt {d : Dt} (h : Oc d) : d.hgt ≤ 2 := by
  cases h with
  | non => simp [Dt.hgt]
  | int n => simp [Dt.hgt]
  | recd fs =>
    have := hgt_pairs fs
    simp only [Dt.hgt]
    omega
section
variable {K : PySem.W.Frag} {H : Hp}
theorem DatsAt.two {vs : List V} {d e : Dt} (h : DatsAt K H vs [d, e]) : ∃ v u, vs = [v, u] ∧ DatAt K H v d ∧ DatAt K H u e := by
  obtain ⟨v, r, rfl, h1, h2⟩ := h.un
  obtain ⟨u, r2, rfl, h3, h4⟩ := h2.un
  have := h4.un0
  subst this
  exact ⟨v, u, rfl, h1, h3⟩
theorem DatAt.int_eq {v : V} {n : Int} (h : DatAt K H v (.int n)) : v = .int n := by simpa [DatAt] using h
theorem DatAt.str_eq {v : V} {n : Str} (h : DatAt K H v (.str n)) : v = .str n := by simpa [DatAt] using h
theorem DatAt.non_eq {v : V} (h : DatAt K H v .non) : v = .non := by simpa [DatAt] using h
theorem DatAt.fr {v : V} {p : Int × Int} (h : DatAt K H v (frD p)) : ∃ r, v = .ref r ∧ SqT K H r [.int p.1, .int p.2] := by
  obtain ⟨r, vs, rfl, h1, h2⟩ := DatAt.un (ds := [.int p.1, .int p.2]) h
  obtain ⟨a, b, rfl, h3, h4⟩ := h2.two
  rw [h3.int_eq, h4.int_eq] at h1
  exact ⟨r, rfl, h1⟩
theorem DatAt.pr {v : V} {p : Dt × Dt} (h : DatAt K H v (prD p)) : ∃ r a b, v = .ref r ∧ SqT K H r [a, b] ∧ DatAt K H a p.1 ∧ DatAt K H b p.2 := by
  obtain ⟨r, vs, rfl, h1, h2⟩ := DatAt.un (ds := [p.1, p.2]) h
  obtain ⟨a, b, rfl, h3, h4⟩ := h2.two
  exact ⟨r, a, b, rfl, h1, h3, h4⟩
end
def sumW (rows : List (Dt × Int)) : Int := (rows.map (·.2)).sum
/-- rows over the bottom S, none below 0, all of them small enough -/
structure Sc (S : Int) (rows : List (Dt × Int)) : Prop where
  pos : 0 < S
  big : S ≤ 10 ^ 160
  nn : ∀ r ∈ rows, 0 ≤ r.2
  top : sumW rows ≤ 10 ^ 160
/-- the rows of the law -/
structure Rw (rows : List (Dt × Int)) : Prop where
  oc : ∀ r ∈ rows, Oc r.1
  pos : ∀ r ∈ rows, 0 < r.2
theorem take_snoc' {α : Type} {xs : List α} {i : Nat} {x : α} (h : xs[i]? = some x) : xs.take (i + 1) = xs.take i ++ [x] := by
  rw [List.take_add_one, h]
  rfl
theorem map_get {α β : Type} {f : α → β} {xs : List α} {i : Nat} {y : β} (h : (xs.map f)[i]? = some y) : ∃ x, xs[i]? = some x ∧ f x = y := by
  rw [List.getElem?_map] at h
  cases e : xs[i]? with
  | none => rw [e] at h; cases h
  | some x => rw [e] at h; exact ⟨x, rfl, Option.some.inj h⟩
end L2
namespace L2
open PySem PySem.Spec PyProof.Rows
section
variable {X : Cx} {K : PySem.W.Frag}
theorem ix_tupK (hK : X.K = K) : IxR X (rIxT K) := by
  subst hK
  exact ix_tup
theorem pg_tupK {es : List Expr} {kk n : Nat} {t : TGs} {pos : Pos} (hK : X.K = K) (hc : X.calm = true) (h : PGs X es t) (hn : (assignEach es X.env).length = n := by rfl) (hst : (assignEach es X.env).findIdx? (·.1) = none := by rfl) :
    PG X (.Tuple es kk pos) (gTup K n t) := by
  subst hK
  exact pg_tup hc h hn hst
end
end L2
namespace L2
open PySem PySem.Spec PyProof.Rows
section
variable {X : Cx}
def ipMul : TIp := fun x y H Q => ∃ i j, x = .int i ∧ y = .int j ∧ IntMulOk i j ∧ Q (.int (i * j)) H
theorem ip_mul : PIp X .Mult ipMul := by
  intro pins s σ H x y v u Q I r1 r2 h
  obtain ⟨i, j, e1, e2, hm, q⟩ := h
  subst e1; subst e2
  obtain ⟨t, rfl⟩ := r1
  obtain ⟨t', rfl⟩ := r2
  exact PyProof.Rows.imul_int ⟨.int _, H, I.tok _, ⟨_, rfl⟩, q⟩ hm
theorem call_list_ofK {K : PySem.W.Frag} (hK : X.K = K) : CallR X (.type "list") (fun xs H Q => ∃ p ys, xs = [.ref p] ∧ (SqL K H p ys ∨ SqT K H p ys) ∧ ∀ l, H l = none → Q (.ref l) (upd H l (.lst ys))) := by
  subst hK
  exact call_list_of
/-- (a, b, ..) = a list of that length -/
def gLst (K : PySem.W.Frag) (n : Nat) (t : TGs) : TG := fun v σ H Q => ∃ a xs, v = .ref a ∧ SqL K H a xs ∧ xs.length = n ∧ t xs σ H Q
end
/-- over a tuple -/
theorem comp_tup {K : PySem.W.Frag} {a D : Addr} {xs : List V} {g : TG} {tt : TT} {te : TE} {Q : VK} {H : Hp} {σ0 : L2.St} (Pv : Nat → L2.St → List V → Hp → Prop) (p0 : Pv 0 σ0 [] H)
    (hl : ∀ i σ ys H', i ≤ xs.length → Pv i σ ys H' → SqT K H' a xs ∧ H' D = some (.lst ys) ∧ ys.length < sizeLine)
    (hs : ∀ i x σ ys H', xs[i]? = some x → Pv i σ ys H' → ∀ N : L2.St → List V → Hp → Prop, (∀ σ ys H, Pv (i + 1) σ ys H → N σ ys H) →
      g x σ H' fun σ4 H4 => tt σ4 H4 fun b H5 => if b = true then te σ4 H5 fun v H6 => H6 D = some (.lst ys) ∧ N σ4 (ys ++ [v]) (upd H6 D (.lst (ys ++ [v]))) else N σ4 ys H5)
    (hd : ∀ σ ys H', Pv xs.length σ ys H' → Q (.ref D) H') : CompW (Itt K a) g tt te σ0 Q D H := by
  refine ⟨fun i m σ ys H => m = xs.length - i ∧ i ≤ xs.length ∧ Pv i σ ys H, ⟨xs.length, by simp, Nat.zero_le _, p0⟩, ?_⟩
  rintro i m σ ys H2 ⟨rfl, hi, p⟩
  obtain ⟨q1, q2, q3⟩ := hl i σ ys H2 hi p
  refine ⟨q2, q3, ?_⟩
  by_cases hlt : i < xs.length
  · refine .inr ⟨⟨xs, xs[i], q1, by simp [hlt]⟩, fun x H3 y => ?_⟩
    obtain ⟨e, y⟩ := y
    subst e
    exact hs i x σ ys _ (y xs q1) p (fun σ ys H => ∃ m', m' < xs.length - i ∧ m' = xs.length - (i + 1) ∧ i + 1 ≤ xs.length ∧ Pv (i + 1) σ ys H) fun σ ys H z => ⟨_, by omega, rfl, hlt, z⟩
  · have e : i = xs.length := by omega
    subst e
    exact .inl ⟨⟨xs, q1, Nat.le_refl _⟩, hd σ ys H2 p⟩
/-- over a range -/
theorem comp_range {lo : Int} {n : Nat} {D : Addr} {g : TG} {tt : TT} {te : TE} {Q : VK} {H : Hp} {σ0 : L2.St} (Pv : Nat → L2.St → List V → Hp → Prop) (p0 : Pv 0 σ0 [] H)
    (hl : ∀ i σ ys H', i ≤ n → Pv i σ ys H' → H' D = some (.lst ys) ∧ ys.length < sizeLine)
    (hs : ∀ i σ ys H', i < n → Pv i σ ys H' → ∀ N : L2.St → List V → Hp → Prop, (∀ σ ys H, Pv (i + 1) σ ys H → N σ ys H) →
      g (.int (lo + i)) σ H' fun σ4 H4 => tt σ4 H4 fun b H5 => if b = true then te σ4 H5 fun v H6 => H6 D = some (.lst ys) ∧ N σ4 (ys ++ [v]) (upd H6 D (.lst (ys ++ [v]))) else N σ4 ys H5)
    (hd : ∀ σ ys H', Pv n σ ys H' → Q (.ref D) H') : CompW (Itr lo n) g tt te σ0 Q D H := by
  refine ⟨fun i m σ ys H => m = n - i ∧ i ≤ n ∧ Pv i σ ys H, ⟨n, by simp, Nat.zero_le _, p0⟩, ?_⟩
  rintro i m σ ys H2 ⟨rfl, hi, p⟩
  obtain ⟨q2, q3⟩ := hl i σ ys H2 hi p
  refine ⟨q2, q3, ?_⟩
  by_cases hlt : i < n
  · refine .inr ⟨hlt, fun x H3 y => ?_⟩
    obtain ⟨e, y⟩ := y
    subst e y
    exact hs i σ ys _ hlt p (fun σ ys H => ∃ m', m' < n - i ∧ m' = n - (i + 1) ∧ i + 1 ≤ n ∧ Pv (i + 1) σ ys H) fun σ ys H z => ⟨_, by omega, rfl, hlt, z⟩
  · have e : i = n := by omega
    subst e
    exact .inl ⟨Nat.le_refl _, hd σ ys H2 p⟩
def BtA (a : Addr) (H H' : Hp) : Prop := ∀ b o, b ≠ a → H b = some o → H' b = some o
/-- no tuple stands there -/
def NT (H : Hp) (a : Addr) : Prop := ∀ o, H a = some o → (∀ vs, o ≠ .tup vs) ∧ ∀ q vs, o ≠ .frz q (.tup vs)
section
variable {K : PySem.W.Frag} {H H' H2 : Hp} {a b : Addr} {xs : List V}
theorem NT.lst (h : H a = some (.lst xs)) : NT H a := fun o e => by
  rw [h] at e
  cases e
  exact ⟨(fun _ z => nomatch z), (fun _ _ z => nomatch z)⟩
theorem BtA.refl : BtA a H H := fun _ _ _ h => h
theorem BtA.of (e : Same H H') : BtA a H H' := fun b o _ h => e b o h
theorem BtA.trans (e : BtA a H H') (f : BtA a H' H2) : BtA a H H2 := fun b o n h => f b o n (e b o n h)
theorem BtA.upd {o : HO} : BtA a H (L2.upd H a o) := fun b _ n h => by rw [upd_ne n]; exact h
theorem sqT_but {r : Addr} {vs : List V} (nt : NT H a) (e : BtA a H H') (h : SqT K H r vs) : SqT K H' r vs := by
  rcases h with (h | ⟨o, h⟩) | h
  · exact .inl (.inl (e _ _ (fun z => by subst z; exact (nt _ h).1 _ rfl) h))
  · exact .inl (.inr ⟨o, e _ _ (fun z => by subst z; exact (nt _ h).2 _ _ rfl) h⟩)
  · exact .inr h
mutual
theorem DatAt.but (nt : NT H a) (e : BtA a H H') : ∀ {v : V} {d : Dt}, DatAt K H v d → DatAt K H' v d
  | v, .non, h => by simpa [DatAt] using h
  | v, .int i, h => by simpa [DatAt] using h
  | v, .str i, h => by simpa [DatAt] using h
  | v, .tup ds, h => by
    obtain ⟨r, vs, rfl, h1, h2⟩ := h.un
    exact .tup (sqT_but nt e h1) (DatsAt.but nt e h2)
theorem DatsAt.but (nt : NT H a) (e : BtA a H H') : ∀ {vs : List V} {ds : List Dt}, DatsAt K H vs ds → DatsAt K H' vs ds
  | vs, [], h => by
    rw [h.un0]
    exact .nil
  | vs, d :: ds, h => by
    obtain ⟨v, r, rfl, h1, h2⟩ := h.un
    exact .cons (DatAt.but nt e h1) (DatsAt.but nt e h2)
end
theorem LsM.but {ds : List Dt} (h : LsM K H b ds) (nt : NT H a) (e : BtA a H H') (n : b ≠ a) : LsM K H' b ds := by
  obtain ⟨vs, h1, h2⟩ := h
  exact ⟨vs, e _ _ n h1, h2.but nt e⟩
structure LLM (K : PySem.W.Frag) (H : Hp) (a : Addr) (ps : List (Addr × List Dt)) : Prop where
  at_ : H a = some (.lst (ps.map fun p => V.ref p.1))
  it : ∀ p ∈ ps, LsM K H p.1 p.2
  ne : ∀ p ∈ ps, p.1 ≠ a
theorem LLM.same {ps : List (Addr × List Dt)} (h : LLM K H a ps) (e : Same H H') : LLM K H' a ps := ⟨e _ _ h.at_, fun p hp => (h.it p hp).same e, h.ne⟩
theorem LLM.but {ps : List (Addr × List Dt)} (h : LLM K H b ps) (nt : NT H a) (e : BtA a H H') (n : b ≠ a) (ni : ∀ p ∈ ps, p.1 ≠ a) : LLM K H' b ps :=
  ⟨e _ _ n h.at_, fun p hp => (h.it p hp).but nt e (ni p hp), h.ne⟩
theorem LLM.snoc {ps : List (Addr × List Dt)} {D : Addr} {ds : List Dt} (h : LLM K H a ps) (hD : LsM K H D ds) (ne : D ≠ a) : LLM K (L2.upd H a (.lst (ps.map (fun p => V.ref p.1) ++ [.ref D]))) a (ps ++ [(D, ds)]) := by
  refine ⟨?_, fun p hp => ?_, fun p hp => ?_⟩
  · rw [upd_same, List.map_append]
    rfl
  · rcases List.mem_append.mp hp with z | z
    · exact (h.it p z).but (.lst h.at_) .upd (h.ne p z)
    · cases List.mem_singleton.mp z
      exact hD.but (.lst h.at_) .upd ne
  · rcases List.mem_append.mp hp with z | z
    · exact h.ne p z
    · cases List.mem_singleton.mp z
      exact ne
end
section
variable {X : Cx} {pins : List (Addr × Obj)} {σ : St} {H : Hp} {s : Shared}
theorem eqAt_lists (I : Inv X pins σ H s) {A : Around} {p q : Addr} {ds : List Dt} (hu : A.units + 40 < cLine) (hp : LsM X.K H p ds) (hq : LsM X.K H q ds) (hh : Dt.hgts ds ≤ 30) : SeqAt.EqAt A s (.ref p) (.ref q) true := by
  by_cases hab : p = q
  · subst hab
    exact SeqAt.EqAt.same _
  · obtain ⟨vs, e1, h2⟩ := hp
    obtain ⟨ws, e2, k2⟩ := hq
    obtain ⟨its, r1, p1, _⟩ := I.list (SqL.of e1)
    obtain ⟨its2, r2, p2, _⟩ := I.list (SqL.of e2)
    have hsz : its.toArray.size = its2.toArray.size := by
      have l1 := r1.length
      have l2 := r2.length
      have m1 := h2.length
      have m2 := k2.length
      rw [List.size_toArray, List.size_toArray]
      omega
    have r := SeqAt.RcAt.lists (A := A) p1.isList p2.isList hsz (by omega) fun j j1 j2 => items_eq h2 k2 r1 r2 (fun d e x y u v hm q1 q2 q3 q4 =>
      eqAt_dat I 30 A.in1 d e x y u v (Nat.le_trans (Dt.hgt_mem hm) hh) (by show A.units + 1 + 30 < cLine; omega) q1 q2 q3 q4) j j1 j2
    rw [list_all h2 k2 r1 r2 hsz, Dt.beqs_self] at r
    exact SeqAt.EqAt.of_refs hab r
/-- != of two lists of lists that are alike -/
def rNeLL (K : PySem.W.Frag) : R2 := fun x y H Q => ∃ a b ps qs, x = .ref a ∧ y = .ref b ∧ LLM K H a ps ∧ LLM K H b qs ∧ ps.map (·.2) = qs.map (·.2) ∧ (∀ p ∈ ps, Dt.hgts p.2 ≤ 30) ∧ Q (.bl false) H
theorem op_neLL (hu : X.A.units + 64 < cLine) : OpR X (compareOp .NotEq) (rNeLL X.K) := by
  intro pins s σ H x y u v Q I ru rv h
  obtain ⟨a, b, ps, qs, rfl, rfl, ha, hb, he, hh, q⟩ := h
  cases (show u = Value.ref a from ru)
  cases (show v = Value.ref b from rv)
  obtain ⟨its, r1, p1, _⟩ := I.list (SqL.of ha.at_)
  obtain ⟨its2, r2, p2, _⟩ := I.list (SqL.of hb.at_)
  have l1 := r1.length
  have l2 := r2.length
  have le := congrArg List.length he
  rw [List.length_map] at l1 l2
  rw [List.length_map, List.length_map] at le
  have hsz : its.toArray.size = its2.toArray.size := by
    rw [List.size_toArray, List.size_toArray]
    omega
  have r := SeqAt.RcNeAt.lists (A := X.A) (e := fun _ => true) p1.isList p2.isList hsz (by omega) fun j j1 j2 => by
    rw [List.size_toArray] at j1 j2
    have g1 : ps[j]? = some ps[j] := List.getElem?_eq_getElem (by omega)
    have g2 : qs[j]? = some qs[j] := List.getElem?_eq_getElem (by omega)
    obtain ⟨u, eu, ru⟩ := r1.get (i := j) (x := .ref ps[j].1) (by rw [List.getElem?_map, g1]; rfl)
    obtain ⟨v, ev, rv⟩ := r2.get (i := j) (x := .ref qs[j].1) (by rw [List.getElem?_map, g2]; rfl)
    have f1 : its.toArray[j] = Value.ref ps[j].1 := by
      have := (List.getElem?_eq_some_iff.mp eu).2
      rw [← show u = Value.ref ps[j].1 from ru]
      simpa using this
    have f2 : its2.toArray[j] = Value.ref qs[j].1 := by
      have := (List.getElem?_eq_some_iff.mp ev).2
      rw [← show v = Value.ref qs[j].1 from rv]
      simpa using this
    rw [f1, f2]
    have ed : qs[j].2 = ps[j].2 := by
      have z := congrArg (fun l => l[j]?) he
      simp only [List.getElem?_map, g1, g2] at z
      exact (Option.some.inj z).symm
    exact eqAt_lists I (by show X.A.units + 1 + 40 < cLine; omega) (ha.it _ (List.getElem_mem _)) (by rw [← ed]; exact hb.it _ (List.getElem_mem _)) (hh _ (List.getElem_mem _))
  have ea : (List.range its.toArray.size).all (fun _ => true) = true := by simp
  rw [ea] at r
  exact r _ _ _ _ (fin_bl I q rfl)
end
end L2
namespace L2
open PySem PySem.Spec PyProof.Rows
section
variable {κ : Type} [DecidableEq κ]
def valV (kvs : List (κ × V)) (k : κ) : Option V := (kvs.find? fun kv => decide (kv.1 = k)).map (·.2)
/-- in its place, or at the end -/
def putK (kvs : List (κ × V)) (k : κ) (v : V) : List (κ × V) :=
  if (kvs.any fun kv => decide (kv.1 = k)) = true then kvs.map (fun kv => if kv.1 = k then (kv.1, v) else kv) else kvs ++ [(k, v)]
def dropK (kvs : List (κ × V)) (k : κ) : List (κ × V) := kvs.filter fun kv => decide (kv.1 ≠ k)
theorem valV_pos {p : κ × V} {r : List (κ × V)} {k : κ} (e : p.1 = k) : valV (p :: r) k = some p.2 := by simp [valV, List.find?_cons, e]
theorem valV_neg {p : κ × V} {r : List (κ × V)} {k : κ} (e : ¬ p.1 = k) : valV (p :: r) k = valV r k := by simp [valV, List.find?_cons, e]
theorem valV_any (k : κ) : ∀ kvs : List (κ × V), (kvs.any fun kv => decide (kv.1 = k)) = (valV kvs k).isSome
  | [] => rfl
  | p :: r => by
    rw [List.any_cons]
    by_cases e : p.1 = k
    · simp only [valV_pos e, decide_eq_true e, Bool.true_or, Option.isSome_some]
    · rw [valV_neg e, decide_eq_false e, Bool.false_or]; exact valV_any k r
theorem length_putK (kvs : List (κ × V)) (k : κ) (v : V) : (putK kvs k v).length ≤ kvs.length + 1 := by
  unfold putK
  split
  · rw [List.length_map]; omega
  · rw [List.length_append, List.length_cons, List.length_nil]; omega
theorem RelO.isSome_eq {o : Option V} {u : Option Value} (r : RelO o u) : o.isSome = u.isSome := by
  cases o with
  | none => cases u with
    | none => rfl
    | some _ => exact (show False from r).elim
  | some _ => cases u with
    | none => exact (show False from r).elim
    | some _ => rfl
theorem KV.any {kvs : List (κ × V)} {vs : List (κ × Value)} (r : KV kvs vs) (k : κ) : (kvs.any fun kv => decide (kv.1 = k)) = vs.any fun kv => decide (kv.1 = k) := by
  unfold KV at r
  induction r with
  | nil => rfl
  | cons h t ih => rw [List.any_cons, List.any_cons, ih, h.1]
theorem KV.repl {kvs : List (κ × V)} {vs : List (κ × Value)} (r : KV kvs vs) (k : κ) {y : V} {u : Value} (ry : RelV y u) :
    KV (kvs.map fun kv => if kv.1 = k then (kv.1, y) else kv) (vs.map fun kv => if kv.1 = k then (kv.1, u) else kv) := by
  unfold KV at r ⊢
  induction r with
  | nil => exact .nil
  | @cons p q ps qs h t ih =>
    rw [List.map_cons, List.map_cons]
    refine .cons ?_ ih
    obtain ⟨h1, h2⟩ := h
    by_cases e : p.1 = k
    · rw [if_pos e, if_pos (h1.symm.trans e)]; exact ⟨h1, ry⟩
    · rw [if_neg e, if_neg (fun z => e (h1.trans z))]; exact ⟨h1, h2⟩
theorem KV.put {kvs : List (κ × V)} {vs : List (κ × Value)} (r : KV kvs vs) (k : κ) {y : V} {u : Value} (ry : RelV y u) : KV (putK kvs k y) (stored vs k u) := by
  unfold putK stored
  rw [r.any k]
  by_cases e : (vs.any fun kv => decide (kv.1 = k)) = true
  · rw [if_pos e, if_pos e]; exact r.repl k ry
  · rw [if_neg e, if_neg e]; exact Paired.snoc r ⟨rfl, ry⟩
theorem KV.length {kvs : List (κ × V)} {vs : List (κ × Value)} (r : KV kvs vs) : kvs.length = vs.length := Paired.length r
end
theorem kV_is {P : Program} {w : World} {k : Key} {u : Value} (r : RelV (kV k) u) : (mixKind P w).is k u = true := by
  cases k with
  | inl i => obtain ⟨t, e⟩ := (show ∃ t, u = Value.int i t from r); subst e; exact mixKind_int P w i t
  | inr x => obtain ⟨t, e⟩ := (show ∃ t, u = Value.str x t from r); subst e; exact mixKind_str P w x t
theorem items_are {P : Program} {w : World} : ∀ {ks : List Key} {us : List Value}, Vals (ks.map kV) us → ItemsAre (mixKind P w) ks us
  | [], _, r => by rw [List.map_nil] at r; cases r; exact .nil
  | k :: ks, _, r => by
    rw [List.map_cons] at r
    cases r with
    | cons h t => exact .cons (kV_is h) (items_are t)
/-- raw entries of a dict with tuple keys -/
abbrev KT (H : Hp) : List (List Key × V) → List (List Key × Addr × Value) → Prop := Paired fun p q => p.1 = q.1 ∧ H q.2.1 = some (.tup (p.1.map kV)) ∧ RelV p.2 q.2.2
theorem KT.val {H : Hp} {kvs : List (List Key × V)} {xs : List (List Key × Addr × Value)} (r : KT H kvs xs) (k : List Key) : RelO (valV kvs k) ((atKey xs k).map (·.2)) := by
  induction r with
  | nil => exact True.intro
  | @cons p q ps qs h t ih =>
    obtain ⟨h1, _, h2⟩ := h
    by_cases e : p.1 = k
    · have e' : q.1 = k := h1.symm.trans e
      have b : atKey (q :: qs) k = some q.2 := by simp [atKey, List.find?_cons, e']
      rw [valV_pos e, b]; exact h2
    · have e' : ¬ q.1 = k := fun z => e (h1.trans z)
      have b : atKey (q :: qs) k = atKey qs k := by simp [atKey, List.find?_cons, e']
      rw [valV_neg e, b]; exact ih
theorem KT.repl {H : Hp} {kvs : List (List Key × V)} {xs : List (List Key × Addr × Value)} (r : KT H kvs xs) (k : List Key) {y : V} {u : Value} (ry : RelV y u) :
    KT H (kvs.map fun kv => if kv.1 = k then (kv.1, y) else kv) (xs.map (putAt k u)) := by
  induction r with
  | nil => exact .nil
  | @cons p q ps qs h t ih =>
    rw [List.map_cons, List.map_cons]
    refine .cons ?_ ih
    obtain ⟨h1, h2, h3⟩ := h
    unfold putAt
    by_cases e : p.1 = k
    · rw [if_pos e, if_pos (h1.symm.trans e)]; exact ⟨h1, h2, ry⟩
    · rw [if_neg e, if_neg (fun z => e (h1.trans z))]; exact ⟨h1, h2, h3⟩
theorem KT.put {H : Hp} {kvs : List (List Key × V)} {xs : List (List Key × Addr × Value)} (r : KT H kvs xs) (k : List Key) {b : Addr} {y : V} {u : Value} (hb : H b = some (.tup (k.map kV))) (ry : RelV y u) :
    KT H (putK kvs k y) (storedH xs k b u) := by
  have e : (kvs.any fun kv => decide (kv.1 = k)) = (atKey xs k).isSome := by
    rw [valV_any, (r.val k).isSome_eq, Option.isSome_map]
  unfold putK storedH
  rw [e]
  by_cases q : (atKey xs k).isSome = true
  · rw [if_pos q, if_pos q]; exact r.repl k ry
  · rw [if_neg q, if_neg q]; exact Paired.snoc r ⟨rfl, hb, ry⟩
theorem KT.keeps {H H' : Hp} {kvs : List (List Key × V)} {xs : List (List Key × Addr × Value)} (r : KT H kvs xs) (ht : ∀ b ys, H b = some (.tup ys) → H' b = some (.tup ys)) : KT H' kvs xs :=
  Paired.mapP r fun _ _ z => ⟨z.1, ht _ _ z.2.1, z.2.2⟩
section
variable {P : Program} {w : World} {H : Hp} {h : Heap} {a : Addr}
theorem rd_of {u : HO} (ok : HOk P w H h) (e : Rd H a u) : ObjOk P w H h a u := e.ok ok
theorem dk_rd {kvs : List (Key × V)} (ok : HOk P w H h) (e : Rd H a (.dK kvs)) : kvs.length ≤ sizeLine ∧ (a == sysModules) = false ∧ ∃ vs, KV kvs vs ∧ h.DictOf (mixKind P w) a vs :=
  show ObjOk P w H h a (.dK kvs) from rd_of ok e
theorem dk_of {kvs : List (Key × V)} (ok : HOk P w H h) (e : H a = some (.dK kvs)) : kvs.length ≤ sizeLine ∧ (a == sysModules) = false ∧ ∃ vs, KV kvs vs ∧ h.DictOf (mixKind P w) a vs := dk_rd ok (.inl e)
/-- a tracked tuple of ints and texts is a key -/
theorem key_of {ks : List Key} (ok : HOk P w H h) (e : H a = some (.tup (ks.map kV))) : (tupleKind (mixKind P w)).is h ks a := by
  obtain ⟨_, its, r, o, h1, h2, n, h3⟩ := (show ObjOk P w H h a (.tup (ks.map kV)) from ok a _ e)
  exact ⟨o, its.toArray, n, h1, h2, h3, by simpa using items_are r⟩
theorem dt_rd {kvs : List (List Key × V)} (ok : HOk P w H h) (e : Rd H a (.dT kvs)) : kvs.length ≤ sizeLine ∧ (a == sysModules) = false ∧
    ∃ xs, KT H kvs xs ∧ h.DictOfH (tupleKind (mixKind P w)) a xs := by
  obtain ⟨z, y, xs, r, o, es, ep, h1, h2, h3, h4, h5⟩ := (show ObjOk P w H h a (.dT kvs) from rd_of ok e)
  refine ⟨z, y, xs, r, o, es, ep, h1, h2, h3, h4, fun x hx => ?_, h5⟩
  have all : ∀ {l : List (List Key × V)} {m : List (List Key × Addr × Value)}, KT H l m → ∀ x ∈ m, (tupleKind (mixKind P w)).is h x.1 x.2.1 := by
    intro l m q
    induction q with
    | nil => intro x hx; exact nomatch hx
    | @cons p q ps qs hq t ih =>
      intro x hx
      rcases List.mem_cons.mp hx with e | hx
      · subst e
        exact key_of ok (by rw [← hq.1]; exact hq.2.1)
      · exact ih x hx
  exact all r x hx
theorem dt_of {kvs : List (List Key × V)} (ok : HOk P w H h) (e : H a = some (.dT kvs)) : kvs.length ≤ sizeLine ∧ (a == sysModules) = false ∧
    ∃ xs, KT H kvs xs ∧ h.DictOfH (tupleKind (mixKind P w)) a xs := dt_rd ok (.inl e)
end
/-- what the dict at a holds at the key y -/
def DGet (H : Hp) (a : Addr) (y : V) (r : Option V) : Prop :=
  (∃ kvs k, Rd H a (.dK kvs) ∧ y = kV k ∧ r = valV kvs k) ∨ ∃ kvs k b, Rd H a (.dT kvs) ∧ y = .ref b ∧ H b = some (.tup (k.map kV)) ∧ r = valV kvs k
/-- the heap behind a[y] = v -/
def DPut (H : Hp) (a : Addr) (y v : V) (H' : Hp) : Prop :=
  (∃ kvs k, H a = some (.dK kvs) ∧ y = kV k ∧ kvs.length < sizeLine ∧ H' = upd H a (.dK (putK kvs k v))) ∨
  ∃ kvs k b, H a = some (.dT kvs) ∧ y = .ref b ∧ H b = some (.tup (k.map kV)) ∧ kvs.length < sizeLine ∧ H' = upd H a (.dT (putK kvs k v))
theorem DPut.k {H : Hp} {a : Addr} {kvs : List (Key × V)} {k : Key} {v : V} (e : H a = some (.dK kvs)) (hl : kvs.length < sizeLine) : DPut H a (kV k) v (upd H a (.dK (putK kvs k v))) := .inl ⟨kvs, k, e, rfl, hl, rfl⟩
section
variable {X : Cx} {pins : List (Addr × Obj)} {σ : St} {H : Hp} {s : Shared} {a : Addr} {y v : V} {u r : Value} {o : Option V} {A : Around} {E : Value → Shared → Prop}
theorem Inv.big (I : Inv X pins σ H s) : sysModules < s.heap.objs.size := by
  have h : mainGlobals < s.heap.objs.size := (I.mod.glob.keeps I.bk).lt
  exact Nat.lt_trans (by decide) h
/-- a dict's object is replaced -/
theorem d_write {h' : Heap} {t' : Nat} {ob : HO} (I : Inv X pins σ H s) (mu : Mut (H a)) (hs : Heap.SameBut a s.heap h') (he : ∃ q, h'.get? a = some q) (new : ObjOk X.prog X.w (upd H a ob) h' a ob) :
    Inv X pins σ (upd H a ob) { s with heap := h', toks := t' } :=
  I.write (x := a) (e := a) mu (.inl rfl) (fun b q hb z => (hs.2 b hb).trans z) he new
theorem dk_new {P : Program} {w : World} {H' : Hp} {h' : Heap} {kvs : List (Key × V)} {vs : List (Key × Value)} (z : kvs.length ≤ sizeLine) (hd : (a == sysModules) = false) (rel : KV kvs vs) (dd : h'.DictOf (mixKind P w) a vs) :
    ObjOk P w H' h' a (.dK kvs) := ⟨z, hd, vs, rel, dd⟩
/-- d[y] = v -/
theorem d_setItem {H' : Hp} {Q : Unit → Shared → Prop} (hu : A.units + 1 < cLine) (I : Inv X pins σ H s) (g : DPut H a y v H') (ry : RelV y u) (rv : RelV v r) (h : ∀ s', Inv X pins σ H' s' → Q () s') :
    wpAny (model X.prog X.w) A (setItem (.ref a) u r) Q E s := by
  rcases g with ⟨kvs, k, e, ey, l, eH⟩ | ⟨kvs, k, b, e, ey, eb, l, eH⟩
  · subst ey eH
    obtain ⟨z, hd, vs, rel, dd⟩ := dk_of I.hok e
    have hz : vs.length ≤ sizeLine := by rw [← rel.length]; exact z
    have hl : (putK kvs k v).length ≤ sizeLine := by have := length_putK kvs k v; omega
    refine wpAny_setItem_pairs (hsz := hz) (kV_is ry) dd fun h' dd' hs => h _ ?_
    have he : ∃ q, h'.get? a = some q := let ⟨q, _, _, hq, _⟩ := dd'; ⟨q, hq⟩
    exact d_write I (by rw [e]; exact True.intro) hs he (dk_new hl hd (rel.put k rv) dd')
  · subst ey eH
    cases (show u = Value.ref b from ry)
    obtain ⟨z, hd, xs, rel, dd⟩ := dt_of I.hok e
    have hz : xs.length ≤ sizeLine := by rw [← Paired.length rel]; exact z
    have hl : (putK kvs k v).length ≤ sizeLine := by have := length_putK kvs k v; omega
    refine wpAny_setItem_heap (hsz := hz) (tupleKind_room_in1 hu) (key_of I.hok eb) dd fun h' dd' hs => h _ ?_
    obtain ⟨q, es, ep, hq, h2, h3, h4, _, h5⟩ := dd'
    refine d_write I (by rw [e]; exact True.intro) hs ⟨q, hq⟩ ⟨hl, hd, _, (rel.put k eb rv).keeps fun c ys ec => ?_, q, es, ep, hq, h2, h3, h4, h5⟩
    rw [upd_ne (ne_of ec e (fun z => nomatch z))]
    exact ec
end
section
variable {X : Cx} {pins : List (Addr × Obj)} {σ : St} {H : Hp} {s : Shared} {a : Addr} {kvs : List (Key × V)} {k : Key} {u : Value} {A : Around} {E : Value → Shared → Prop}
end
/-- the element of a subscription, not a slice -/
def NoSl (i : Expr) : Prop := ∀ ov iv, subscripted i false ov iv = operate [ov, iv] (getItem ov iv)
/-- d[y] -/
def tDGet (td ty : TE) : TE := fun σ H Q => td σ H fun x H1 => ty σ H1 fun y H2 => ∃ a v, x = .ref a ∧ DGet H2 a y (some v) ∧ Q v H2
/-- y in d, y not in d -/
def tDIn (ty td : TE) : TE := fun σ H Q => ty σ H fun y H1 => td σ H1 fun x H2 => ∃ a o, x = .ref a ∧ DGet H2 a y o ∧ Q (.bl o.isSome) H2
def tDNotIn (ty td : TE) : TE := fun σ H Q => ty σ H fun y H1 => td σ H1 fun x H2 => ∃ a o, x = .ref a ∧ DGet H2 a y o ∧ Q (.bl (!o.isSome)) H2
/-- d[y] = v -/
def sDPut (td ty tv : TE) : TS := fun D σ H => tv σ H fun v H1 => td σ H1 fun x H2 => ty σ H2 fun y H3 => ∃ a H4, x = .ref a ∧ DPut H3 a y v H4 ∧ D.nx σ H4
/-- d[y] op= v -/
def sDAug (td ty tv : TE) (rd : V → V → Hp → VK → Prop) : TS := fun D σ H => td σ H fun x H1 => ty σ H1 fun y H2 => ∃ a v, x = .ref a ∧ DGet H2 a y (some v) ∧
  tv σ H2 fun y2 H3 => rd v y2 H3 fun z H4 => ∃ H5, DPut H4 a y z H5 ∧ D.nx σ H5
/-- del d[y] -/
def sDDel (td ty : TE) : TS := fun D σ H => td σ H fun x H1 => ty σ H1 fun y H2 => ∃ a kvs k, x = .ref a ∧ H2 a = some (.dK kvs) ∧ y = kV k ∧ (valV kvs k).isSome = true ∧ D.nx σ (upd H2 a (.dK (dropK kvs k)))
section
variable {X : Cx} {o i e value : Expr} {pos pos' tpos : Pos} {td ty tv : TE}
theorem ps_dput (hu : X.A.units + 1 < cLine) (ho : PE X o td) (hi : PE X i ty) (hv : PE X value tv) (hs : swapsWith value (some (.Subscript o i pos')) pos.line X.env = pure false) :
    PS X (.Assign [.Subscript o i pos'] value pos) (sDPut td ty tv) := by
  intro pins s σ H D I h
  refine wpAny_Assign_Subscript (thn (hv pins s σ H _ I h) fun r s1 ⟨v, H1, I1, rv, q1⟩ => thn (ho pins s1 σ H1 _ I1 q1) fun u s2 ⟨x, H2, I2, rx, q2⟩ => thn (hi pins s2 σ H2 _ I2 q2) fun iv s3 ⟨y, H3, I3, ry, a, H4, ex, g, q3⟩ => ?_) hs
  subst ex
  obtain rfl : u = Value.ref a := rx
  exact d_setItem hu I3 g ry rv fun s4 I4 => ⟨σ, H4, I4, q3⟩
end
theorem dk_empty {P : Program} {w : World} {H : Hp} (h : Heap) (hb : sysModules < h.objs.size) : ObjOk P w H (h.push { cls := .type "dict", data := .dict #[] }) h.objs.size (.dK []) :=
  ⟨Nat.zero_le _, beq_eq_false_iff_ne.mpr (Ne.symm (Nat.ne_of_lt hb)), [], .nil, Heap.DictOf.new h⟩
/-- {}, to be a dict of the kind that is wanted -/
def tDNewK : TE := fun _ H Q => ∀ p, H p = none → Q (.ref p) (upd H p (.dK []))
def tDNewT : TE := fun _ H Q => ∀ p, H p = none → Q (.ref p) (upd H p (.dT []))
section
variable {X : Cx} {pos : Pos}
theorem pe_dnewK : PE X (.Dict [] [] pos) tDNewK := fun pins s σ H Q I h =>
  wpAny_Dict_empty ⟨.ref s.heap.objs.size, _, I.laid (a := s.heap.objs.size) (o := .dK []) (t' := s.toks) (fun _ _ q => Heap.get?_push_of_some _ q) (Nat.le_refl _) (dk_empty s.heap I.big), rfl, h _ (I.hok.fresh (Nat.le_refl _))⟩
end
/-- the pairs of a display, from the left -/
def tPairs : List (TE × TE) → St → Hp → (List (V × V) → Hp → Prop) → Prop
  | [], _, H, Q => Q [] H
  | (tk, tv) :: r, σ, H, Q => tk σ H fun x H1 => tv σ H1 fun y H2 => tPairs r σ H2 fun ps H3 => Q ((x, y) :: ps) H3
abbrev VV : List (V × V) → List (Value × Value) → Prop := Paired fun p q => RelV p.1 q.1 ∧ RelV p.2 q.2
def PPs (X : Cx) (pos : Pos) (keys : List (Option Expr)) (values : List Expr) (trs : List (TE × TE)) : Prop :=
  ∀ (pins : List (Addr × Obj)) (s : Shared) (σ : St) (H : Hp) (Q : List (V × V) → Hp → Prop), Inv X pins σ H s → tPairs trs σ H Q →
    wpAny (model X.prog X.w) X.A (evalPairs (pairTrees keys values X.env pos)) (fun vs s' => ∃ ps H', Inv X pins σ H' s' ∧ VV ps vs ∧ Q ps H') X.xe s
def mergeK (kvs more : List (Key × V)) : List (Key × V) := more.foldl (fun acc kv => putK acc kv.1 kv.2) kvs
/-- {k: v, ..} with keys ints and texts; the new dict stands empty while the pairs are made -/
def tDisp (trs : List (TE × TE)) : TE := fun σ H Q => ∀ p, H p = none → tPairs trs σ (upd H p (.dK [])) fun ps H2 => H2 p = some (.dK []) ∧ ∃ kvs : List (Key × V), ps = kvs.map (fun kv => (kV kv.1, kv.2)) ∧ kvs.length ≤ 15 ∧ Q (.ref p) (upd H2 p (.dK (mergeK [] kvs)))
/-- a method call o.m(e) of a built-in, with one argument: what must be seen of the text -/
structure M1 (X : Cx) (o : Expr) (m : Str) (apos : Pos) (e : Expr) (cpos : Pos) : Prop where
  base : attributeBase o m X.env (eval o X.env) = eval o X.env
  few : ((backTo cpos (starEach [e] X.env)).all (fun x => !x.1) && (backToKw cpos (keywordEach [] X.env)).all (fun x => x.1.isSome)
    && decide (([e] : List Expr).length + ([] : List Keyword).length + (if ([] : List Keyword).isEmpty then 0 else 1) < 30)) = true
  line : (apos.endLine == cpos.line) = true
  trees : backTo cpos (starEach [e] X.env) = [(false, eval e X.env)]
structure M2 (X : Cx) (o : Expr) (m : Str) (apos : Pos) (e f : Expr) (cpos : Pos) : Prop where
  base : attributeBase o m X.env (eval o X.env) = eval o X.env
  few : ((backTo cpos (starEach [e, f] X.env)).all (fun x => !x.1) && (backToKw cpos (keywordEach [] X.env)).all (fun x => x.1.isSome)
    && decide (([e, f] : List Expr).length + ([] : List Keyword).length + (if ([] : List Keyword).isEmpty then 0 else 1) < 30)) = true
  line : (apos.endLine == cpos.line) = true
  trees : backTo cpos (starEach [e, f] X.env) = [(false, eval e X.env), (false, eval f X.env)]
/-- a is a dict, whatever its keys -/
def IsD (H : Hp) (a : Addr) : Prop := (∃ kvs, Rd H a (.dK kvs)) ∨ ∃ kvs, Rd H a (.dT kvs)
section
variable {X : Cx} {pins : List (Addr × Obj)} {σ : St} {H : Hp} {s : Shared} {a : Addr} {y d : V} {u r : Value} {o : Option V} {A : Around} {E : Value → Shared → Prop}
end
def tDGet1 (td ty : TE) : TE := fun σ H Q => td σ H fun x H1 => ∃ a, x = .ref a ∧ IsD H1 a ∧ ty σ H1 fun y H2 => ∃ o, DGet H2 a y o ∧ Q (o.getD .non) H2
def tDGet2 (td ty tx : TE) : TE := fun σ H Q => td σ H fun x H1 => ∃ a, x = .ref a ∧ IsD H1 a ∧ ty σ H1 fun y H2 => tx σ H2 fun z H3 => ∃ o, DGet H3 a y o ∧ Q (o.getD z) H3
/-- d.pop(k): there; d.pop(k, x): there or not -/
def tDPop1 (td ty : TE) : TE := fun σ H Q => td σ H fun x H1 => ∃ a, x = .ref a ∧ IsD H1 a ∧ ty σ H1 fun y H2 => ∃ kvs k v, H2 a = some (.dK kvs) ∧ y = kV k ∧ valV kvs k = some v ∧ Q v (upd H2 a (.dK (dropK kvs k)))
def tDPop2 (td ty tx : TE) : TE := fun σ H Q => td σ H fun x H1 => ∃ a, x = .ref a ∧ IsD H1 a ∧ ty σ H1 fun y H2 => tx σ H2 fun z H3 => ∃ kvs k, H3 a = some (.dK kvs) ∧ y = kV k ∧
  (∀ v, valV kvs k = some v → Q v (upd H3 a (.dK (dropK kvs k)))) ∧ (valV kvs k = none → Q z H3)
section
variable {X : Cx} {o e f : Expr} {apos cpos : Pos} {td ty tx : TE}
end
section
variable {X : Cx} {pins : List (Addr × Obj)} {σ : St} {H : Hp} {s : Shared} {a : Addr} {kvs : List (Key × V)} {A : Around} {E : Value → Shared → Prop}
end
section
variable {X : Cx} {pins : List (Addr × Obj)} {σ : St} {H : Hp} {s : Shared} {a : Addr} {y : V} {u : Value} {A : Around} {E : Value → Shared → Prop}
end
end L2
namespace L2
open PySem PySem.Spec PyProof.Rows
abbrev yA (h : Heap) (l : Addr) : Heap := h.push { cls := .type "tuple_iterator", data := .fields #[.ref l, .int 0 0] }
abbrev yB (h : Heap) (l m : Addr) : Heap := (yA h l).push { cls := .type "list_iterator", data := .fields #[.ref m, .int 0 0] }
abbrev yC (h : Heap) (l m : Addr) : Heap := (yB h l m).push { cls := .type "tuple", data := .seq #[.ref h.objs.size, .ref (yA h l).objs.size] }
abbrev yD (h : Heap) (l m : Addr) : Heap := (yC h l m).push { cls := .type "tuple", data := .seq #[.none, .none] }
abbrev yE (h : Heap) (l m : Addr) : Heap := (yD h l m).push { cls := .type "zip", data := .fields #[.none, .bool false, .bool false, .ref (yB h l m).objs.size, .ref (yC h l m).objs.size] }
/-- the pairs of the tuples at a and b -/
def ItzM (K : PySem.W.Frag) (a b : Addr) : It :=
  ⟨fun i H => ∃ xs ys x y, SqT K H a xs ∧ SqL K H b ys ∧ xs[i]? = some x ∧ ys[i]? = some y,
   fun i H v H' => ∃ p, v = .ref p ∧ H p = none ∧ ∀ xs ys x y, SqT K H a xs → SqL K H b ys → xs[i]? = some x → ys[i]? = some y → H' = upd H p (.tup [x, y]),
   fun i H => ∃ xs ys, SqT K H a xs ∧ SqL K H b ys ∧ (xs.length ≤ i ∨ ys.length ≤ i)⟩
section
variable {X : Cx} {elts : List Expr} {kk : Nat} {tpos : Pos}
def iZipM (K : PySem.W.Frag) (ta : TA) : TI := fun σ H R => ta σ H fun vs H1 => ∃ a b, vs = [.ref a, .ref b] ∧ (∃ xs, SqT K H1 a xs) ∧ (∃ ys, SqL K H1 b ys) ∧ R (ItzM K a b) H1
end
/-- .. of two lists -/
theorem comp_zip {K : PySem.W.Frag} {a b D : Addr} {xs ys : List V} {g : TG} {tt : TT} {te : TE} {Q : VK} {H : Hp} {σ0 : L2.St} (Pv : Nat → L2.St → List V → Hp → Prop) (p0 : Pv 0 σ0 [] H)
    (hl : ∀ i σ zs H', i ≤ min xs.length ys.length → Pv i σ zs H' → SqL K H' a xs ∧ SqL K H' b ys ∧ H' D = some (.lst zs) ∧ zs.length < sizeLine)
    (hs : ∀ i x y σ zs H' p, xs[i]? = some x → ys[i]? = some y → Pv i σ zs H' → H' p = none → ∀ N : L2.St → List V → Hp → Prop, (∀ σ zs H, Pv (i + 1) σ zs H → N σ zs H) →
      g (.ref p) σ (upd H' p (.tup [x, y])) fun σ4 H4 => tt σ4 H4 fun b H5 => if b = true then te σ4 H5 fun v H6 => H6 D = some (.lst zs) ∧ N σ4 (zs ++ [v]) (upd H6 D (.lst (zs ++ [v]))) else N σ4 zs H5)
    (hd : ∀ σ zs H', Pv (min xs.length ys.length) σ zs H' → Q (.ref D) H') : CompW (Itz K a b) g tt te σ0 Q D H := by
  refine ⟨fun i m σ zs H => m = min xs.length ys.length - i ∧ i ≤ min xs.length ys.length ∧ Pv i σ zs H, ⟨min xs.length ys.length, by simp, Nat.zero_le _, p0⟩, ?_⟩
  rintro i m σ zs H2 ⟨rfl, hi, p⟩
  obtain ⟨q1, q2, q3, q4⟩ := hl i σ zs H2 hi p
  refine ⟨q3, q4, ?_⟩
  by_cases hlt : i < min xs.length ys.length
  · have h1 : i < xs.length := by omega
    have h2 : i < ys.length := by omega
    refine .inr ⟨⟨xs, ys, xs[i], ys[i], q1, q2, by simp [h1], by simp [h2]⟩, fun v H3 y => ?_⟩
    obtain ⟨t, rfl, ht, y⟩ := y
    have e := y xs ys xs[i] ys[i] q1 q2 (by simp [h1]) (by simp [h2])
    subst e
    exact hs i xs[i] ys[i] σ zs H2 t (by simp [h1]) (by simp [h2]) p ht (fun σ zs H => ∃ m', m' < min xs.length ys.length - i ∧ m' = min xs.length ys.length - (i + 1) ∧ i + 1 ≤ min xs.length ys.length ∧ Pv (i + 1) σ zs H) fun σ zs H z => ⟨_, by omega, rfl, hlt, z⟩
  · have e : i = min xs.length ys.length := by omega
    subst e
    exact .inl ⟨⟨xs, ys, q1, q2, by omega⟩, hd σ zs H2 p⟩
section
variable {X : Cx}
theorem pss_no {b : List Stmt} : PSs X b (fun _ _ _ => False) := fun _ _ _ _ _ _ h => h.elim
end
theorem FnOk.no {P : Program} {w : World} {K : PySem.W.Frag} {mg : Str → Option Value} {base : Heap} {CX : CXT} {k : Nat} {f : Addr} {fd : FuncData} {ps : List Str} : FnOk P w K mg base CX k f fd ps (fun _ _ _ _ => False) :=
  ⟨fun _ _ _ _ h => h.elim, fun _ _ _ _ _ _ _ _ _ _ _ _ _ h => h.elim⟩
section
variable {X : Cx}
def rNeDi (K : PySem.W.Frag) : R2 := fun x y H Q => ∃ (a b : Addr) (kvs lvs : List (Key × V)), x = .ref a ∧ y = .ref b ∧ H a = some (.dK kvs) ∧ H b = some (.dK lvs) ∧ kvs.length = lvs.length ∧
  (∀ kv ∈ kvs, ∃ v d, valV lvs kv.1 = some v ∧ DatAt K H kv.2 d ∧ DatAt K H v d ∧ d.hgt ≤ 30) ∧ Q (.bl false) H
end
end L2
namespace L2
open PySem PySem.Spec PySem.W PyProof.Rows
section
variable {X : Cx} {CX : CXT} {k : Nat} {f C : Addr} {fd : FuncData} {ps : List Str} {sp : Sp} {dvs : List V} {ds : List Value} {E : XK} {x m : Str} {p pos apos : Pos} {e o : Expr} {es : List Expr} {ta : TE} {t : TA}
/-- what a def of a class is found by -/
structure ClsM (K : Frag) (C : Addr) (m : Str) (f : Addr) : Prop where
  ga : specialIn K (.ref C) "__getattribute__" = some (some (.builtin "type.__getattribute__"))
  rd : readsIn K C (.type "type") = true
  at_ : findCls K (.ref C) (.type "type") m = some (.val (.ref f))
  kp : keepIn K (.ref f) = true
/-- o.m(e, ..) of an instance of C or of C2 -/
def tMeth2 (C C2 : Addr) (m : Str) (sp sp2 : Sp) (E E2 : XK) (ta : TE) (t : TA) : TE := fun σ H Q => ta σ H fun x H1 => ∃ a dx fs, x = .ref a ∧ fs.lookup m = none ∧
  ((H1 a = some (.ins C dx fs) ∧ t σ H1 fun vs H2 => sp (x :: (vs ++ [])) H2 Q E) ∨ (H1 a = some (.ins C2 dx fs) ∧ t σ H1 fun vs H2 => sp2 (x :: (vs ++ [])) H2 Q E2))
end
section
variable {X : Cx}
/-- == of two lists of lists that are alike -/
def rEqLL (K : PySem.W.Frag) : R2 := fun x y H Q => ∃ a b ps qs, x = .ref a ∧ y = .ref b ∧ LLM K H a ps ∧ LLM K H b qs ∧ ps.map (·.2) = qs.map (·.2) ∧ (∀ p ∈ ps, Dt.hgts p.2 ≤ 30) ∧ Q (.bl true) H
/-- == of two dicts that are alike -/
def rEqDi (K : PySem.W.Frag) : R2 := fun x y H Q => ∃ (a b : Addr) (kvs lvs : List (Key × V)), x = .ref a ∧ y = .ref b ∧ H a = some (.dK kvs) ∧ H b = some (.dK lvs) ∧ kvs.length = lvs.length ∧
  (∀ kv ∈ kvs, ∃ v d, valV lvs kv.1 = some v ∧ DatAt K H kv.2 d ∧ DatAt K H v d ∧ d.hgt ≤ 30) ∧ Q (.bl true) H
end
end L2
namespace L2
open PySem PySem.Spec PySem.W PyProof.Rows
theorem caps2 {X : Cx} {scope : Scope} {Nc : List Str} {x y : Str} {c d : Addr} (i j i2 j2 : Nat) (ns : List (Str × NameKind)) (hrel : (relabel scope X.env).names = ns) (hclos : closureFor scope X.env = pure [(x, c), (y, d)]) (hk : scope.kind = .function)
    (hnc : ∀ z ∈ scope.names, z.2 ≠ .cell) (hnm : ∀ z ∈ scope.names, z.2 = .local → scope.names.lookup z.1 = some .local) (hcx : X.env.cells.lookup x = some c) (hcy : X.env.cells.lookup y = some d) (hii : i ≠ i2)
    (honly : ∀ z ∈ ns, z.2 = .cell ∨ z.2 = .free → z.1 = x ∨ z.1 = y) (hinx : ns.lookup x = some .cell) (hiny : ns.lookup y = some .cell) (hkx : X.env.kindOf x = some .cell) (hky : X.env.kindOf y = some .cell)
    (hNx : Nc[i]? = some x) (hNy : Nc[i2]? = some y) (hjx : X.N[j]? = some x) (hjy : X.N[j2]? = some y) :
    Caps X scope [(x, c), (y, d)] Nc (fun σ => ((List.replicate Nc.length none).set i (σ.getD j none)).set i2 (σ.getD j2 none)) where
  clos := hclos
  kind := hk
  nocell := hnc
  names := hnm
  cells := fun z e' e => by
    rw [List.lookup_cons] at e
    split at e
    · rename_i q
      have q' : z = x := by simpa using q
      cases e
      rw [q']
      exact hcx
    · rw [List.lookup_cons] at e
      split at e
      · rename_i q
        have q' : z = y := by simpa using q
        cases e
        rw [q']
        exact hcy
      · cases e
  has := fun z h => by
    rw [hrel] at h
    have e : z = x ∨ z = y := by
      rcases h with h | h
      · exact honly _ (PySem.mem_of_lookup h) (.inl rfl)
      · exact honly _ (PySem.mem_of_lookup h) (.inr rfl)
    rw [List.lookup_cons]
    split
    · exact ⟨c, rfl⟩
    · rename_i q
      have q' : z ≠ x := by simpa using q
      rcases e with e | e
      · exact absurd e q'
      · subst e
        exact ⟨d, by simp [List.lookup_cons]⟩
  len := fun σ => by simp
  cap := fun σ k z v e1 e2 _ => by
    have get : ∀ {q : Nat}, σ.getD q none = some v → σ[q]? = some (some v) := fun {q} e3 => by
      rw [List.getD_eq_getElem?_getD] at e3
      cases h : σ[q]? with
      | none => rw [h] at e3; cases e3
      | some o =>
        rw [h] at e3
        have e4 : o = some v := e3
        rw [e4]
    by_cases q2 : k = i2
    · subst q2
      rw [hNy] at e1
      cases e1
      have hlt : k < Nc.length := (List.getElem?_eq_some_iff.mp hNy).1
      rw [List.getElem?_set_self (by simpa using hlt)] at e2
      exact ⟨.inl (by rw [hrel]; exact hiny), .inl hky, j2, hjy, get (Option.some.inj e2), .inr (.inl hky)⟩
    · rw [List.getElem?_set_ne (Ne.symm q2)] at e2
      by_cases q : k = i
      · subst q
        rw [hNx] at e1
        cases e1
        have hlt : k < Nc.length := (List.getElem?_eq_some_iff.mp hNx).1
        rw [List.getElem?_set_self (by simpa using hlt)] at e2
        exact ⟨.inl (by rw [hrel]; exact hinx), .inl hkx, j, hjx, get (Option.some.inj e2), .inr (.inl hkx)⟩
      · rw [List.getElem?_set_ne (Ne.symm q), List.getElem?_replicate] at e2
        split at e2 <;> cases e2
end L2
namespace L2
open PySem PySem.Spec PySem.W PyProof.Rows
section
variable {X : Cx} {K : Frag}
theorem ix_listK (hK : X.K = K) : IxR X (rIxL K) := by
  subst hK
  exact ix_list
theorem call_len_seqK (hK : X.K = K) : CallR X (.builtin "len") (fun xs H Q => ∃ p ys, xs = [.ref p] ∧ (SqL K H p ys ∨ SqT K H p ys) ∧ Q (.int ys.length) H) := by
  subst hK
  exact call_len_seq
end
def Cold (H H' : Hp) : Prop := ∀ b o, o ≠ .lst [] → H b = some o → H' b = some o
section
variable {K : Frag} {H H' H2 : Hp}
theorem Cold.tup {r : Addr} {vs : List V} (e : Cold H H') (h : SqT K H r vs) : SqT K H' r vs := by
  rcases h with (h | ⟨o, h⟩) | h
  · exact .inl (.inl (e _ _ (fun z => nomatch z) h))
  · exact .inl (.inr ⟨o, e _ _ (fun z => nomatch z) h⟩)
  · exact .inr h
mutual
theorem DatAt.cold (e : Cold H H') : ∀ {v : V} {d : Dt}, DatAt K H v d → DatAt K H' v d
  | v, .non, h => by simpa [DatAt] using h
  | v, .int i, h => by simpa [DatAt] using h
  | v, .str i, h => by simpa [DatAt] using h
  | v, .tup ds, h => by
    obtain ⟨r, vs, rfl, h1, h2⟩ := h.un
    exact .tup (e.tup h1) (DatsAt.cold e h2)
theorem DatsAt.cold (e : Cold H H') : ∀ {vs : List V} {ds : List Dt}, DatsAt K H vs ds → DatsAt K H' vs ds
  | vs, [], h => by
    rw [h.un0]
    exact .nil
  | vs, d :: ds, h => by
    obtain ⟨v, r, rfl, h1, h2⟩ := h.un
    exact .cons (DatAt.cold e h1) (DatsAt.cold e h2)
end
end
end L2
namespace L2
open PySem PySem.Spec PyProof PyProof.Rows
section
variable {X : Cx}
theorem call_maxL (hc : X.calm = true) : CallR X (.builtin "max") (fun xs H Q => ∃ (p : Addr) (ns : List Int), xs = [.ref p] ∧ SqL X.K H p (ns.map V.int) ∧ 0 < ns.length ∧ ∀ M, M ∈ ns → (∀ a ∈ ns, a ≤ M) → Q (.int M) H) := by
  intro pins s σ H xs us Q I r h
  obtain ⟨p, ns, rfl, hp, hne, q⟩ := h
  obtain ⟨u, rfl, ru⟩ := vals1 r
  cases ru
  obtain ⟨its, rv, pl, _⟩ := I.list hp
  have i1 : IntsAre its ns := intsAre_of rv
  obtain ⟨xs, e⟩ := i1.allInts.items
  have hns : ns = xs.toList.map (·.1) := by rw [← i1.numsOf, ← nums_intItems, ← e]
  have hsz : 0 < xs.size := by
    have h3 := hne; rw [hns, List.length_map, Array.length_toList] at h3; exact h3
  have hl := pl.isList
  rw [e] at hl
  refine max_intList (I.ok.hd hc) hl hsz fun v h' tk hv hk => ?_
  obtain ⟨t, rfl⟩ := intItems_at hv
  obtain ⟨h1, h2⟩ := argBest_gt (numAt xs) (xs.size - 1)
  refine ⟨.int _, H, I.kept hk, ⟨t, rfl⟩, q _ ?_ fun a ha => ?_⟩
  · rw [hns, numAt_eq]; exact getD_mem (by rw [List.length_map, Array.length_toList]; omega)
  · rw [hns] at ha
    obtain ⟨j, hj, rfl⟩ := mem_getD ha
    rw [List.length_map, Array.length_toList] at hj
    rw [← numAt_eq]; exact h2 j (by omega)
theorem call_maxLK {K : PySem.W.Frag} (hK : X.K = K) (hc : X.calm = true) : CallR X (.builtin "max") (fun xs H Q => ∃ (p : Addr) (ns : List Int), xs = [.ref p] ∧ SqL K H p (ns.map V.int) ∧ 0 < ns.length ∧ ∀ M, M ∈ ns → (∀ a ∈ ns, a ≤ M) → Q (.int M) H) := by
  subst hK
  exact call_maxL hc
end
end L2
namespace M44
def prodI : List Int → Int
  | [] => 1
  | x :: r => x * prodI r
theorem prodI_append : ∀ (a b : List Int), prodI (a ++ b) = prodI a * prodI b
  | [], b => by simp [prodI]
  | x :: a, b => by simp [prodI, prodI_append a b, Int.mul_assoc]
theorem prodI_pos : ∀ {a : List Int}, (∀ x ∈ a, 0 < x) → 0 < prodI a
  | [], _ => by decide
  | x :: a, h => Int.mul_pos (h x (by simp)) (prodI_pos fun y hy => h y (by simp [hy]))
theorem prodI_le {m : Int} (hm : 1 ≤ m) : ∀ {a : List Int}, (∀ x ∈ a, 0 ≤ x ∧ x ≤ m) → 0 ≤ prodI a ∧ prodI a ≤ m ^ a.length
  | [], _ => by simp [prodI]
  | x :: a, h => by
    obtain ⟨p0, p1⟩ := prodI_le hm (a := a) fun y hy => h y (by simp [hy])
    obtain ⟨x0, x1⟩ := h x (by simp)
    refine ⟨Int.mul_nonneg x0 p0, ?_⟩
    show x * prodI a ≤ m ^ (a.length + 1)
    rw [Int.pow_succ, Int.mul_comm (m ^ a.length) m]
    exact Int.mul_le_mul x1 p1 p0 (by omega)
def mx (ws : List Int) : Int := ws.foldr max 0
theorem le_mx : ∀ {ws : List Int} {a : Int}, a ∈ ws → a ≤ mx ws
  | x :: r, a, h => by
    show a ≤ max x (mx r)
    rcases List.mem_cons.mp h with rfl | h
    · omega
    · have := le_mx h
      omega
theorem mx_mem : ∀ {ws : List Int}, (∀ a ∈ ws, 0 < a) → ws ≠ [] → mx ws ∈ ws
  | [x], h, _ => by
    have := h x (by simp)
    have e : mx [x] = x := by show max x 0 = x; omega
    rw [e]; simp
  | x :: y :: r, h, _ => by
    have ih := mx_mem (ws := y :: r) (fun a ha => h a (List.mem_cons_of_mem _ ha)) (by simp)
    show max x (mx (y :: r)) ∈ _
    by_cases z : x ≤ mx (y :: r)
    · rw [show max x (mx (y :: r)) = mx (y :: r) by omega]
      exact List.mem_cons_of_mem _ ih
    · rw [show max x (mx (y :: r)) = x by omega]
      simp
theorem mx_is {ws : List Int} {M : Int} (hp : ∀ a ∈ ws, 0 < a) (hm : M ∈ ws) (hle : ∀ a ∈ ws, a ≤ M) : M = mx ws := by
  have h1 := le_mx hm
  have h2 := hle _ (mx_mem hp (fun z => by rw [z] at hm; cases hm))
  omega
theorem mx_pos {ws : List Int} (hp : ∀ a ∈ ws, 0 < a) (h : ws ≠ []) : 0 < mx ws := hp _ (mx_mem hp h)
theorem sum_pos : ∀ {ws : List Int}, (∀ a ∈ ws, 0 < a) → ws ≠ [] → 0 < ws.sum
  | [x], h, _ => by
    have := h x (by simp)
    simp
    exact this
  | x :: y :: r, h, _ => by
    have := h x (by simp)
    have ih := sum_pos (ws := y :: r) (fun a ha => h a (List.mem_cons_of_mem _ ha)) (by simp)
    rw [List.sum_cons]
    omega
/-- weights above nought, and some in each draw -/
def Good (D : List (List Int)) : Prop := ∀ d ∈ D, d ≠ [] ∧ ∀ a ∈ d, 0 < a
def Pm (D : List (List Int)) (k : Nat) : Int := prodI ((D.take k).map mx)
def Ts (D : List (List Int)) (k : Nat) : Int := prodI ((D.drop k).map List.sum)
def bet (D : List (List Int)) (k h : Nat) : List (List Int) := (D.drop (k + 1)).take (h - (k + 1))
theorem Pm_pos {D : List (List Int)} (g : Good D) (k : Nat) : 0 < Pm D k := prodI_pos fun x hx => by
  obtain ⟨d, hd, rfl⟩ := List.mem_map.mp hx
  have := g d (List.mem_of_mem_take hd)
  exact mx_pos this.2 this.1
theorem Ts_pos {D : List (List Int)} (g : Good D) (k : Nat) : 0 < Ts D k := prodI_pos fun x hx => by
  obtain ⟨d, hd, rfl⟩ := List.mem_map.mp hx
  have := g d (List.mem_of_mem_drop hd)
  exact sum_pos this.2 this.1
theorem Pm_cut {D : List (List Int)} {k h : Nat} {d : List Int} (hd : D[k]? = some d) (hk : k < h) : Pm D h = Pm D k * (mx d * prodI ((bet D k h).map mx)) := by
  have hlt := (List.getElem?_eq_some_iff.mp hd).1
  have e : D.take h = D.take k ++ d :: bet D k h := by
    have e1 : D = D.take k ++ d :: D.drop (k + 1) := by
      rw [← (List.getElem?_eq_some_iff.mp hd).2, ← List.drop_eq_getElem_cons hlt, List.take_append_drop]
    have lk : (D.take k).length = k := by rw [List.length_take]; omega
    have e2 : D.take h = (D.take k ++ d :: D.drop (k + 1)).take h := by rw [← e1]
    rw [e2, List.take_append, lk, List.take_of_length_le (by omega)]
    obtain ⟨m, rfl⟩ : ∃ m, h = k + 1 + m := ⟨h - (k + 1), by omega⟩
    unfold bet
    rw [show k + 1 + m - k = m + 1 by omega, show k + 1 + m - (k + 1) = m by omega, List.take_succ_cons]
  unfold Pm
  rw [e, List.map_append, prodI_append, List.map_cons]
  rfl
theorem Ts_cut {D : List (List Int)} {k h : Nat} {d : List Int} (hd : D[k]? = some d) (hk : k < h) : Ts D k = d.sum * prodI ((bet D k h).map List.sum) * Ts D h := by
  have hlt := (List.getElem?_eq_some_iff.mp hd).1
  have e : D.drop k = d :: (bet D k h ++ D.drop h) := by
    rw [List.drop_eq_getElem_cons hlt, (List.getElem?_eq_some_iff.mp hd).2]
    congr 1
    unfold bet
    rw [show D.drop h = (D.drop (k + 1)).drop (h - (k + 1)) by rw [List.drop_drop]; congr 1; omega, List.take_append_drop]
  unfold Ts
  rw [e, List.map_cons, List.map_append]
  show d.sum * prodI _ = _
  rw [prodI_append, Int.mul_assoc]
/-- the heaviest by way of a child -/
theorem by_child {D : List (List Int)} (g : Good D) {k h : Nat} {d : List Int} (hd : D[k]? = some d) (hk : k < h) (gc w : Int) : Pm D h * gc / mx d * w = Pm D k * (w * prodI ((bet D k h).map mx) * gc) := by
  have gd := g d (List.mem_of_getElem? hd)
  have p := mx_pos gd.2 gd.1
  rw [Pm_cut hd hk]
  have e : Pm D k * (mx d * prodI ((bet D k h).map mx)) * gc = mx d * (Pm D k * (prodI ((bet D k h).map mx) * gc)) := by
    ac_rfl
  rw [e, Int.mul_ediv_cancel_left _ (by omega)]
  ac_rfl
/-- from the program's fraction to the price -/
theorem lower {P T g h B a b : Int} (hP : 0 < P) (eh : h = P * g) (eB : B = P * T) (e : a * B = h * b) : a * T = g * b := by
  refine Int.eq_of_mul_eq_mul_left (a := P) (by omega) ?_
  calc P * (a * T) = a * B := by rw [eB]; ac_rfl
    _ = h * b := e
    _ = P * (g * b) := by rw [eh]; ac_rfl
theorem bot_step {P d M T : Int} (hd : 0 < d) : P * (d * T) / d * M = P * M * T := by
  rw [show P * (d * T) = d * (P * T) by ac_rfl, Int.mul_ediv_cancel_left _ (by omega)]
  ac_rfl
end M44
namespace M44
inductive Prt
  | no
  | lf
  | ask (k : Nat) (ch : List Nat)
def site (L : Nat) : Prt → Nat
  | .ask k _ => k
  | _ => L
def way (D : List (List Int)) (k h : Nat) (w g : Int) : Int := w * prodI ((bet D k h).map mx) * g
inductive Gv (D : List (List Int)) (ps : List Prt) (gs : List Int) : Prt → Int → Prop
  | no : Gv D ps gs .no 0
  | lf : Gv D ps gs .lf 1
  | ask (k : Nat) (ch : List Nat) (g : Int) (d : List Int) (hd : D[k]? = some d) (lch : ch.length = d.length)
      (hall : ∀ (j c : Nat) (w : Int), ch[j]? = some c → d[j]? = some w → ∃ p' g', ps[c]? = some p' ∧ gs[c]? = some g' ∧ k < site D.length p' ∧ way D k (site D.length p') w g' ≤ g)
      (hone : ∃ (j c : Nat) (w : Int) (p' : Prt) (g' : Int), ch[j]? = some c ∧ d[j]? = some w ∧ ps[c]? = some p' ∧ gs[c]? = some g' ∧ way D k (site D.length p') w g' = g) : Gv D ps gs (.ask k ch) g
inductive Gs (D : List (List Int)) : List Prt → List Int → Prop
  | nil : Gs D [] []
  | snoc (ps : List Prt) (gs : List Int) (p : Prt) (g : Int) (h : Gs D ps gs) (v : Gv D ps gs p g) (h0 : 0 ≤ g) (h1 : Pm D (site D.length p) * g ≤ Pm D D.length) : Gs D (ps ++ [p]) (gs ++ [g])
def hvs (D : List (List Int)) (ps : List Prt) (gs : List Int) : List Int := List.zipWith (fun p g => Pm D (site D.length p) * g) ps gs
theorem Gs.len {D : List (List Int)} {ps : List Prt} {gs : List Int} (h : Gs D ps gs) : gs.length = ps.length := by
  induction h with
  | nil => rfl
  | snoc ps gs p g h v h0 h1 ih => rw [List.length_append, List.length_append, ih]; rfl
theorem get_app {α : Type} {a b : List α} {i : Nat} {x : α} (h : a[i]? = some x) : (a ++ b)[i]? = some x := by
  rw [List.getElem?_append_left (List.getElem?_eq_some_iff.mp h).1, h]
theorem Gv.app {D : List (List Int)} {ps qs : List Prt} {gs hs : List Int} {p : Prt} {g : Int} (h : Gv D ps gs p g) : Gv D (ps ++ qs) (gs ++ hs) p g := by
  cases h with
  | no => exact .no
  | lf => exact .lf
  | ask k ch g d hd lch hall hone =>
    refine .ask k ch g d hd lch (fun j c w e1 e2 => ?_) ?_
    · obtain ⟨p', g', a, b, c1, d1⟩ := hall j c w e1 e2
      exact ⟨p', g', get_app a, get_app b, c1, d1⟩
    · obtain ⟨j, c, w, p', g', e1, e2, e3, e4, e5⟩ := hone
      exact ⟨j, c, w, p', g', e1, e2, get_app e3, get_app e4, e5⟩
theorem Gs.at {D : List (List Int)} {ps : List Prt} {gs : List Int} (h : Gs D ps gs) : ∀ {i : Nat} {p : Prt}, ps[i]? = some p → ∃ g, gs[i]? = some g ∧ Gv D ps gs p g ∧ 0 ≤ g ∧ Pm D (site D.length p) * g ≤ Pm D D.length := by
  induction h with
  | nil => intro i p e; simp at e
  | snoc ps gs p0 g0 h v h0 h1 ih =>
    intro i p e
    have l := h.len
    by_cases hi : i < ps.length
    · rw [List.getElem?_append_left hi] at e
      obtain ⟨g, e1, v1, a, b⟩ := ih e
      exact ⟨g, get_app e1, v1.app, a, b⟩
    · rw [List.getElem?_append_right (by omega)] at e
      have hi2 : i - ps.length = 0 := by
        have := (List.getElem?_eq_some_iff.mp e).1
        simp at this
        omega
      rw [hi2] at e
      cases e
      refine ⟨g0, ?_, v.app, h0, h1⟩
      rw [List.getElem?_append_right (by omega), show i - gs.length = 0 by omega]
      rfl
theorem hvs_at {D : List (List Int)} {ps : List Prt} {gs : List Int} {i : Nat} {p : Prt} {g : Int} (h1 : ps[i]? = some p) (h2 : gs[i]? = some g) : (hvs D ps gs)[i]? = some (Pm D (site D.length p) * g) := by
  unfold hvs
  rw [List.getElem?_zipWith, h1, h2]
theorem hvs_snoc {D : List (List Int)} {ps : List Prt} {gs : List Int} (p : Prt) (g : Int) (l : gs.length = ps.length) : hvs D (ps ++ [p]) (gs ++ [g]) = hvs D ps gs ++ [Pm D (site D.length p) * g] := by
  unfold hvs
  rw [List.zipWith_append (by omega)]
  rfl
theorem zw_get {α β γ : Type} {f : α → β → γ} {a : List α} {b : List β} {M : γ} (h : M ∈ List.zipWith f a b) : ∃ (j : Nat) (x : α) (y : β), a[j]? = some x ∧ b[j]? = some y ∧ M = f x y := by
  obtain ⟨j, hj⟩ := List.mem_iff_getElem?.mp h
  rw [List.getElem?_zipWith] at hj
  cases ha : a[j]? with
  | none => rw [ha] at hj; cases hj
  | some x =>
    cases hb : b[j]? with
    | none => rw [ha, hb] at hj; cases hj
    | some y =>
      rw [ha, hb] at hj
      exact ⟨j, x, y, ha, hb, (Option.some.inj hj).symm⟩
theorem way_nn {D : List (List Int)} (g : Good D) {k h : Nat} {w g' : Int} (hw : 0 < w) (hg : 0 ≤ g') : 0 ≤ way D k h w g' := by
  unfold way
  refine Int.mul_nonneg (Int.mul_nonneg (by omega) (Int.le_of_lt (prodI_pos fun x hx => ?_))) hg
  obtain ⟨d, hd, rfl⟩ := List.mem_map.mp hx
  have := g d (List.mem_of_mem_drop (List.mem_of_mem_take hd))
  exact mx_pos this.2 this.1
theorem Gs.ask {D : List (List Int)} (gD : Good D) {ps : List Prt} {gs : List Int} {k : Nat} {ch : List Nat} {d : List Int} {M : Int} (h : Gs D ps gs) (hd : D[k]? = some d) (lch : ch.length = d.length) (hc : ∀ c ∈ ch, ∃ p', ps[c]? = some p' ∧ k < site D.length p')
    (hM : M ∈ List.zipWith (fun w c => (hvs D ps gs).getD c 0 / mx d * w) d ch) (hle : ∀ a ∈ List.zipWith (fun w c => (hvs D ps gs).getD c 0 / mx d * w) d ch, a ≤ M) :
    ∃ g, M = Pm D k * g ∧ Gv D ps gs (.ask k ch) g ∧ 0 ≤ g ∧ Pm D k * g ≤ Pm D D.length := by
  have gd := gD d (List.mem_of_getElem? hd)
  have pk := Pm_pos gD k
  have val : ∀ {w : Int} {c : Nat} {p' : Prt} {g' : Int}, ps[c]? = some p' → gs[c]? = some g' → k < site D.length p' → (hvs D ps gs).getD c 0 / mx d * w = Pm D k * way D k (site D.length p') w g' := fun {w c p' g'} e1 e2 e3 => by
    rw [List.getD_eq_getElem?_getD, hvs_at e1 e2]
    exact by_child gD hd e3 g' w
  obtain ⟨j, w, c, e1, e2, rfl⟩ := zw_get hM
  obtain ⟨p', e3, e4⟩ := hc c (List.mem_of_getElem? e2)
  obtain ⟨g', e5, v5, n5, b5⟩ := h.at e3
  have vM := val (w := w) e3 e5 e4
  have hw := gd.2 w (List.mem_of_getElem? e1)
  refine ⟨way D k (site D.length p') w g', vM, .ask k ch _ d hd lch (fun j2 c2 w2 a1 a2 => ?_) ⟨j, c, w, p', g', e2, e1, e3, e5, rfl⟩, way_nn gD hw n5, ?_⟩
  · obtain ⟨p2, a3, a4⟩ := hc c2 (List.mem_of_getElem? a1)
    obtain ⟨g2, a5, _, n2, _⟩ := h.at a3
    refine ⟨p2, g2, a3, a5, a4, ?_⟩
    have := hle ((hvs D ps gs).getD c2 0 / mx d * w2) (List.mem_iff_getElem?.mpr ⟨j2, by rw [List.getElem?_zipWith, a2, a1]⟩)
    rw [val (w := w2) a3 a5 a4, vM] at this
    exact Int.le_of_mul_le_mul_left this pk
  · refine Int.le_trans ?_ b5
    rw [Pm_cut hd e4]
    have hX : 0 ≤ prodI ((bet D k (site D.length p')).map mx) * g' := by
      have := way_nn (k := k) (h := site D.length p') gD (w := 1) (by decide) n5
      unfold way at this
      rwa [Int.one_mul] at this
    have e : Pm D k * (mx d * prodI ((bet D k (site D.length p')).map mx)) * g' = Pm D k * (mx d * (prodI ((bet D k (site D.length p')).map mx) * g')) := by ac_rfl
    rw [e]
    unfold way
    rw [Int.mul_assoc w]
    exact Int.mul_le_mul_of_nonneg_left (Int.mul_le_mul_of_nonneg_right (le_mx (List.mem_of_getElem? e1)) hX) (Int.le_of_lt pk)
theorem bet_self (D : List (List Int)) (k : Nat) : bet D k (k + 1) = [] := by
  unfold bet
  rw [Nat.sub_self, List.take_zero]
theorem Pm_succ {D : List (List Int)} {k : Nat} {d : List Int} (hd : D[k]? = some d) : Pm D (k + 1) = Pm D k * mx d := by
  rw [Pm_cut hd (Nat.lt_succ_self k), bet_self]
  simp [prodI]
theorem Ts_succ {D : List (List Int)} {k : Nat} {d : List Int} (hd : D[k]? = some d) : Ts D k = d.sum * Ts D (k + 1) := by
  rw [Ts_cut hd (Nat.lt_succ_self k), bet_self]
  simp [prodI]
/-- the bottoms -/
def Bt (D : List (List Int)) (k : Nat) : Int := Pm D k * Ts D k
theorem Bt_pos {D : List (List Int)} (g : Good D) (k : Nat) : 0 < Bt D k := Int.mul_pos (Pm_pos g k) (Ts_pos g k)
theorem Bt_succ {D : List (List Int)} (g : Good D) {k : Nat} {d : List Int} (hd : D[k]? = some d) : Bt D k / d.sum * mx d = Bt D (k + 1) := by
  have gd := g d (List.mem_of_getElem? hd)
  unfold Bt
  rw [Ts_succ hd, bot_step (sum_pos gd.2 gd.1), ← Pm_succ hd]
/-- what is in sums so far, and what is behind -/
def Ss (D : List (List Int)) (k : Nat) : Int := prodI ((D.take k).map List.sum)
theorem Ss_succ {D : List (List Int)} {k : Nat} {d : List Int} (hd : D[k]? = some d) : Ss D (k + 1) = Ss D k * d.sum := by
  unfold Ss
  rw [List.take_add_one, hd, List.map_append, prodI_append]
  simp [prodI]
theorem Ss_end {D : List (List Int)} {k : Nat} (h : D.length ≤ k) : Ss D k = Bt D 0 := by
  unfold Ss Bt Pm Ts
  rw [List.take_of_length_le h]
  simp [prodI]
theorem mx_le_sum : ∀ {ws : List Int}, (∀ a ∈ ws, 0 < a) → mx ws ≤ ws.sum
  | [], _ => by simp [mx]
  | x :: r, h => by
    have h1 := h x (by simp)
    have h2 := mx_le_sum (ws := r) fun a ha => h a (List.mem_cons_of_mem _ ha)
    have h3 : 0 ≤ mx r := by
      cases r with
      | nil => simp [mx]
      | cons y r => exact Int.le_of_lt (mx_pos (fun a ha => h a (List.mem_cons_of_mem _ ha)) (by simp))
    rw [List.sum_cons]
    show max x (mx r) ≤ _
    omega
theorem pow_mono {m : Int} (hm : 1 ≤ m) {a b : Nat} (h : a ≤ b) : m ^ a ≤ m ^ b := by
  obtain ⟨c, rfl⟩ : ∃ c, b = a + c := ⟨b - a, by omega⟩
  rw [Int.pow_add]
  have h1 : ∀ c : Nat, 1 ≤ m ^ c := fun c => by
    induction c with
    | zero => simp
    | succ c ih =>
      rw [Int.pow_succ]
      have := Int.mul_le_mul ih hm (by decide) (by omega)
      omega
  have h2 := Int.mul_le_mul_of_nonneg_left (h1 c) (show 0 ≤ m ^ a by have := h1 a; omega)
  omega
/-- bounds: with weights of at most m, at most n draws -/
theorem Pm_le {D : List (List Int)} {m : Int} (hm : 1 ≤ m) (g : Good D) (h : ∀ d ∈ D, d.sum ≤ m) (k : Nat) : Pm D k ≤ m ^ D.length := by
  have := (prodI_le hm (a := (D.take k).map mx) fun x hx => by
    obtain ⟨d, hd, rfl⟩ := List.mem_map.mp hx
    have hd := List.mem_of_mem_take hd
    have := g d hd
    exact ⟨Int.le_of_lt (mx_pos this.2 this.1), Int.le_trans (mx_le_sum this.2) (h d hd)⟩).2
  refine Int.le_trans this ?_
  rw [List.length_map, List.length_take]
  exact pow_mono hm (by omega)
theorem Ts_le {D : List (List Int)} {m : Int} (hm : 1 ≤ m) (g : Good D) (h : ∀ d ∈ D, d.sum ≤ m) (k : Nat) : Ts D k ≤ m ^ D.length := by
  have := (prodI_le hm (a := (D.drop k).map List.sum) fun x hx => by
    obtain ⟨d, hd, rfl⟩ := List.mem_map.mp hx
    have hd := List.mem_of_mem_drop hd
    have := g d hd
    exact ⟨Int.le_of_lt (sum_pos this.2 this.1), h d hd⟩).2
  refine Int.le_trans this ?_
  rw [List.length_map, List.length_drop]
  exact pow_mono hm (by omega)
end M44
namespace M44
theorem getD_of {α : Type} {l : List α} {k : Nat} {x a : α} (h : l[k]? = some x) : l.getD k a = x := by rw [List.getD_eq_getElem?_getD, h]; rfl
/-- rows of choices: their weights, where they lead -/
def wv (D : List (List Int)) (row : List Nat) (k : Nat) : Int := (D.getD k []).getD (row.getD k 0) 0
def Wp (D : List (List Int)) (row : List Nat) (s : Nat) : Nat → Int
  | 0 => 1
  | n + 1 => Wp D row s n * wv D row (s + n)
abbrev Wt (D : List (List Int)) (row : List Nat) (s : Nat) : Int := Wp D row s (D.length - s)
theorem Wp_add (D : List (List Int)) (row : List Nat) (s a : Nat) : ∀ b, Wp D row s (a + b) = Wp D row s a * Wp D row (s + a) b
  | 0 => by show Wp D row s a = Wp D row s a * 1; rw [Int.mul_one]
  | b + 1 => by
    show Wp D row s (a + b) * wv D row (s + (a + b)) = Wp D row s a * (Wp D row (s + a) b * wv D row (s + a + b))
    rw [Wp_add D row s a b, Int.mul_assoc, Nat.add_assoc]
theorem Wp_congr {D : List (List Int)} {row row2 : List Nat} {s : Nat} : ∀ {n : Nat}, (∀ m, s ≤ m → m < s + n → wv D row m = wv D row2 m) → Wp D row s n = Wp D row2 s n
  | 0, _ => rfl
  | n + 1, h => by
    show Wp D row s n * wv D row (s + n) = Wp D row2 s n * wv D row2 (s + n)
    rw [Wp_congr fun m h1 h2 => h m h1 (by omega), h (s + n) (by omega) (by omega)]
/-- a row that may be chosen -/
structure Rv (D : List (List Int)) (row : List Nat) : Prop where
  len : row.length = D.length
  it : ∀ (k : Nat) (d : List Int), D[k]? = some d → ∃ j, row[k]? = some j ∧ j < d.length
inductive Ld (ps : List Prt) (row : List Nat) : Nat → Bool → Prop
  | no (i : Nat) (h : ps[i]? = some .no) : Ld ps row i false
  | lf (i : Nat) (h : ps[i]? = some .lf) : Ld ps row i true
  | ask (i k j c : Nat) (ch : List Nat) (b : Bool) (h : ps[i]? = some (.ask k ch)) (hj : row[k]? = some j) (hc : ch[j]? = some c) (t : Ld ps row c b) : Ld ps row i b
theorem Ld.det {ps : List Prt} {row : List Nat} {i : Nat} {a b : Bool} (h : Ld ps row i a) (k : Ld ps row i b) : a = b := by
  induction h with
  | no i h =>
    cases k with
    | no _ h2 => rfl
    | lf _ h2 => rw [h] at h2; cases h2
    | ask _ _ _ _ _ _ h2 => rw [h] at h2; cases h2
  | lf i h =>
    cases k with
    | no _ h2 => rw [h] at h2; cases h2
    | lf _ h2 => rfl
    | ask _ _ _ _ _ _ h2 => rw [h] at h2; cases h2
  | ask i k1 j c ch b1 h hj hc t ih =>
    cases k with
    | no _ h2 => rw [h] at h2; cases h2
    | lf _ h2 => rw [h] at h2; cases h2
    | ask _ k2 j2 c2 ch2 _ h2 hj2 hc2 t2 =>
      rw [h] at h2
      cases h2
      rw [hj] at hj2
      cases hj2
      rw [hc] at hc2
      cases hc2
      exact ih t2
/-- parts in order -/
def Po (D : List (List Int)) (ps : List Prt) : Prop := ∀ (i k : Nat) (ch : List Nat), ps[i]? = some (.ask k ch) → ∃ d, D[k]? = some d ∧ ch.length = d.length ∧ ∀ c ∈ ch, c < i ∧ ∃ p', ps[c]? = some p' ∧ k < site D.length p'
theorem Ld.agree {D : List (List Int)} {ps : List Prt} (po : Po D ps) {row row2 : List Nat} {i : Nat} {b : Bool} (h : Ld ps row i b) : ∀ {p : Prt}, ps[i]? = some p → (∀ m, site D.length p ≤ m → row[m]? = row2[m]?) → Ld ps row2 i b := by
  induction h with
  | no i h => exact fun _ _ => .no i h
  | lf i h => exact fun _ _ => .lf i h
  | ask i k j c ch b h hj hc t ih =>
    intro p hp ag
    rw [h] at hp
    cases hp
    obtain ⟨d, hd, _, hch⟩ := po i k ch h
    obtain ⟨_, p', e1, e2⟩ := hch c (List.mem_of_getElem? hc)
    exact .ask i k j c ch b h ((ag k (Nat.le_refl _)).symm.trans hj) hc (ih e1 fun m hm => ag m (by show k ≤ m; omega))
theorem site_le {D : List (List Int)} {ps : List Prt} (po : Po D ps) {i : Nat} {p : Prt} (h : ps[i]? = some p) : site D.length p ≤ D.length := by
  cases p with
  | no => exact Nat.le_refl _
  | lf => exact Nat.le_refl _
  | ask k ch =>
    obtain ⟨d, hd, _⟩ := po i k ch h
    exact Nat.le_of_lt (List.getElem?_eq_some_iff.mp hd).1
/-- a place of the greatest -/
theorem am_ex {ws : List Int} (hp : ∀ a ∈ ws, 0 < a) (h : ws ≠ []) : ∃ j, j < ws.length ∧ ws.getD j 0 = mx ws := by
  obtain ⟨j, hj, e⟩ := List.getElem_of_mem (mx_mem hp h)
  exact ⟨j, hj, by rw [List.getD_eq_getElem?_getD, List.getElem?_eq_getElem hj, e]; rfl⟩
noncomputable def am (ws : List Int) : Nat := if h : ∃ j, j < ws.length ∧ ws.getD j 0 = mx ws then h.choose else 0
theorem am_is {ws : List Int} (hp : ∀ a ∈ ws, 0 < a) (h : ws ≠ []) : am ws < ws.length ∧ ws.getD (am ws) 0 = mx ws := by
  have e := am_ex hp h
  unfold am
  rw [dif_pos e]
  exact e.choose_spec
theorem Wp_bet {D : List (List Int)} (g : Good D) {row : List Nat} (k : Nat) : ∀ n, k + 1 + n ≤ D.length → (∀ m, k + 1 ≤ m → m < k + 1 + n → ∀ d, D[m]? = some d → wv D row m = mx d) → Wp D row (k + 1) n = prodI ((bet D k (k + 1 + n)).map mx)
  | 0, _, _ => by rw [show k + 1 + 0 = k + 1 by omega, bet_self]; rfl
  | n + 1, hn, h => by
    have hm : k + 1 + n < D.length := by omega
    have e : D[k + 1 + n]? = some D[k + 1 + n] := List.getElem?_eq_getElem hm
    show Wp D row (k + 1) n * wv D row (k + 1 + n) = _
    rw [Wp_bet g k n (by omega) fun m h1 h2 => h m h1 (by omega), h (k + 1 + n) (by omega) (by omega) _ e]
    have eb : bet D k (k + 1 + (n + 1)) = bet D k (k + 1 + n) ++ [D[k + 1 + n]] := by
      unfold bet
      rw [show k + 1 + (n + 1) - (k + 1) = n + 1 by omega, show k + 1 + n - (k + 1) = n by omega, List.take_add_one, List.getElem?_drop, e]
      rfl
    rw [eb, List.map_append, prodI_append]
    simp [prodI]
theorem wv_pos {D : List (List Int)} (g : Good D) {row : List Nat} (v : Rv D row) {k : Nat} {d : List Int} (hd : D[k]? = some d) : ∃ j, row[k]? = some j ∧ j < d.length ∧ wv D row k = d.getD j 0 ∧ 0 < wv D row k ∧ wv D row k ≤ mx d := by
  obtain ⟨j, hj, lj⟩ := v.it k d hd
  have e : wv D row k = d.getD j 0 := by
    unfold wv
    rw [getD_of hd, getD_of hj]
  have m : d.getD j 0 ∈ d := by
    rw [List.getD_eq_getElem?_getD, List.getElem?_eq_getElem lj]
    exact List.getElem_mem lj
  refine ⟨j, hj, lj, e, ?_, ?_⟩
  · rw [e]
    exact (g d (List.mem_of_getElem? hd)).2 _ m
  · rw [e]
    exact le_mx m
theorem Wp_nn {D : List (List Int)} (g : Good D) {row : List Nat} (v : Rv D row) (s : Nat) : ∀ n, s + n ≤ D.length → 0 < Wp D row s n
  | 0, _ => by show (0 : Int) < 1; decide
  | n + 1, h => by
    have hm : s + n < D.length := by omega
    obtain ⟨_, _, _, _, p, _⟩ := wv_pos g v (List.getElem?_eq_getElem hm)
    exact Int.mul_pos (Wp_nn g v s n (by omega)) p
theorem Wp_le {D : List (List Int)} (g : Good D) {row : List Nat} (v : Rv D row) (k : Nat) : ∀ n, k + 1 + n ≤ D.length → Wp D row (k + 1) n ≤ prodI ((bet D k (k + 1 + n)).map mx)
  | 0, _ => by rw [show k + 1 + 0 = k + 1 by omega, bet_self]; exact Int.le_refl _
  | n + 1, hn => by
    have hm : k + 1 + n < D.length := by omega
    have e : D[k + 1 + n]? = some D[k + 1 + n] := List.getElem?_eq_getElem hm
    obtain ⟨_, _, _, _, p, le⟩ := wv_pos g v e
    have ih := Wp_le g v k n (by omega)
    have nn := Wp_nn g v (k + 1) n (by omega)
    have eb : bet D k (k + 1 + (n + 1)) = bet D k (k + 1 + n) ++ [D[k + 1 + n]] := by
      unfold bet
      rw [show k + 1 + (n + 1) - (k + 1) = n + 1 by omega, show k + 1 + n - (k + 1) = n by omega, List.take_add_one, List.getElem?_drop, e]
      rfl
    rw [eb, List.map_append, prodI_append]
    show Wp D row (k + 1) n * wv D row (k + 1 + n) ≤ prodI _ * (mx _ * 1)
    rw [Int.mul_one]
    exact Int.mul_le_mul ih le (Int.le_of_lt p) (by omega)
/-- the best of the rows that lead somewhere -/
structure Bst (D : List (List Int)) (ps : List Prt) (rows : List (List Nat)) (i s : Nat) (g : Int) : Prop where
  nn : 0 ≤ g
  up : ∀ row ∈ rows, Ld ps row i true → Wt D row s ≤ g
  at_ : g = 0 ∨ ∃ row ∈ rows, Ld ps row i true ∧ Wt D row s = g
theorem Bst.one {D : List (List Int)} {ps : List Prt} {rows : List (List Nat)} {i s : Nat} {g g2 : Int} (h : Bst D ps rows i s g) (k : Bst D ps rows i s g2) : g = g2 := by
  have a : g ≤ g2 := by
    rcases h.at_ with z | ⟨row, h1, h2, h3⟩
    · rw [z]; exact k.nn
    · rw [← h3]; exact k.up row h1 h2
  have b : g2 ≤ g := by
    rcases k.at_ with z | ⟨row, h1, h2, h3⟩
    · rw [z]; exact h.nn
    · rw [← h3]; exact h.up row h1 h2
  omega
theorem way_eq {D : List (List Int)} {row : List Nat} {k h : Nat} (hk : k < h) (hh : h ≤ D.length) : Wt D row k = wv D row k * Wp D row (k + 1) (h - (k + 1)) * Wt D row h := by
  have e1 : D.length - k = 1 + ((h - (k + 1)) + (D.length - h)) := by omega
  show Wp D row k (D.length - k) = _
  rw [e1, Wp_add, Wp_add, show k + 1 + (h - (k + 1)) = h by omega]
  show 1 * wv D row (k + 0) * _ = _
  rw [Int.one_mul, Nat.add_zero, Int.mul_assoc]
theorem best_is {D : List (List Int)} (gD : Good D) {ps : List Prt} {gs : List Int} (G : Gs D ps gs) (po : Po D ps) {rows : List (List Nat)} (all : ∀ row, row ∈ rows ↔ Rv D row) : ∀ (n i : Nat) (p : Prt) (g : Int), i < n → ps[i]? = some p → gs[i]? = some g → Bst D ps rows i (site D.length p) g
  | 0, i, p, g, hn, _, _ => absurd hn (Nat.not_lt_zero _)
  | n + 1, i, p, g, hn, hp, hg => by
    obtain ⟨g2, e2, v, g0, _⟩ := G.at hp
    rw [hg] at e2
    cases e2
    cases v with
    | no => exact ⟨Int.le_refl _, fun row _ l => absurd (l.det (.no i hp)) (by decide), .inl rfl⟩
    | lf =>
      have e1 : ∀ row, Wt D row (site D.length .lf) = 1 := fun row => by
        show Wp D row D.length (D.length - D.length) = 1
        rw [Nat.sub_self]
        rfl
      refine ⟨by decide, fun row _ _ => by rw [e1]; exact Int.le_refl _, .inr ⟨List.replicate D.length 0, (all _).mpr ⟨List.length_replicate, fun k d hd => ⟨0, ?_, ?_⟩⟩, .lf i hp, e1 _⟩⟩
      · rw [List.getElem?_replicate, if_pos (List.getElem?_eq_some_iff.mp hd).1]
      · exact List.length_pos_iff.mpr (gD d (List.mem_of_getElem? hd)).1
    | ask k ch _ d hd lch hall hone =>
      obtain ⟨d', hd', _, hch⟩ := po i k ch hp
      rw [hd] at hd'
      cases hd'
      refine ⟨g0, fun row hr l => ?_, ?_⟩
      · have rv := (all row).mp hr
        cases l with
        | lf _ h2 => rw [hp] at h2; cases h2
        | ask _ k2 j c ch2 _ h2 hj hc t =>
          rw [hp] at h2
          cases h2
          obtain ⟨j2, e1, lj, ew, wp, _⟩ := wv_pos gD rv hd
          rw [hj] at e1
          cases e1
          have ed : d[j]? = some (wv D row k) := by rw [ew, List.getD_eq_getElem?_getD, List.getElem?_eq_getElem lj]; rfl
          obtain ⟨p', g', e3, e4, e5, e6⟩ := hall j c _ hc ed
          obtain ⟨lt, _⟩ := hch c (List.mem_of_getElem? hc)
          have B := best_is gD G po all n c p' g' (by omega) e3 e4
          have hh := site_le po e3
          show Wt D row k ≤ g
          rw [way_eq e5 hh]
          refine Int.le_trans ?_ e6
          unfold way
          have a1 := Wp_le gD rv k (site D.length p' - (k + 1)) (by omega)
          rw [show k + 1 + (site D.length p' - (k + 1)) = site D.length p' by omega] at a1
          have a2 := Wp_nn gD rv (k + 1) (site D.length p' - (k + 1)) (by omega)
          have a3 := Wp_nn gD rv (site D.length p') (D.length - site D.length p') (by omega)
          refine Int.mul_le_mul (Int.mul_le_mul_of_nonneg_left a1 (Int.le_of_lt wp)) (B.up row hr t) (Int.le_of_lt a3) (Int.mul_nonneg (Int.le_of_lt wp) (by omega))
      · obtain ⟨j, c, w, p', g', hc, hw, e3, e4, ew⟩ := hone
        obtain ⟨lt, p2, e3', e5⟩ := hch c (List.mem_of_getElem? hc)
        rw [e3] at e3'
        cases e3'
        have B := best_is gD G po all n c p' g' (by omega) e3 e4
        have hh := site_le po e3
        rcases B.at_ with z | ⟨row, hr, l, eW⟩
        · left
          rw [← ew, z]
          unfold way
          rw [Int.mul_zero]
        · right
          have rv := (all row).mp hr
          have lj := (List.getElem?_eq_some_iff.mp hw).1
          have lk := (List.getElem?_eq_some_iff.mp hd).1
          let r2 : List Nat := (List.range D.length).map fun m => if m = k then j else if k < m ∧ m < site D.length p' then am (D.getD m []) else row.getD m 0
          have at2 : ∀ m, m < D.length → r2[m]? = some (if m = k then j else if k < m ∧ m < site D.length p' then am (D.getD m []) else row.getD m 0) := fun m hm => by
            show ((List.range D.length).map _)[m]? = _
            rw [List.getElem?_map, List.getElem?_range hm]
            rfl
          have gd2 : ∀ m, m < D.length → r2.getD m 0 = if m = k then j else if k < m ∧ m < site D.length p' then am (D.getD m []) else row.getD m 0 := fun m hm => by
            rw [List.getD_eq_getElem?_getD, at2 m hm]
            rfl
          have len2 : r2.length = D.length := by
            show ((List.range D.length).map _).length = _
            rw [List.length_map, List.length_range]
          have rv2 : Rv D r2 := ⟨len2, fun m e hm => by
            have lm := (List.getElem?_eq_some_iff.mp hm).1
            refine ⟨_, at2 m lm, ?_⟩
            by_cases z : m = k
            · rw [if_pos z]
              rw [z, hd] at hm
              cases hm
              exact lj
            · rw [if_neg z]
              by_cases y : k < m ∧ m < site D.length p'
              · rw [if_pos y]
                have ge := gD e (List.mem_of_getElem? hm)
                have : D.getD m [] = e := by rw [List.getD_eq_getElem?_getD, hm]; rfl
                rw [this]
                exact (am_is ge.2 ge.1).1
              · rw [if_neg y]
                obtain ⟨q, h1, h2⟩ := rv.it m e hm
                rw [List.getD_eq_getElem?_getD, h1]
                exact h2⟩
          have wk : wv D r2 k = w := by
            unfold wv
            rw [gd2 k lk, if_pos rfl, getD_of hd, getD_of hw]
          have wb : Wp D r2 (k + 1) (site D.length p' - (k + 1)) = prodI ((bet D k (site D.length p')).map mx) := by
            have := Wp_bet gD (row := r2) k (site D.length p' - (k + 1)) (by omega) fun m h1 h2 e he => by
              have ge := gD e (List.mem_of_getElem? he)
              have lm := (List.getElem?_eq_some_iff.mp he).1
              unfold wv
              rw [gd2 m lm, if_neg (by omega), if_pos ⟨by omega, by omega⟩, getD_of he]
              exact (am_is ge.2 ge.1).2
            rw [show k + 1 + (site D.length p' - (k + 1)) = site D.length p' by omega] at this
            exact this
          have ag : ∀ m, site D.length p' ≤ m → row[m]? = r2[m]? := fun m hm => by
            by_cases lm : m < D.length
            · have le := rv.len
              rw [at2 m lm, if_neg (by omega), if_neg (by omega), List.getD_eq_getElem?_getD, List.getElem?_eq_getElem (by omega)]
              rfl
            · rw [List.getElem?_eq_none (by have := rv.len; omega), List.getElem?_eq_none (by omega)]
          have wt : Wt D r2 (site D.length p') = Wt D row (site D.length p') := Wp_congr fun m h1 h2 => by
            unfold wv
            rw [List.getD_eq_getElem?_getD (l := r2), ← ag m h1, ← List.getD_eq_getElem?_getD]
          refine ⟨r2, (all _).mpr rv2, .ask i k j c ch true hp ?_ hc (l.agree po e3 ag), ?_⟩
          · rw [at2 k lk, if_pos rfl]
          · show Wt D r2 k = g
            rw [way_eq e5 hh, wk, wb, wt, eW]
            exact ew
end M44
namespace L2
open PySem PySem.Spec PyProof.Rows
/-- a thing that is just this object, and stays so -/
def ObO (a : Addr) (o : Obj) : HO := .ext fun h => h.get? a = some o
section
variable {P : Program} {w : World} {H H' : Hp} {h h' : Heap} {a : Addr} {o : Obj}
theorem ob_ok (e : h.get? a = some o) : ObjOk P w H h a (ObO a o) := ⟨e, ⟨o, e⟩, fun _ _ e1 k => k _ e1⟩
theorem ob_get (x : HOk P w H h) (e : H a = some (ObO a o)) : h.get? a = some o := (show ObjOk P w H h a (ObO a o) from x a _ e).1
/-- but for what stands at these places -/
def hid (H : Hp) (cs : List Addr) : Hp := fun b => if b ∈ cs then none else H b
def back (H H' : Hp) (cs : List Addr) : Hp := fun b => if b ∈ cs then H b else H' b
theorem hid_in {cs : List Addr} {b : Addr} (m : b ∈ cs) : hid H cs b = none := if_pos m
theorem hid_out {cs : List Addr} {b : Addr} (m : b ∉ cs) : hid H cs b = H b := if_neg m
theorem back_in {cs : List Addr} {b : Addr} (m : b ∈ cs) : back H H' cs b = H b := if_pos m
theorem back_out {cs : List Addr} {b : Addr} (m : b ∉ cs) : back H H' cs b = H' b := if_neg m
/-- all of these are such things -/
def Obs (H : Hp) (cs : List Addr) : Prop := ∀ c ∈ cs, ∃ o, H c = some (ObO c o)
theorem Obs.no {cs : List Addr} (x : Obs H cs) {b : Addr} {u : HO} (e : H b = some u) (hu : ∀ φ, u ≠ .ext φ) : b ∉ cs := fun m => by
  obtain ⟨o, z⟩ := x b m
  rw [e] at z
  cases z
  exact hu _ rfl
theorem hid_ok {cs : List Addr} (x : Obs H cs) (k : HOk P w H h) : HOk P w (hid H cs) h := fun a u e => by
  have na : a ∉ cs := fun m => by rw [hid_in m] at e; cases e
  rw [hid_out na] at e
  refine (k a u e).stay (fun _ _ _ z => z) (fun b z => ?_) fun b xs z => ?_
  · rw [hid_out (x.no z fun _ y => nomatch y)]; exact z
  · rw [hid_out (x.no z fun _ y => nomatch y)]; exact z
theorem hid_none {cs : List Addr} {b : Addr} (e : H b = none) : hid H cs b = none := by
  by_cases m : b ∈ cs
  · exact hid_in m
  · rw [hid_out m]; exact e
theorem hid_env {K : PySem.W.Frag} {mg : Str → Option Value} {base : Heap} {A : Around} {outer : List Env} {s : Shared} {cs : List Addr} (x : Obs H cs) (e : Env0 P w K mg base A outer s H) : Env0 P w K mg base A outer s (hid H cs) :=
  ⟨e.frames, e.mod, fun b o z => ⟨(e.bs b o z).1, hid_none (e.bs b o z).2⟩, e.bsz, e.funs, fun b z => hid_none (e.frf b z), hid_ok x e.hok, e.bare⟩
theorem back_un {fs cs : List Addr} (x : Obs H cs) (nf : ∀ c ∈ cs, c ∉ fs) (u : Un fs [] (hid H cs) H' h h') (k : HOk P w H h) (k' : HOk P w H' h') : Un fs [] H (back H H' cs) h h' ∧ HOk P w (back H H' cs) h' := by
  have ex : ∀ c ∈ cs, ∃ o, h.get? c = some o ∧ H c = some (ObO c o) := fun c m => by
    obtain ⟨o, z⟩ := x c m
    exact ⟨o, ob_get k z, z⟩
  have out : ∀ {b : Addr} {v : HO}, H' b = some v → b ∉ cs := fun {b v} e m => by
    obtain ⟨o, z, _⟩ := ex b m
    rw [u.free b o z (hid_in m) (by simp)] at e
    cases e
  refine ⟨⟨fun b o e n hb hx => u.keep b o e (hid_none n) hb hx, fun b o e n hb hx => u.slot b o e (hid_none n) hb hx, fun b o e n hx => ?_, u.there, fun b xs e => ?_, fun b o v e => ?_, fun b ps e => ?_⟩, fun a v e => ?_⟩
  · by_cases m : b ∈ cs
    · rw [back_in m]; exact n
    · rw [back_out m]; exact u.free b o e (hid_none n) hx
  · have m := x.no e fun _ y => nomatch y
    rw [back_out m]
    exact u.tups b xs (by rw [hid_out m]; exact e)
  · have m := x.no e fun _ y => nomatch y
    rw [back_out m]
    exact u.frzs b o v (by rw [hid_out m]; exact e)
  · have m := x.no e fun _ y => nomatch y
    rw [back_out m]
    exact u.tbls b ps (by rw [hid_out m]; exact e)
  · by_cases m : a ∈ cs
    · rw [back_in m] at e
      obtain ⟨o, z, y⟩ := ex a m
      rw [y] at e
      cases e
      exact ob_ok (u.keep a o z (hid_in m) (nf a m) (by simp))
    · rw [back_out m] at e
      refine (k' a v e).stay (fun _ _ _ z => z) (fun b z => ?_) fun b xs z => ?_
      · rw [back_out (out z)]; exact z
      · rw [back_out (out z)]; exact z
end
/-- the frame of a lambda -/
def cxLam (P : Program) (w : World) (K : PySem.W.Frag) (mg : Str → Option Value) (base : Heap) (N ps : List Str) (qual : Str) (scope : Scope) (f : Addr) (cd : Value) (cl : List (Str × Addr)) (A : Around) (outer : List Env) (s : Shared) (H : Hp) : Cx where
  prog := P
  w := w
  K := K
  mg := mg
  base := base
  A := A.deeper (PySem.W.envX qual scope s.heap.objs.size f cd cl)
  N := N
  s₀ := s
  H₀ := H
  env := PySem.W.envX qual scope s.heap.objs.size f cd cl
  outer := outer
  stack := PySem.W.envX qual scope s.heap.objs.size f cd cl :: outer
  ex := []
  calm := true
  fn := fun x => decide (x ∈ ps)
  pn := []
  xe := fun _ _ => False
/-- what is asked of a lambda's text -/
structure LmScope (N ps : List Str) (scope : Scope) (cl : List (Str × Addr)) : Prop where
  kind : scope.kind = .function
  co : scope.isCoroutine = false
  gen : scope.isGenerator = false
  nd : N.Nodup
  eq : N = ps ++ cl.map (·.1)
  par : ∀ x ∈ ps, scope.names.lookup x = some .local
  nocell : ∀ y ∈ scope.names, y.2 ≠ .cell
  free : ∀ x, scope.names.lookup x = some .free → x ∈ cl.map (·.1)
  isfree : ∀ x ∈ cl.map (·.1), scope.names.lookup x = some .free
  inj : cl.Pairwise fun x y => x.2 ≠ y.2
/-- the cells that are taken, and what they hold -/
inductive CapsAt (H : Hp) : List (Str × Addr) → List V → Prop
  | nil : CapsAt H [] []
  | cons {x : Str} {c : Addr} {o : Obj} {u : Value} {v : V} {cl : List (Str × Addr)} {vs : List V} (e : H c = some (ObO c o)) (d : o.data = .cell (some u)) (r : RelV v u) (t : CapsAt H cl vs) : CapsAt H ((x, c) :: cl) (v :: vs)
theorem CapsAt.obs {H : Hp} : ∀ {cl : List (Str × Addr)} {vs : List V}, CapsAt H cl vs → Obs H (cl.map (·.2))
  | _, _, .nil => fun c m => by simp at m
  | _, _, .cons e d r t => fun c m => by
    rcases List.mem_cons.mp (show c ∈ _ :: _ from m) with z | z
    · rw [z]; exact ⟨_, e⟩
    · exact t.obs c z
theorem CapsAt.get {H : Hp} : ∀ {cl : List (Str × Addr)} {vs : List V}, CapsAt H cl vs → ∀ {j : Nat} {p : Str × Addr} {v : V}, cl[j]? = some p → vs[j]? = some v → ∃ o u, H p.2 = some (ObO p.2 o) ∧ o.data = .cell (some u) ∧ RelV v u
  | _, _, .cons e d r t, 0, p, v, h1, h2 => by
    cases h1
    cases h2
    exact ⟨_, _, e, d, r⟩
  | _, _, .cons e d r t, j + 1, p, v, h1, h2 => t.get (by simpa using h1) (by simpa using h2)
theorem CapsAt.len {H : Hp} : ∀ {cl : List (Str × Addr)} {vs : List V}, CapsAt H cl vs → vs.length = cl.length
  | _, _, .nil => rfl
  | _, _, .cons e d r t => by rw [List.length_cons, List.length_cons, t.len]
theorem lookup_get {cl : List (Str × Addr)} : ∀ {x : Str} {c : Addr}, cl.lookup x = some c → (x, c) ∈ cl := fun h => PySem.mem_of_lookup h
theorem get_lookup {α : Type} : ∀ {cl : List (Str × α)} {j : Nat} {x : Str} {c : α}, (cl.map (·.1)).Nodup → cl[j]? = some (x, c) → cl.lookup x = some c
  | (y, d) :: cl, 0, x, c, _, h => by
    cases h
    simp [List.lookup_cons]
  | (y, d) :: cl, j + 1, x, c, nd, h => by
    rw [List.map_cons, List.nodup_cons] at nd
    have h' : cl[j]? = some (x, c) := by simpa using h
    have ne : (x == y) = false := by
      rw [beq_eq_false_iff_ne]
      intro z
      exact nd.1 (z ▸ List.mem_map.mpr ⟨(x, c), List.mem_of_getElem? h', rfl⟩)
    rw [List.lookup_cons, ne]
    exact get_lookup nd.2 h'
theorem zip_lookup {ps : List Str} {us : List Value} (hl : ps.length ≤ us.length) (nd : ps.Nodup) {i : Nat} {x : Str} {u : Value} (h1 : ps[i]? = some x) (h2 : us[i]? = some u) : (ps.zip us).reverse.lookup x = some u := by
  have hz : (ps.zip us)[i]? = some (x, u) := by
    rw [List.getElem?_zip_eq_some]
    exact ⟨h1, h2⟩
  have ndz : ((ps.zip us).map (·.1)).Nodup := by
    rw [List.map_fst_zip hl]
    exact nd
  have ndr : ((ps.zip us).reverse.map (·.1)).Nodup := by
    rw [List.map_reverse]
    exact List.pairwise_reverse.mpr (ndz.imp fun h => Ne.symm h)
  obtain ⟨j, hj⟩ := List.getElem?_of_mem (List.mem_reverse.mpr (List.mem_of_getElem? hz))
  exact get_lookup ndr hj
section
variable {P : Program} {w : World} {K : PySem.W.Frag} {mg : Str → Option Value} {base : Heap}
theorem lam_run {k : Nat} {f c' : Addr} {co : Obj} {name qual : Str} {params : Arguments} {body : Expr} {scope : Scope} {cl : List (Str × Addr)} {pm ctv : Value} {N ps : List Str} {A : Around} {outer : List Env} {s : Shared} {H : Hp} {us : List Value} {vs cvs : List V} {Q : VK}
    (S : LmScope N ps scope cl) (hr : Room (k + 1) A) (e0 : Env0 P w K mg base A outer s H) (hf : H f = some (ObO f (PySem.W.kla_obj name qual params body scope cl pm c' ctv))) (hc : H c' = some (ObO c' co)) (hco : ∃ fs t, co.data = .fields fs ∧ fs[1]? = some (.str qual t))
    (caps : CapsAt H cl cvs) (hl : vs.length = ps.length) (r : Vals vs us) (hb : bindArgs (PySem.W.kla_fn name qual params body scope cl pm (.ref c') ctv) ⟨us, []⟩ = pure (ps.zip us))
    (hbody : ∃ t, PE (cxLam P w K mg base N ps qual scope f (.ref c') cl A outer s (hid H (cl.map (·.2)))) body t ∧ t ((vs ++ cvs).map some) (hid H (cl.map (·.2))) (fun v H' => (∀ c ∈ cl.map (·.2), H' c = none) → Q v (back H H' (cl.map (·.2))))) :
    codeAny (model P w) A (.call (.ref f) ⟨us, []⟩) (CR CX0 outer P w H s Q E0) s := by
  have KX : K.In s.heap := e0.mod.kin.keeps fun b o e => (e0.bs b o e).1
  have lim : s.heap.NoLimit := e0.mod.nolimit.keeps fun b o e => (e0.bs b o e).1
  have gf := ob_get e0.hok hf
  have gc := ob_get e0.hok hc
  obtain ⟨fs, tq, hd, h1⟩ := hco
  have lr := r.length
  refine PySem.W.kla_callFunE hr.depth gf rfl S.co S.gen rfl ⟨c', co, fs, tq, rfl, gc, hd, h1⟩ ?_
  refine wpAny_of_eq hb ?_
  refine wpAny_newFunctionEnv S.nocell (fun y hy => S.par _ (List.of_mem_zip hy).1) (fun h' ns sb => ?_) S.kind
  have keep : ∀ b u, s.heap.get? b = some u → h'.get? b = some u := fun b u e => sb.extBut b u (Nat.ne_of_lt (Heap.lt_size e)) (Heap.get?_push_of_some _ e)
  refine ⟨lim.keeps keep, PySem.W.kla_codeExpr ?_⟩
  obtain ⟨t, ht, hq⟩ := hbody
  have ob := caps.obs
  have e1 := hid_env ob e0
  have ndN := S.nd
  rw [S.eq] at ndN
  have ndc : (cl.map (·.1)).Nodup := (List.nodup_append.mp ndN).2.1
  have ndp : ps.Nodup := (List.nodup_append.mp ndN).1
  have dis : ∀ x ∈ ps, x ∉ cl.map (·.1) := fun x h1 h2 => (List.nodup_append.mp ndN).2.2 x h1 x h2 rfl
  have noA : ∀ b : Addr, b ∉ (cxLam P w K mg base N ps qual scope f (.ref c') cl A outer s (hid H (cl.map (·.2)))).ex := fun b z => absurd (show b ∈ ([] : List Addr) from z) (by simp)
  have cellAt : ∀ {x : Str} {c : Addr}, cl.lookup x = some c → ∃ j v o u, cl[j]? = some (x, c) ∧ cvs[j]? = some v ∧ h'.get? c = some o ∧ o.data = .cell (some u) ∧ RelV v u := fun {x c} h => by
    obtain ⟨j, hj⟩ := List.getElem?_of_mem (lookup_get h)
    have hj2 := (List.getElem?_eq_some_iff.mp hj).1
    have cl2 := caps.len
    have hv : cvs[j]? = some (cvs[j]'(by omega)) := List.getElem?_eq_getElem (by omega)
    obtain ⟨o, u, q1, q2, q3⟩ := caps.get hj hv
    exact ⟨j, _, o, u, hj, hv, keep _ _ (ob_get e0.hok q1), q2, q3⟩
  have I : Inv (cxLam P w K mg base N ps qual scope f (.ref c') cl A outer s (hid H (cl.map (·.2)))) [] ((vs ++ cvs).map some) (hid H (cl.map (·.2))) { s with heap := h', toks := s.toks + (ps.zip us).length } := by
    refine ⟨⟨e1.mod, S.kind, rfl, rfl, Nat.le_refl _, fun y z c h1 h2 => ?_, fun y hy => ?_, fun y c hy h => ?_, fun _ => hr.hd, Around.frames_deeper e1.frames, .inr ⟨rfl, rfl⟩, fun b z => absurd z (noA b), e1.bs, e1.bsz, fun b _ _ => noA b, fun b z => absurd z (noA b), e1.funs, e1.frf⟩,
      rfl, e1.bare, Un.kept keep, ⟨_, ns, fun i y v h1 h2 h3 => ?_⟩, fun y c h => ?_, e1.hok.fresh (Nat.le_refl _), fun y c h => ?_, fun p hp => absurd (show p ∈ ([] : List (Addr × Obj)) from hp) (by simp), e1.hok.kept keep, ?_⟩
    · have m1 := lookup_get (show cl.lookup y = some c from h1)
      have m2 := lookup_get (show cl.lookup z = some c from h2)
      exact name_of_addr S.inj m1 m2
    · have hy : scope.names.lookup y = some .cell ∨ scope.names.lookup y = some .free := hy
      rcases hy with hy | hy
      · exact absurd rfl (S.nocell _ (PySem.mem_of_lookup hy))
      · obtain ⟨p, hp, e⟩ := List.mem_map.mp (S.free y hy)
        obtain ⟨j, hj⟩ := List.getElem?_of_mem hp
        exact ⟨p.2, show cl.lookup y = some p.2 from get_lookup ndc (show cl[j]? = some (y, p.2) by rw [hj, ← e])⟩
    · exfalso
      have hy' : y ∈ ps := of_decide_eq_true hy
      exact dis y hy' (List.mem_map.mpr ⟨(y, c), lookup_get h, rfl⟩)
    · have h1 : N[i]? = some y := h1
      rw [S.eq] at h1
      obtain ⟨v', e2, e3⟩ := map_get (f := some) h2
      cases e3
      by_cases hi : i < ps.length
      · rw [List.getElem?_append_left hi] at h1
        rw [List.getElem?_append_left (by omega)] at e2
        obtain ⟨u, hu, rv⟩ := r.get e2
        exact ⟨u, rv, .inl ⟨S.par y (List.mem_of_getElem? h1), zip_lookup (by omega) ndp h1 hu⟩⟩
      · rw [List.getElem?_append_right (by omega)] at h1
        rw [List.getElem?_append_right (by omega), hl] at e2
        obtain ⟨p, hp, e⟩ := map_get h1
        obtain ⟨o, u, q1, q2, q3⟩ := caps.get hp e2
        subst e
        exact ⟨u, q3, .inr ⟨.inr (S.isfree p.1 (List.mem_map.mpr ⟨p, List.mem_of_getElem? hp, rfl⟩)), p.2, get_lookup ndc hp, o, keep _ _ (ob_get e0.hok q1), q2⟩⟩
    · obtain ⟨j, v, o, u, _, _, q1, q2, _⟩ := cellAt (show cl.lookup y = some c from h)
      exact ⟨some u, o, q1, q2⟩
    · exact hid_in (List.mem_map.mpr ⟨(y, c), lookup_get h, rfl⟩)
    · show ((vs ++ cvs).map some).length = N.length
      rw [S.eq, List.length_map, List.length_append, List.length_append, List.length_map, hl, caps.len]
  refine wpAny_mono (ht [] _ _ _ _ I hq) (fun u s' hs => ?_) fun e s' z => False.elim z
  obtain ⟨v, H', J, rv, q⟩ := hs
  obtain ⟨u1, u2⟩ := back_un ob (fun c m z => by
    obtain ⟨o, y⟩ := ob c m
    rw [e0.frf c z] at y
    cases y) J.base e0.hok J.hok
  refine ⟨v, back H H' (cl.map fun x => x.2), J.os, J.bare, ?_, ?_, rv, q fun c m => ?_⟩
  · exact u1
  · exact u2
  · obtain ⟨pp, hp, rfl⟩ := List.mem_map.mp m
    obtain ⟨j, hj⟩ := List.getElem?_of_mem hp
    exact J.freeC pp.1 pp.2 (get_lookup ndc hj)
/-- a function value that may be called: what it promises -/
def LamOk (P : Program) (w : World) (K : PySem.W.Frag) (mg : Str → Option Value) (base : Heap) (k : Nat) (f : Addr) (sp : List V → Hp → VK → Prop) : Prop :=
  ∀ (A : Around) (outer : List Env) (s : Shared) (H : Hp) (us : List Value) (vs : List V) (Q : VK), Room k A → Env0 P w K mg base A outer s H → Vals vs us → sp vs H Q → codeAny (model P w) A (.call (.ref f) ⟨us, []⟩) (CR CX0 outer P w H s Q E0) s
end
section
variable {X : Cx}
/-- g(e, ..) where the name g holds a function value -/
def tCallV (f : Addr) (fo : Obj) (sp : List V → Hp → VK → Prop) (i : Nat) (t : TA) : TE := fun σ H Q => σ[i]? = some (some (.ref f)) ∧ t σ H fun vs H1 => H1 f = some (ObO f fo) ∧ sp vs H1 Q
theorem pe_callV {f : Addr} {fo : Obj} {fd : FuncData} {sp : List V → Hp → VK → Prop} {k i : Nat} {x : Str} {p pos : Pos} {e : Expr} {es : List Expr} {t : TA} (L : LamOk X.prog X.w X.K X.mg X.base k f sp) (hfd : fo.data = .func fd) (hr : Room k X.A) (hN : X.N[i]? = some x) (hv : Vis X.env.scope x) (ha : PA X (e :: es) t)
    (hd : (x == ("__debug__" : Str)) = false := by decide) (hcd : (x == ("__classdict__" : Str)) = false := by decide) (he : starEach (e :: es) X.env = (false, eval e X.env) :: starEach es X.env := by rfl) (hpl : (backTo pos (starEach es X.env)).any (·.1) = false := by rfl) (hxe : ∀ e s, False → X.xe e s := by exact fun _ _ z => z.elim) :
    PE X (.Call (.Name x p) (e :: es) [] pos) (tCallV f fo sp i t) := by
  intro pins s σ H Q I h
  obtain ⟨h1, h2⟩ := h
  refine wpAny_Call_Name_kw (thn (pe_var hN hv hd hcd pins s σ H (fun v H1 => v = .ref f ∧ t σ H1 fun vs H1 => H1 f = some (ObO f fo) ∧ sp vs H1 Q) I ⟨.ref f, h1, rfl, h2⟩) fun u s1 ⟨v, H1, I1, rv, ev, q1⟩ => ?_)
  subst ev
  cases (show u = Value.ref f from rv)
  refine PySem.Calls.callWith_function (o := fo) (fd := fd) ?_
  rw [he]
  refine PySem.Calls.evalArgs_plain ?_
  show wpAny _ _ (spliced (backTo pos ((false, eval e X.env) :: starEach es X.env))) _ _ _
  rw [← he]
  refine thn (ha pos pins s1 σ H1 _ I1 q1) fun us s2 ⟨vs, H2, I2, r, hf, q2⟩ => ⟨⟨ob_get I2.hok hf, hfd⟩, ?_⟩
  refine wpAny_call (codeAny_mono (L X.A X.stack s2 H2 us vs Q hr I2.env0 r q2) fun r s' hq => ?_)
  cases r with
  | error e => exact hxe _ _ hq
  | ok fl =>
    cases fl with
    | ret u => exact I2.after hq
    | next => exact False.elim hq
    | brk => exact False.elim hq
    | cont => exact False.elim hq
/-- own cells, by their slots -/
structure OwnC (X : Cx) (cl : List (Str × Addr)) (js : List Nat) : Prop where
  len : js.length = cl.length
  it : ∀ (i : Nat) (p : Str × Addr) (j : Nat), cl[i]? = some p → js[i]? = some j → X.env.cells.lookup p.1 = some p.2 ∧ X.fn p.1 = true ∧ X.env.scope.names.lookup p.1 = some .cell ∧ X.env.kindOf p.1 = some .cell ∧ X.N[j]? = some p.1
def tCallC (sp : Sp) (cl : List (Str × Addr)) (js : List Nat) (t : TA) : TE := fun σ H Q => t σ H fun vs H1 => ∃ cvs : List V, cvs.length = cl.length ∧ (∀ (i j : Nat) (v : V), js[i]? = some j → cvs[i]? = some v → σ[j]? = some (some v)) ∧
  ∀ H2 : Hp, (∀ b, b ∉ cl.map (·.2) → H2 b = H1 b) → (∀ c ∈ cl.map (·.2), H1 c = none) → CapsAt H2 cl cvs → sp vs H2 (fun r H3 => (∀ c ∈ cl.map (·.2), H3 c = H2 c) ∧ Q r (hid H3 (cl.map (·.2)))) E0
theorem pe_callC {CX : CXT} {k : Nat} {f : Addr} {fd : FuncData} {ps : List Str} {sp : Sp} {x : Str} {p pos : Pos} {e : Expr} {es : List Expr} {t : TA} {cl : List (Str × Addr)} {js : List Nat} (O : OwnC X cl js) (F : FnOk X.prog X.w X.K X.mg X.base CX0 k f fd ps sp) (hr : Room k X.A) (hg : Gl X x) (hm : X.mg x = some (.ref f)) (hk : PySem.W.keepIn X.K (.ref f) = true) (hb : Binds X.K fd ps [])
    (ha : PA X (e :: es) t) (hdb : (x == ("__debug__" : Str)) = false := by decide) (he : starEach (e :: es) X.env = (false, eval e X.env) :: starEach es X.env := by rfl) (hpl : (backTo pos (starEach es X.env)).any (·.1) = false := by rfl) :
    PE X (.Call (.Name x p) (e :: es) [] pos) (tCallC sp cl js t) := by
  intro pins s σ H Q I h
  refine wpAny_Call_Name_kw (ld_glob I hg hm ?_ hdb)
  refine PySem.W.callWith_K (h₀ := X.base) I.ok.mod.kin hk (thn (ha pos pins s σ H _ I h) fun us s1 ⟨vs, H1, I1, r, cvs, lc, hσ, q⟩ => ⟨I1.kIn, ?_⟩) he hpl
  -- the cells
  have own : ∀ c ∈ cl.map (·.2), ∃ y, X.env.cells.lookup y = some c ∧ X.fn y = true := fun c m => by
    obtain ⟨pp, hp, rfl⟩ := List.mem_map.mp m
    obtain ⟨i, hi⟩ := List.getElem?_of_mem hp
    have hi2 := (List.getElem?_eq_some_iff.mp hi).1
    obtain ⟨a1, a2, _⟩ := O.it i pp (js[i]'(by rw [O.len]; exact hi2)) hi (List.getElem?_eq_getElem _)
    exact ⟨pp.1, a1, a2⟩
  have obj : ∀ c ∈ cl.map (·.2), ∃ o, s1.heap.get? c = some o ∧ H1 c = none ∧ X.s₀.heap.objs.size ≤ c ∧ c ≠ X.env.locals := fun c m => by
    obtain ⟨y, h1, h2⟩ := own c m
    obtain ⟨v, o, ho, _⟩ := I1.cell y c h1
    exact ⟨o, ho, I1.freeC y c h1, I1.ok.cab y c h2 h1, I1.cne y c h1⟩
  let H2 : Hp := fun b => if b ∈ cl.map (·.2) then (s1.heap.get? b).map (fun o => ObO b o) else H1 b
  have h2i : ∀ {c : Addr} {o : Obj}, c ∈ cl.map (·.2) → s1.heap.get? c = some o → H2 c = some (ObO c o) := fun {c o} m e => by
    show (if c ∈ cl.map (·.2) then _ else _) = _
    rw [if_pos m, e]
    rfl
  have h2o : ∀ {b : Addr}, b ∉ cl.map (·.2) → H2 b = H1 b := fun {b} m => if_neg m
  have nst : ∀ c ∈ cl.map (·.2), c ∉ frs X.stack := fun c m z => by
    obtain ⟨o, _, _, h3, h4⟩ := obj c m
    rcases List.mem_cons.mp (I1.stkSub c z) with y | y
    · exact h4 y
    · obtain ⟨_, o', ho', _⟩ := I1.ok.funs.mem y
      exact absurd (Nat.lt_of_lt_of_le (Heap.lt_size ho') h3) (Nat.lt_irrefl _)
  have ok2 : HOk X.prog X.w H2 s1.heap := fun a u e => by
    by_cases m : a ∈ cl.map (·.2)
    · obtain ⟨o, ho, _⟩ := obj a m
      rw [h2i m ho] at e
      cases e
      exact ob_ok ho
    · rw [h2o m] at e
      have ne : ∀ {b : Addr} {v : HO}, H1 b = some v → b ∉ cl.map (·.2) := fun {b v} z y => by
        obtain ⟨_, _, h5, _⟩ := obj b y
        rw [h5] at z
        cases z
      refine (I1.hok a u e).stay (fun _ _ _ z => z) (fun b z => ?_) fun b xs z => ?_
      · rw [h2o (ne z)]; exact z
      · rw [h2o (ne z)]; exact z
  have e0 := I1.env0
  have e2 : Env0 X.prog X.w X.K X.mg X.base X.A X.stack s1 H2 := by
    refine ⟨e0.frames, e0.mod, fun b o z => ⟨(e0.bs b o z).1, ?_⟩, e0.bsz, e0.funs, fun b z => ?_, ok2, e0.bare⟩
    · rw [h2o fun m => ?_]
      · exact (e0.bs b o z).2
      · obtain ⟨_, _, _, h3, _⟩ := obj b m
        exact absurd (Nat.lt_of_lt_of_le (Heap.lt_size z) (Nat.le_trans I1.ok.bsz h3)) (Nat.lt_irrefl _)
    · rw [h2o fun m => nst b m z]
      exact e0.frf b z
  have caps : CapsAt H2 cl cvs := by
    have all : ∀ (n : Nat), n ≤ cl.length → CapsAt H2 (cl.drop (cl.length - n)) (cvs.drop (cl.length - n)) := by
      intro n
      induction n with
      | zero =>
        intro _
        rw [List.drop_of_length_le (by omega), List.drop_of_length_le (by omega)]
        exact .nil
      | succ n ih =>
        intro hn
        have hi : cl.length - (n + 1) < cl.length := by omega
        have e1 : cl[cl.length - (n + 1)]? = some cl[cl.length - (n + 1)] := List.getElem?_eq_getElem hi
        have e3 : cvs[cl.length - (n + 1)]? = some (cvs[cl.length - (n + 1)]'(by omega)) := List.getElem?_eq_getElem (by omega)
        have e4 : js[cl.length - (n + 1)]? = some (js[cl.length - (n + 1)]'(by rw [O.len]; exact hi)) := List.getElem?_eq_getElem _
        rw [List.drop_eq_getElem_cons hi, List.drop_eq_getElem_cons (show cl.length - (n + 1) < cvs.length by omega), show cl.length - (n + 1) + 1 = cl.length - n by omega]
        obtain ⟨a1, a2, a3, a4, a5⟩ := O.it _ _ _ e1 e4
        have hv := hσ _ _ _ e4 e3
        obtain ⟨m, _, loc⟩ := I1.loc
        obtain ⟨u, ru, lk⟩ := loc _ _ _ a5 hv (.inr (.inl a3))
        rcases lk with ⟨k1, _⟩ | ⟨_, c, k2, o, k3, k4⟩
        · rw [a4] at k1
          cases k1
        · rw [a1] at k2
          cases k2
          have mm : (cl[cl.length - (n + 1)]).2 ∈ cl.map (·.2) := List.mem_map.mpr ⟨_, List.getElem_mem hi, rfl⟩
          exact .cons (h2i mm k3) k4 ru (ih (by omega))
    have := all cl.length (Nat.le_refl _)
    rw [Nat.sub_self] at this
    exact this
  have hq := q H2 (fun b m => h2o m) (fun c m => by obtain ⟨_, _, z, _⟩ := obj c m; exact z) caps
  have r2 : Vals (vs ++ []) (us ++ []) := r.append .nil
  rw [List.append_nil, List.append_nil] at r2
  have hl : us.length = ps.length := by rw [← r2.length]; exact F.len _ _ _ _ hq
  refine wpAny_call (codeAny_mono (F.run X.A X.stack s1 H2 ⟨us, []⟩ us vs _ E0 hr e2 (by have := hb s1 us I1.kIn (by rw [List.append_nil]; exact hl); rwa [List.append_nil] at this) r2 hq) fun r s' hq => ?_)
  cases r with
  | error e => exact False.elim hq
  | ok fl =>
    cases fl with
    | next => exact False.elim hq
    | brk => exact False.elim hq
    | cont => exact False.elim hq
    | ret u =>
      obtain ⟨v, H3, os, bare, un, ok3, rv, hc, q3⟩ := hq
      have ob3 : Obs H3 (cl.map (·.2)) := fun c m => by
        obtain ⟨o, ho, _⟩ := obj c m
        exact ⟨o, (hc c m).trans (h2i m ho)⟩
      have st3 : ∀ {c : Addr} {o : Obj}, c ∈ cl.map (·.2) → s1.heap.get? c = some o → s'.heap.get? c = some o := fun {c o} m e => ob_get ok3 ((hc c m).trans (h2i m e))
      have ne : ∀ {b : Addr} {v : HO}, H1 b = some v → b ∉ cl.map (·.2) := fun {b v} z y => by
        obtain ⟨_, _, h5, _⟩ := obj b y
        rw [h5] at z
        cases z
      refine I1.after ⟨v, hid H3 (cl.map (·.2)), os, bare, ⟨fun b o e n hb hx => ?_, fun b o e n hb hx => ?_, fun b o e n hx => ?_, un.there, fun b xs z => ?_, fun b o v z => ?_, fun b ps z => ?_⟩, hid_ok ob3 ok3, rv, q3⟩
      · by_cases m : b ∈ cl.map (·.2)
        · exact st3 m e
        · exact un.keep b o e (by rw [h2o m]; exact n) hb hx
      · by_cases m : b ∈ cl.map (·.2)
        · exact ⟨o.slots, st3 m e⟩
        · exact un.slot b o e (by rw [h2o m]; exact n) hb hx
      · by_cases m : b ∈ cl.map (·.2)
        · exact hid_in m
        · rw [hid_out m]
          exact un.free b o e (by rw [h2o m]; exact n) hx
      · rw [hid_out (ne z)]
        exact un.tups b xs (by rw [h2o (ne z)]; exact z)
      · rw [hid_out (ne z)]
        exact un.frzs b o v (by rw [h2o (ne z)]; exact z)
      · rw [hid_out (ne z)]
        exact un.tbls b ps (by rw [h2o (ne z)]; exact z)
/-- what stands in the table behind a lambda was made -/
abbrev tabAnd (ps : Array Value) (pos : Pos) (c' : Addr) : Array Value := ps ++ #[rawInt pos.line, rawInt pos.col, .ref c']
def tLam (qual : Str) (params : Arguments) (body : Expr) (scope : Scope) (cl : List (Str × Addr)) (pos : Pos) (Pt : Addr) : TE := fun _ H Q => ∃ ps : Array Value, H Pt = some (.tbl ps) ∧ TriplesOk ps.toList ∧ codeAmong pos ps.toList = none ∧
  ∀ (f c' : Addr) (co : Obj) (pm ctv : Value) (H' : Hp), H f = none → H c' = none → f ≠ c' → BtA Pt H H' → H' Pt = some (.tbl (tabAnd ps pos c')) → H' f = some (ObO f (PySem.W.kla_obj "<lambda>" qual params body scope cl pm c' ctv)) → H' c' = some (ObO c' co) → (∃ fs t, co.data = .fields fs ∧ fs[1]? = some (.str qual t)) → Q (.ref f) H'
theorem pe_lam {qual : Str} {params : Arguments} {body : Expr} {scope : Scope} {cl : List (Str × Addr)} {pos : Pos} {c Pt : Addr} (hq : X.env.qual ++ "<lambda>" = qual) (hdef : defaultsOf params X.env = ([], []) := by rfl) (hcl : closureFor scope X.env = pure cl) (hcode : X.env.code = .ref c) (hhd : ∀ h : Heap, X.K.In h → PySem.W.CodeHd h c Pt) (hP : mainGlobals ≠ Pt) (hB : ∀ h : Heap, X.K.In h → h.BuiltinsAt X.mg Pt) :
    PE X (.Lambda params body scope pos) (tLam qual params body scope cl pos Pt) := by
  intro pins s σ H Q I h
  obtain ⟨ps, hPt, htr, hca, q⟩ := h
  have gP : s.heap.get? Pt = some (PySem.W.tabObj ps) := I.hok Pt _ hPt
  have gl : s.heap.Ns mainGlobals X.mg := I.ok.mod.glob.keeps I.bk
  refine PySem.W.kla_eval hdef ?_
  rw [hq]
  refine PySem.W.kla_makeFunction hcl I.ok.glob gl hcode (hhd _ I.kIn) gP htr hca hP (hB _ I.kIn) fun c' ctv h' tk xb lo hi cr ht => ?_
  obtain ⟨c2, co, fs, tq, ec, gc, hd, h1⟩ := cr
  cases ec
  let f := h'.objs.size
  let fo := PySem.W.kla_obj "<lambda>" qual params body scope cl ((X.mg "__name__").getD .none) c' ctv
  have szP : Pt < s.heap.objs.size := Heap.lt_size gP
  have ncP : c' ≠ Pt := Nat.ne_of_gt (Nat.lt_of_lt_of_le szP lo)
  have ltf : s.heap.objs.size < f := Nat.lt_of_le_of_lt lo hi
  have nfP : f ≠ Pt := Nat.ne_of_gt (Nat.lt_trans szP ltf)
  have nfc : f ≠ c' := Nat.ne_of_gt hi
  have frf : H f = none := I.hok.fresh (Nat.le_of_lt ltf)
  have frc : H c' = none := I.hok.fresh lo
  let H' : Hp := upd (upd (upd H Pt (.tbl (tabAnd ps pos c'))) c' (ObO c' co)) f (ObO f fo)
  have e1 : H' f = some (ObO f fo) := upd_same
  have e2 : H' c' = some (ObO c' co) := by
    show upd (upd (upd H Pt _) c' _) f _ c' = _
    rw [upd_ne nfc.symm, upd_same]
  have e3 : H' Pt = some (.tbl (tabAnd ps pos c')) := by
    show upd (upd (upd H Pt _) c' _) f _ Pt = _
    rw [upd_ne nfP.symm, upd_ne ncP.symm, upd_same]
  have eo : ∀ {b : Addr}, b ≠ Pt → b ≠ c' → b ≠ f → H' b = H b := fun {b} n1 n2 n3 => by
    show upd (upd (upd H Pt _) c' _) f _ b = _
    rw [upd_ne n3, upd_ne n2, upd_ne n1]
  have bt : BtA Pt H H' := fun b o n e => by rw [eo n (ne_of_none e frc) (ne_of_none e frf)]; exact e
  have gf : (h'.push fo).get? f = some fo := Heap.get?_push_size _ rfl
  have keep : ∀ b u, b ≠ Pt → s.heap.get? b = some u → (h'.push fo).get? b = some u := fun b u n e => Heap.get?_push_of_some _ (xb b u n e)
  have hok' : HOk X.prog X.w H' (h'.push fo) := fun a u e => by
    by_cases n3 : a = f
    · subst n3
      rw [e1] at e
      cases e
      exact ob_ok gf
    · by_cases n2 : a = c'
      · subst n2
        rw [e2] at e
        cases e
        exact ob_ok (Heap.get?_push_of_some _ gc)
      · by_cases n1 : a = Pt
        · subst n1
          rw [e3] at e
          cases e
          show (h'.push fo).get? _ = some _
          exact Heap.get?_push_of_some _ ht
        · rw [eo n1 n2 n3] at e
          have nP : ∀ {b : Addr} {v : HO}, H b = some v → (∀ ps, v ≠ .tbl ps) → b ≠ Pt := fun {b v} z y w => by
            rw [w, hPt] at z
            cases z
            exact y _ rfl
          refine (I.hok a u e).stay (fun b v hb z => ?_) (fun b z => bt b _ (nP z fun _ y => nomatch y) z) fun b xs z => bt b _ (nP z fun _ y => nomatch y) z
          rcases hb with hb | hb
          · rw [hb]
            exact keep a v n1 (by rw [← hb]; exact z)
          · exact keep b v (nP hb fun _ y => nomatch y) z
  have I' : Inv X pins σ H' { s with heap := h'.push fo, toks := tk } := by
    refine I.call (g' := s.gens) (d' := s.drawn) (ch := []) ⟨fun b o e n _ _ => ?_, fun b o e n _ _ => ?_, fun b o e n _ => ?_, fun b o e _ => ?_, fun b xs e => ?_, fun b o v e => ?_, fun b qs e => ?_⟩ hok' I.bare fun b z => by simp at z
    · exact keep b o (fun z => by rw [z, hPt] at n; cases n) e
    · exact ⟨o.slots, keep b o (fun z => by rw [z, hPt] at n; cases n) e⟩
    · have lb := Heap.lt_size e
      rw [eo (fun z => by rw [z, hPt] at n; cases n) (Nat.ne_of_lt (Nat.lt_of_lt_of_le lb lo)) (Nat.ne_of_lt (Nat.lt_trans lb ltf))]
      exact n
    · by_cases n1 : b = Pt
      · rw [n1]
        exact ⟨_, Heap.get?_push_of_some _ ht⟩
      · exact ⟨o, keep b o n1 e⟩
    · exact bt b _ (fun z => by rw [z, hPt] at e; cases e) e
    · exact bt b _ (fun z => by rw [z, hPt] at e; cases e) e
    · by_cases n1 : b = Pt
      · subst n1
        rw [hPt] at e
        cases e
        exact ⟨_, e3⟩
      · exact ⟨#[], by rw [bt b _ n1 e]; simp⟩
  exact ⟨.ref f, H', I', rfl, q f c' co _ ctv H' frf frc nfc bt e3 e1 e2 ⟨fs, tq, hd, h1⟩⟩
end
end L2
namespace L2
open PySem PySem.Spec PyProof.Rows
section
variable {P : Program} {w : World} {K : PySem.W.Frag} {mg : Str → Option Value} {base : Heap}
/-- a def, with its code -/
structure FunC (K : PySem.W.Frag) (x : Str) (st : Stmt) (f : Addr) (fd : FuncData) (c : Addr) : Prop where
  ex : ∃ (oc : Value) (od : Option Addr) (kV doc pm : Value) (an : Option Addr) (ct : Value) (osl : Array (Option Value)),
    fd = PySem.W.fnOf x x (defArgs st) (defBody st) (defScope st) .none kV doc pm an (.ref c) ct ∧ K.lookup f = some ⟨oc, od, .func fd, osl⟩ ∧ PySem.W.codeIn K (.ref c) x = true
theorem FunC.ok {x : Str} {st : Stmt} {f c : Addr} {fd : FuncData} {N ps : List Str} {k : Nat} {sp : Sp} (F : FunC K x st f fd c) (S : FnScope N ps (defScope st)) (len : ∀ vs H Q E, sp vs H Q E → vs.length = ps.length)
    (hbody : ∀ (A : Around) (outer : List Env) (s : Shared) (H : Hp) (vs : List V) (Q : VK) (E : XK), Room k (A.deeper (envOfC x (defScope st) s.heap.objs.size f (.ref c))) → sp vs H Q E →
      ∃ t, PSs (cxOf CX0 P w K mg base N x (defScope st) f (.ref c) A outer s H E).nox (defBody st) t ∧ t { nx := fun _ H' => Q .non H', rt := Q } (start N vs) H) : FnOk P w K mg base CX0 (k + 1) f fd ps sp := by
  obtain ⟨oc, od, kV, doc, pm, an, ct, osl, rfl, lk, hcd⟩ := F.ex
  refine fn_of lk hcd S len fun A outer s H vs Q E hr hsp => ?_
  obtain ⟨t, h, q⟩ := hbody A outer s H vs Q E hr hsp
  exact ⟨t, h.nox, q⟩
/-- nothing is tracked but the script and one table -/
def OnlyT (Pt : Addr) (ps₀ : Array Value) (H : Hp) : Prop := H Pt = some (.tbl ps₀) ∧ ∀ b, b ≠ Pt → H b = none ∨ ∃ o xs, H b = some (.frz o (.lst xs))
theorem law_callT {mb : Str → Option Value} {k : Nat} {fa a c Pt : Addr} {ps₀ : Array Value} {fd : FuncData} {x : Str} {sp : Sp} {s₁ : Shared} {vs : List Value} {ns : List Int}
    (KX : K.In s₁.heap) (tA : s₁.heap.TableAt c Pt ps₀) (hKP : K.lookup Pt = none) (hne : Pt ≠ cStatics) (hns : s₁.heap.Ns mainGlobals mg) (hb : s₁.heap.Ns builtinsNs mb) (hbb : ∀ x : Str, x ≠ "__name__" → mb x = bootBuiltins x) (hlim : s₁.heap.NoLimit) (hg : s₁.gens = #[])
    (ha : s₁.heap.get? a = some { cls := .type "list", data := .seq vs.toArray }) (hi : IntsAre vs ns) (hl : ns.length ≤ sizeLine) (hr : Room k callerA)
    (F : ∀ base : Heap, K.In base → base.Ns mainGlobals mg → FnOk P w K mg base CX0 k fa fd [x] sp) (hbind : ∀ (s : Shared) (u : Value), BindsTo s fd ⟨[u], []⟩ [(x, u)])
    (hsp : ∀ H : Hp, OnlyT Pt ps₀ H → SqL K H a (ns.map V.int) → sp [.ref a] H (fun v _ => v = .bl true) fun _ _ _ => False) :
    codeAny (model P w) callerA (.call (.ref fa) ⟨[.ref a], []⟩) (fun r s' => r = .ok (.ret (.bool true)) ∧ OldK s₁.heap s'.heap ∧ s'.os = s₁.os ∧ AllBare s'.gens) s₁ := by
  have rv := vals_ints hi
  have lenV := hi.length
  have naP : a ≠ Pt := fun z => by
    have := tA.2
    rw [← z, ha] at this
    cases this
  have core : ∀ H : Hp, OnlyT Pt ps₀ H → SqL K H a (ns.map V.int) → HOk P w H s₁.heap → (∀ b, b ≠ Pt → H b ≠ none → b = a) → (H a ≠ none → K.lookup a = none) →
      codeAny (model P w) callerA (.call (.ref fa) ⟨[.ref a], []⟩) (fun r s' => r = .ok (.ret (.bool true)) ∧ OldK s₁.heap s'.heap ∧ s'.os = s₁.os ∧ AllBare s'.gens) s₁ := by
    intro H hO hS hok hA hK
    have base_of : ∀ {b : Addr} {o : Obj}, s₁.heap.get? b = some o → H b = none → (hidT s₁.heap H).get? b = some o := fun e n => hidT_get e n
    have noA : ∀ {b : Addr} {o : Obj} {es : Array DictEntry} {ep : Nat}, s₁.heap.get? b = some o → o.data = .dict es ep → H b = none := fun {b o es ep} e d => by
      cases q : H b with
      | none => rfl
      | some u =>
        by_cases z : b = Pt
        · subst z
          rw [tA.2] at e
          cases e
          cases d
        · have e' : b = a := hA b z (by rw [q]; simp)
          subst e'
          rw [ha] at e; cases e
          have d' : Data.seq vs.toArray _ = Data.dict es ep := d
          cases d'
    have nsK : ∀ {b : Addr} {m : Str → Option Value}, s₁.heap.Ns b m → (hidT s₁.heap H).Ns b m := fun {b m} ⟨o, es, ep, e, d, r⟩ => ⟨o, es, ep, base_of e (noA e d), d, r⟩
    have hKb : K.In (hidT s₁.heap H) := fun b o e => base_of (KX b o e) (by
      cases q : H b with
      | none => rfl
      | some u =>
        by_cases z : b = Pt
        · subst z
          rw [hKP] at e
          cases e
        · have e' : b = a := hA b z (by rw [q]; simp)
          subst e'
          rw [hK (by rw [q]; simp)] at e; cases e)
    have hM : Mod K mg (hidT s₁.heap H) := ⟨hKb, nsK hns, ⟨mb, nsK hb, hbb⟩, let ⟨mc, h1, h2⟩ := hlim; ⟨mc, nsK h1, h2⟩⟩
    have e0 : Env0 P w K mg (hidT s₁.heap H) callerA [] s₁ H := ⟨rfl, hM, fun b o e => of_hidT e, Nat.le_of_eq (hidT_size _ _), trivial, fun b hb => absurd (show b ∈ ([] : List Addr) from hb) (by simp), hok, .of_eq hg⟩
    refine codeAny_mono ((F _ hKb (nsK hns)).run callerA [] s₁ H ⟨[.ref a], []⟩ [.ref a] [.ref a] _ _ hr e0 (hbind s₁ (.ref a)) (.cons rfl .nil) (hsp H hO hS)) fun r s' h => ?_
    cases r with
    | error e => exact False.elim h
    | ok fl =>
      cases fl with
      | next => exact False.elim h
      | brk => exact False.elim h
      | cont => exact False.elim h
      | ret u =>
        obtain ⟨v, H', os, bare, un, hok', r', q⟩ := h
        have q' : v = .bl true := q
        subst q'
        obtain rfl : u = Value.bool true := r'
        have keep : ∀ b o, b ≠ Pt → s₁.heap.get? b = some o → s'.heap.get? b = some o := fun b o nb e => by
          cases q : H b with
          | none => exact un.keep b o e q (by intro z; exact absurd (show b ∈ ([] : List Addr) from z) (by simp)) (by simp)
          | some u =>
            rcases hO.2 b nb with z | ⟨ob, xs, z⟩
            · rw [q] at z; cases z
            · have z2 := un.frzs b ob _ z
              obtain ⟨e1, _⟩ := hok b _ z
              obtain ⟨e2, _⟩ := hok' b _ z2
              rw [e] at e1; cases e1
              exact e2
        obtain ⟨more, e3⟩ := un.tbls Pt ps₀ hO.1
        have gP : s'.heap.get? Pt = some { cls := .none, data := .fields (ps₀ ++ more) } := hok' Pt _ e3
        obtain ⟨⟨oc, vc, h1, h2, h3, h4⟩, h5⟩ := id tA
        have ncP : c ≠ Pt := fun z => by
          rw [z, h5] at h1
          cases h1
          cases h2
        refine ⟨rfl, OldK.step_table (OldK.refl _) tA tA ⟨⟨oc, vc, keep c oc ncP h1, h2, h3, h4⟩, gP⟩ (fun b o nb e => keep b o nb e) hne, os, bare⟩
  cases hk : K.lookup a with
  | some o =>
    have e := KX a o hk
    rw [ha] at e
    cases e
    refine core (fun b => if b = Pt then some (.tbl ps₀) else none) ⟨if_pos rfl, fun b nb => .inl (if_neg nb)⟩ (.inr ⟨_, vs.toArray, _, hk, rfl, rfl, rfl, by rw [List.size_toArray, lenV]; exact hl, by simpa using rv⟩) (fun b u z => ?_) (fun b nb z => absurd (if_neg nb) z) fun z => absurd (if_neg naP) z
    by_cases hb : b = Pt
    · have z' := (if_pos hb).symm.trans z
      cases z'
      subst hb
      exact tA.2
    · have z' := (if_neg hb).symm.trans z
      cases z'
  | none =>
    refine core (fun b => if b = Pt then some (.tbl ps₀) else if b = a then some (.frz { cls := .type "list", data := .seq vs.toArray } (.lst (ns.map V.int))) else none) ⟨if_pos rfl, fun b nb => ?_⟩ (.inl (.inr ⟨{ cls := .type "list", data := .seq vs.toArray }, by show (if a = Pt then _ else _) = _; rw [if_neg naP, if_pos rfl]⟩)) (fun b u z => ?_) (fun b nb z => ?_) fun _ => hk
    · by_cases hb : b = a
      · exact .inr ⟨_, _, (if_neg nb).trans (if_pos hb)⟩
      · exact .inl ((if_neg nb).trans (if_neg hb))
    · by_cases hP : b = Pt
      · have z' := (if_pos hP).symm.trans z
        cases z'
        subst hP
        exact tA.2
      · have z0 := (if_neg hP).symm.trans z
        by_cases hb : b = a
        · have z' := (if_pos hb).symm.trans z0
          cases z'
          subst hb
          exact ⟨ha, by rw [List.length_map]; exact hl, vs, _, rv, ha⟩
        · have z' := (if_neg hb).symm.trans z0
          cases z'
    · by_cases hb : b = a
      · exact hb
      · exact absurd (by show (if b = Pt then _ else _) = none; rw [if_neg nb, if_neg hb]) z
end
theorem walk_ofT {l : PySem.W.OpenLaw} {n k : Nat} {q : Program} {loose : List Str} {XP : (Str → Option Value) → Heap → Prop} {YP : World → Heap → Prop} {d : DefRec} {K : Params → PySem.W.Frag} {c Pt : Addr} {ps₀ : Array Value} {sp : World → Sp} {x : Str}
    (hn : l.most = some n) (hn2 : n ≤ sizeLine) (hdf : d.params.defaults = []) (hr : Room k callerA)
    (hY : ∀ (w : World) (h : Heap), YP w h → (K w.params).In h ∧ h.TableAt c Pt ps₀) (hKP : ∀ w : World, (K w.params).lookup Pt = none) (hne : Pt ≠ cStatics)
    (F : ∀ (w : World) (mg : Str → Option Value) (fa : Addr) (h : Heap), (K w.params).In h → h.Ns mainGlobals mg → mg d.name = some (.ref fa) →
      ∃ fd : FuncData, (∀ (s : Shared) (u : Value), BindsTo s fd ⟨[u], []⟩ [(x, u)]) ∧
        ∀ base : Heap, (K w.params).In base → base.Ns mainGlobals mg → FnOk l.prog w (K w.params) mg base CX0 k fa fd [x] (sp w))
    (hsp : ∀ (w : World) (H : Hp) (a : Addr) (ns : List Int), ns.length ≤ n → (∀ x ∈ ns, Builtin.Int.intBits x ≤ 2 ^ 20) → OnlyT Pt ps₀ H → SqL (K w.params) H a (ns.map V.int) → sp w [.ref a] H (fun v _ => v = .bl true) fun _ _ _ => False) :
    PySem.W.WalkO q loose XP YP l.row.toRowW d [] (fun f vs => PySem.call f vs) := by
  refine Att.attach_callB hn hdf fun w s₀ s₁ mg mb fa a vs ns G Y hmg hobj hints hlen hbits hg => ?_
  obtain ⟨KX, tA⟩ := hY w _ Y
  obtain ⟨fd, hb, hF⟩ := F w mg fa _ KX G.T.g hmg
  exact law_callT KX tA (hKP w) hne G.T.g G.T.b G.T.builtins G.T.nolimit hg hobj hints (Nat.le_trans hlen hn2) hr hF hb (fun H hO hS => hsp w H a ns hlen hbits hO hS)
end L2
namespace L2
open PySem PySem.Spec PyProof.Rows
/-- the table of a code with one lambda: empty, or with the lambda's code -/
def TabSt (Pt : Addr) (pos : Pos) (qual : Str) (H : Hp) : Prop := H Pt = some (.tbl #[]) ∨ ∃ c' co, H Pt = some (.tbl (tabAnd #[] pos c')) ∧ H c' = some (ObO c' co) ∧ ∃ fs t, co.data = .fields fs ∧ fs[1]? = some (.str qual t)
theorem TabSt.same {Pt : Addr} {pos : Pos} {qual : Str} {H H' : Hp} (h : TabSt Pt pos qual H) (e : Same H H') : TabSt Pt pos qual H' := by
  rcases h with h | ⟨c', co, h1, h2, h3⟩
  · exact .inl (e _ _ h)
  · exact .inr ⟨c', co, e _ _ h1, e _ _ h2, h3⟩
section
variable {X : Cx}
def tLam2 (qual : Str) (params : Arguments) (body : Expr) (scope : Scope) (cl : List (Str × Addr)) (pos : Pos) (Pt : Addr) : TE := fun _ H Q => TabSt Pt pos qual H ∧
  ∀ (f c' : Addr) (co : Obj) (pm ctv : Value) (H' : Hp), H f = none → BtA Pt H H' → H' Pt = some (.tbl (tabAnd #[] pos c')) → H' f = some (ObO f (PySem.W.kla_obj "<lambda>" qual params body scope cl pm c' ctv)) → H' c' = some (ObO c' co) → (∃ fs t, co.data = .fields fs ∧ fs[1]? = some (.str qual t)) → Q (.ref f) H'
theorem pe_lam2 {qual : Str} {params : Arguments} {body : Expr} {scope : Scope} {cl : List (Str × Addr)} {pos : Pos} {c Pt : Addr} (hq : X.env.qual ++ "<lambda>" = qual) (hdef : defaultsOf params X.env = ([], []) := by rfl) (hcl : closureFor scope X.env = pure cl) (hcode : X.env.code = .ref c) (hhd : ∀ h : Heap, X.K.In h → PySem.W.CodeHd h c Pt) (hP : mainGlobals ≠ Pt) (hB : ∀ h : Heap, X.K.In h → h.BuiltinsAt X.mg Pt) :
    PE X (.Lambda params body scope pos) (tLam2 qual params body scope cl pos Pt) := by
  intro pins s σ H Q I h
  obtain ⟨h0 | ⟨c', co, hPt, hc, hco⟩, q⟩ := h
  · exact pe_lam hq hdef hcl hcode hhd hP hB pins s σ H Q I ⟨#[], h0, trivial, rfl, fun f c' co pm ctv H' a1 a2 a3 a4 a5 a6 a7 a8 => q f c' co pm ctv H' a1 a4 a5 a6 a7 a8⟩
  have gP : s.heap.get? Pt = some (PySem.W.tabObj (tabAnd #[] pos c')) := I.hok Pt _ hPt
  have gl : s.heap.Ns mainGlobals X.mg := I.ok.mod.glob.keeps I.bk
  have hf : codeAmong pos (tabAnd #[] pos c').toList = some (.ref c') := by
    have := codeAmong_snoc (pos := pos) (c := .ref c') [] trivial rfl
    simpa using this
  have ht : TriplesOk (tabAnd #[] pos c').toList := by
    show TriplesOk [rawInt pos.line, rawInt pos.col, .ref c']
    exact trivial
  refine PySem.W.kla_eval hdef ?_
  rw [hq]
  refine PySem.W.kla_makeFunctionHit hcl I.ok.glob gl hcode (hhd _ I.kIn) gP ht hf (hB _ I.kIn) fun ctv h' tk keep0 sz => ?_
  let f := h'.objs.size
  let fo := PySem.W.kla_obj "<lambda>" qual params body scope cl ((X.mg "__name__").getD .none) c' ctv
  have frf : H f = none := I.hok.fresh sz
  let H' : Hp := upd H f (ObO f fo)
  have e1 : H' f = some (ObO f fo) := upd_same
  have sm : Same H H' := .upd frf
  have keep : ∀ b u, s.heap.get? b = some u → (h'.push fo).get? b = some u := fun b u e => Heap.get?_push_of_some _ (keep0 b u e)
  have gf : (h'.push fo).get? f = some fo := Heap.get?_push_size _ rfl
  have hok' : HOk X.prog X.w H' (h'.push fo) := fun a u e => by
    by_cases n3 : a = f
    · subst n3
      rw [e1] at e
      cases e
      exact ob_ok gf
    · have e' : H a = some u := by
        have : upd H f (ObO f fo) a = some u := e
        rw [upd_ne n3] at this
        exact this
      exact (I.hok a u e').stay (fun b v _ z => keep b v z) (fun b z => sm _ _ z) fun b xs z => sm _ _ z
  have I' : Inv X pins σ H' { s with heap := h'.push fo, toks := tk } := by
    refine I.call (g' := s.gens) (d' := s.drawn) (ch := []) ⟨fun b o e n _ _ => keep b o e, fun b o e n _ _ => ⟨o.slots, keep b o e⟩, fun b o e n _ => ?_, fun b o e _ => ⟨o, keep b o e⟩, fun b xs e => sm _ _ e, fun b o v e => sm _ _ e, fun b qs e => ⟨#[], by rw [sm _ _ e]; simp⟩⟩ hok' I.bare fun b z => by simp at z
    show upd H f (ObO f fo) b = none
    rw [upd_ne (Nat.ne_of_lt (Nat.lt_of_lt_of_le (Heap.lt_size e) sz))]
    exact n
  exact ⟨.ref f, H', I', rfl, q f c' co _ ctv H' frf (.of sm) (sm _ _ hPt) e1 (sm _ _ hc) hco⟩
end
end L2
namespace L2
open PySem PySem.Spec PyProof.Rows PySem.W
abbrev viewO (d : Addr) : Obj := { cls := .type "dict_items", data := .fields #[.ref d] }
section
variable {X : Cx}
def rItems : V → List V → Hp → VK → Prop := fun x vs H Q => ∃ d kvs, x = .ref d ∧ vs = [] ∧ H d = some (.dK kvs) ∧ ∀ v, H v = none → Q (.ref v) (upd H v (ObO v (viewO d)))
theorem mt_items : MtR X "dict.items" rItems := by
  intro pins s σ H x vs v us Q I rx rv h
  obtain ⟨d, kvs, rfl, rfl, hd, q⟩ := h
  cases rx
  have hus := rv.zero
  subst hus
  obtain ⟨hz, hs, ws, kv, hD⟩ := (show ObjOk X.prog X.w H s.heap d (.dK kvs) from I.hok d _ hd)
  refine call_meetsIn PySem.F.slot_dict_items hD.typeIs PySem.F.entry_dict_items (PySem.F.args_dict_items_1 _) (meets_dict_items (mixKind X.prog X.w) d hs) ⟨⟨_, hD⟩, ?_⟩
  exact ⟨.ref s.heap.objs.size, _, I.laid (t' := s.toks) (o := ObO s.heap.objs.size (viewO d)) (fun b o e => Heap.get?_push_of_some _ e) (Nat.le_refl _) (ob_ok (Heap.get?_push_size _ rfl)), rfl, q _ (I.hok.fresh (Nat.le_refl _))⟩
end
section
variable {prog : Program} {w : World} {A : Around} {s : Shared} {E : Value → Shared → Prop}
/-- behind the collecting: a new list is made and sorted -/
theorem sort_tail {us : List Value} {R : Value → Shared → Prop} (few : us.length < 64) (lt : Nat → Nat → Bool) (κ : SortKind)
    (kind : ∀ z : Shared, (∀ b o, s.heap.get? b = some o → z.heap.get? b = some o) → 2 ≤ us.length → ∀ Q : SortKind → Shared → Prop, Q κ z → wpAny (model prog w) A.in1.in1 (keyKind' us.toArray) Q (fun _ _ => False) z)
    (ask : ∀ z : Shared, (∀ b o, s.heap.get? b = some o → z.heap.get? b = some o) → ∀ i j (C : Bool → Shared → Prop), i < us.length → j < us.length → C (lt i j) z → kas_ask prog w A.in1.in1 κ us i j C z)
    (done : ∀ (D : Addr) (p : Array Nat) (g : Heap) (c : Nat), s.heap.objs.size ≤ D → Pl us.length p → (∀ b o, s.heap.get? b = some o → g.get? b = some o) → g.get? D = some (seqObj "list" (p.toList.map fun i => us.getD i Value.none).toArray c) →
      R (.ref D) { s with heap := g }) :
    wpAny (model prog w) A.in1 (call (.builtin "list.sort") [.ref s.heap.objs.size]) (fun _ s' => R (.ref s.heap.objs.size) s') E { s with heap := s.heap.push (seqObj "list" us.toArray 0) } := by
  have kept : ∀ b o, s.heap.get? b = some o → (s.heap.push (seqObj "list" us.toArray 0)).get? b = some o := fun b o e => Heap.get?_push_of_some _ e
  have stands : (s.heap.push (seqObj "list" us.toArray 0)).get? s.heap.objs.size = some (seqObj "list" us.toArray 0) := Heap.get?_push_size _ rfl
  have off : ∀ b o, s.heap.get? b = some o → b ≠ s.heap.objs.size := fun b o e => Nat.ne_of_lt (Heap.lt_size e)
  refine wpAny_call_entry slot_list_sort (show Shared.TypeIs { s with heap := s.heap.push (seqObj "list" us.toArray 0) } (.ref s.heap.objs.size) "list" from ⟨_, stands, rfl⟩) entry_list_sort ?body (args_list_sort _)
  case body =>
    refine lsort (s := { s with heap := s.heap.push (seqObj "list" us.toArray 0) }) stands few lt κ (fun z hz h2 Q q => kind z (fun b o e => hz b o (off b o e) (kept b o e)) h2 Q q) (fun z hz => ask z fun b o e => hz b o (off b o e) (kept b o e)) fun p g c k1 k2 k3 => ?_
    exact ⟨_, rfl, done _ p g c (Nat.le_refl _) k1 (fun b o e => k2 b o (off b o e) (kept b o e)) k3⟩
end
section
variable {X : Cx}
/-- new objects laid and tracked, all at once -/
theorem Inv.lays {pins : List (Addr × Obj)} {σ : St} {H H' : Hp} {s : Shared} {h' : Heap} {t' : Nat} (I : Inv X pins σ H s) (k : ∀ b u, s.heap.get? b = some u → h'.get? b = some u) (old : ∀ b, b < s.heap.objs.size → H' b = H b)
    (new : ∀ b u, s.heap.objs.size ≤ b → H' b = some u → ObjOk X.prog X.w H' h' b u) : Inv X pins σ H' { s with heap := h', toks := t' } := by
  have keep : ∀ {b : Addr} {u : HO}, H b = some u → H' b = some u := fun {b u} e => by rw [old b (I.hok.lt e)]; exact e
  refine I.un ⟨fun b u q _ _ _ => k b u q, fun b u q _ _ _ => ⟨u.slots, k b u q⟩, fun b u q n _ => by rw [old b (Heap.lt_size q)]; exact n, fun b u q _ => ⟨u, k b u q⟩, fun b xs q => keep q, fun b u xs q => keep q, fun b ps q => ⟨#[], by rw [keep q]; simp⟩⟩ fun b u e => ?_
  by_cases hb : b < s.heap.objs.size
  · rw [old b hb] at e
    exact (I.hok b u e).stay (fun c v _ q => k c v q) (fun c q => keep q) fun c xs q => keep q
  · exact new b u (Nat.le_of_not_lt hb) e
theorem paired_r {α β : Type} {F : α → β → Prop} : ∀ {l₁ : List α} {l₂ : List β} {j : Nat} {y : β}, Paired F l₁ l₂ → l₂[j]? = some y → ∃ x, l₁[j]? = some x ∧ F x y
  | _, _, _, _, .nil, e => by simp at e
  | _, _, 0, _, .cons r _, e => by simp at e; subst e; exact ⟨_, rfl, r⟩
  | _, _, j + 1, y, .cons _ t, e => by
    obtain ⟨x, h1, h2⟩ := paired_r t (show _ = some y by simpa using e)
    exact ⟨x, by simpa using h1, h2⟩
def layT (H : Hp) : List Addr → List (Str × Int) → Hp
  | a :: as, p :: ps => upd (layT H as ps) a (.tup [.str p.1, .int p.2])
  | _, _ => H
theorem layT_old {H : Hp} {b : Addr} : ∀ {as : List Addr} {ps : List (Str × Int)}, (∀ a ∈ as, b ≠ a) → layT H as ps b = H b
  | [], _, _ => by unfold layT; rfl
  | _ :: _, [], _ => by unfold layT; rfl
  | a :: as, p :: ps, h => by
    unfold layT
    rw [upd_ne (h a (List.mem_cons_self ..))]
    exact layT_old fun c hc => h c (List.mem_cons_of_mem _ hc)
theorem layT_new {H : Hp} {b : Addr} {u : HO} : ∀ {as : List Addr} {ps : List (Str × Int)}, layT H as ps b = some u → H b = some u ∨ ∃ (j : Nat) (p : Str × Int), as[j]? = some b ∧ ps[j]? = some p ∧ u = .tup [.str p.1, .int p.2]
  | [], _, e => .inl (by unfold layT at e; exact e)
  | _ :: _, [], e => .inl (by unfold layT at e; exact e)
  | a :: as, p :: ps, e => by
    unfold layT at e
    by_cases z : b = a
    · subst z
      rw [upd_same] at e
      cases e
      exact .inr ⟨0, p, rfl, rfl, rfl⟩
    · rw [upd_ne z] at e
      rcases layT_new e with y | ⟨j, q, e1, e2, e3⟩
      · exact .inl y
      · exact .inr ⟨j + 1, q, by simpa using e1, by simpa using e2, e3⟩
theorem layT_dats {K : PySem.W.Frag} {H : Hp} : ∀ {as : List Addr} {ps : List (Str × Int)}, as.length = ps.length → as.Pairwise (· < ·) → DatsAt K (layT H as ps) (as.map V.ref) (ps.map pairD)
  | [], [], _, _ => .nil
  | [], _ :: _, hl, _ => by simp at hl
  | _ :: _, [], hl, _ => by simp at hl
  | a :: as, p :: ps, hl, hr => by
    have hr' := List.pairwise_cons.mp hr
    have ih := layT_dats (K := K) (H := H) (as := as) (ps := ps) (by simpa using hl) hr'.2
    unfold layT
    refine .cons (.tup (SqT.of upd_same) (.cons (.str _) (.cons (.int _) .nil))) ?_
    have mv : ∀ {as2 : List Addr} {ps2 : List (Str × Int)} {H1 : Hp}, (∀ b ∈ as2, b ≠ a) → DatsAt K H1 (as2.map V.ref) (ps2.map pairD) → (∀ b ∈ as2, ∃ t, H1 b = some (.tup t)) → as2.length = ps2.length → DatsAt K (upd H1 a (.tup [.str p.1, .int p.2])) (as2.map V.ref) (ps2.map pairD) := fun {as2} => by
      induction as2 with
      | nil =>
        intro ps2 H1 _ _ _ hl
        cases ps2 with
        | nil => exact .nil
        | cons q r => simp at hl
      | cons b bs ihb =>
        intro ps2 H1 hne hd ht hl
        cases ps2 with
        | nil => simp at hl
        | cons q qs =>
          obtain ⟨v, r, ev, h1, h2⟩ := DatsAt.un (d := pairD q) (ds := qs.map pairD) hd
          cases ev
          obtain ⟨t, et⟩ := ht b (List.mem_cons_self ..)
          refine .cons ?_ (ihb (fun c hc => hne c (List.mem_cons_of_mem _ hc)) h2 (fun c hc => ht c (List.mem_cons_of_mem _ hc)) (by simpa using hl))
          obtain ⟨r, vs, e1, e2, e3⟩ := DatAt.un (ds := [.str q.1, .int q.2]) h1
          cases e1
          obtain ⟨x, y, rfl, e4, e5⟩ := e3.two
          rw [e4.str_eq, e5.int_eq] at e2
          refine .tup (vs := [.str q.1, .int q.2]) ?_ (.cons (.str _) (.cons (.int _) .nil))
          have nb := hne b (List.mem_cons_self ..)
          rcases e2 with (z | ⟨o, z⟩) | z
          · exact .inl (.inl (by rw [upd_ne nb]; exact z))
          · exact .inl (.inr ⟨o, by rw [upd_ne nb]; exact z⟩)
          · exact .inr z
    refine mv (fun b hb => Nat.ne_of_gt (hr'.1 b hb)) ih (fun b hb => ?_) (by simpa using hl)
    obtain ⟨j, hj⟩ := List.mem_iff_getElem?.mp hb
    have : ∀ {as : List Addr} {ps : List (Str × Int)} {j : Nat} {b : Addr}, as.length = ps.length → as.Pairwise (· < ·) → as[j]? = some b → ∃ t, layT H as ps b = some (.tup t) := fun {as} => by
      induction as with
      | nil => intro ps j b _ _ h; simp at h
      | cons a as ih2 =>
        intro ps j b hl hr h
        cases ps with
        | nil => simp at hl
        | cons p ps =>
          have hr' := List.pairwise_cons.mp hr
          unfold layT
          cases j with
          | zero => cases h; exact ⟨_, upd_same⟩
          | succ j =>
            have h' : as[j]? = some b := by simpa using h
            rw [upd_ne (Nat.ne_of_gt (hr'.1 b (List.mem_of_getElem? h')))]
            exact ih2 (by simpa using hl) hr'.2 h'
    exact this (by simpa using hl) hr'.2 hj
def rSortV (K : PySem.W.Frag) : List V → Hp → VK → Prop := fun xs H Q => ∃ v d, ∃ ps : List (Str × Int), xs = [.ref v] ∧ H v = some (ObO v (viewO d)) ∧ H d = some (.dK (ps.map fun p => (Sum.inr p.1, V.int p.2))) ∧ ps.length < 64 ∧
    ∀ (l : Addr) (H' : Hp) (vs : List V) (fs : List (Str × Int)), Same H H' → H l = none → H' l = some (.lst vs) → DatsAt K H' vs (fs.map pairD) → fs.Perm ps → Q (.ref l) H'
theorem call_sortedV (hc : X.calm = true) : CallR X (.builtin "sorted") (rSortV X.K) := by
  intro pins s σ H xs us Q I r h
  obtain ⟨v, d, ps, rfl, hv, hd, few, q⟩ := h
  obtain ⟨u, rfl, ru⟩ := vals1 r
  cases (show u = Value.ref v from ru)
  obtain ⟨hz, hs, ws, kv, hD⟩ := (show ObjOk X.prog X.w H s.heap d (.dK (ps.map fun p => (Sum.inr p.1, V.int p.2))) from I.hok d _ hd)
  obtain ⟨ep, hA⟩ := hD.dictAt
  have lkv : ws.length = ps.length := by
    have := kv.length
    rw [List.length_map] at this
    omega
  have line : ps.length ≤ sizeLine := by rw [sizeLine_eq]; omega
  refine Calls.call_function_entry kind_sorted plain_sorted entry_sorted (args_sorted1 _) ?_
  unfold Builtin.«sorted»
  refine wpAny_bind (m := checkCount "sorted" 1 1 _) (wpAny_pure ?_)
  refine wpAny_bind (kdx_collect (A := X.A.in1) (knd := mixKind X.prog X.w) (kvs := ws) (ep := ep) (I.ok.hd hc) ⟨_, ob_get I.hok hv, rfl, rfl⟩ hA (by rw [lkv]; exact line) fun h' tk as hk hl hG => ?_)
  have las : as.length = ps.length := hl.trans lkv
  have above : ∀ a ∈ as, s.heap.objs.size ≤ a := fun a ha => Nat.le_of_lt (hG.above a ha)
  have tup : ∀ (j : Nat) (a : Addr) (p : Str × Int), as[j]? = some a → ps[j]? = some p → ∃ t1 t2, h'.get? a = some { cls := .type "tuple", data := .seq #[.str p.1 t1, .int p.2 t2] } := fun j a p e1 e2 => by
    obtain ⟨key, k, x, g1, g2, g3⟩ := hG.pairs j a e1
    obtain ⟨q1, e3, e4, e5⟩ := paired_r kv g1
    rw [List.getElem?_map, e2] at e3
    cases e3
    have e4' : Sum.inr p.1 = k := e4
    subst e4'
    obtain ⟨t2, rfl⟩ := (show RelV (V.int p.2) x from e5)
    rcases keyIs_shape (show keyIs (Sum.inr p.1) key = true from g2) with ⟨i, t, z, _⟩ | ⟨y, t, z, rfl⟩
    · cases z
    · cases z
      exact ⟨t, t2, g3⟩
  have I1 : Inv X pins σ (layT H as ps) { s with heap := h', toks := tk } := Inv.lays I hk (fun b hb => layT_old fun a ha z => absurd (above a ha) (by rw [← z]; exact Nat.not_le_of_lt hb)) fun b u hb e => by
    rcases layT_new e with z | ⟨j, p, e1, e2, rfl⟩
    · rw [I.hok.fresh hb] at z
      cases z
    · obtain ⟨t1, t2, et⟩ := tup j b p e1 e2
      exact ⟨two_le, [.str p.1 t1, .int p.2 t2], .cons ⟨t1, rfl⟩ (.cons ⟨t2, rfl⟩ .nil), _, et, rfl, _, rfl⟩
  have S1 : Same H (layT H as ps) := fun b u e => by
    rw [layT_old fun a ha z => absurd (above a ha) (by rw [← z]; exact Nat.not_le_of_lt (I.hok.lt e))]
    exact e
  have hd1 : DatsAt X.K (layT H as ps) (as.map V.ref) (ps.map pairD) := layT_dats las hG.rise
  have rv : Vals (as.map V.ref) (as.map Value.ref) := by
    clear hl hG las above tup I1 S1 hd1
    induction as with
    | nil => exact .nil
    | cons a as ih => exact .cons rfl ih
  have len1 : (as.map Value.ref).length = ps.length := by rw [List.length_map]; exact las
  have len2 : (as.map V.ref).length = ps.length := by rw [List.length_map]; exact las
  generalize as.map Value.ref = its at rv len1
  generalize as.map V.ref = vs at rv hd1 len2
  generalize layT H as ps = H1 at I1 S1 hd1
  refine wpAny_bind (wpAny_newList ?_ (by rw [len1]; exact line))
  refine wpAny_bind (wpAny_holding (wpAny_mono (sort_tail (A := X.A) (s := { s with heap := h', toks := tk }) (R := fun r s' => EP X pins σ Q r s') (lt := fun i j => pairLt (ps.getD i ("", 0)) (ps.getD j ("", 0))) (κ := tuples' ((Value.type "str") != (Value.type "tuple"))) (by omega) (fun z kept h2 Q' hq => ?_) (fun z kept i j C hi hj hC => ?_) fun D p g c hD hp kept at_ => ?_) (fun _ s' x => wpAny_pure ⟨_, rfl, x⟩) fun _ _ e => e))
  · obtain ⟨fs, k1, k2, k3⟩ := pairs_tups I1 kept ps vs its hd1 rv
    refine kat_kind (T := Value.type "str") k1 (by omega) (fun v hv => ?_) (by decide +kernel) hq
    obtain ⟨x, t, rfl⟩ := k3 v hv
    exact .now
  · have gi : ∀ {k : Nat}, k < its.length → ∃ a t t' o n, its.getD k Value.none = Value.ref a ∧ z.heap.get? a = some o ∧ o.data = .seq #[Value.str (ps.getD k ("", 0)).1 t, Value.int (ps.getD k ("", 0)).2 t'] n := fun {k} hk => by
      have e1 : (ps.map pairD)[k]? = some (pairD (ps.getD k ("", 0))) := by
        have hk' : k < ps.length := by omega
        simp [List.getD_eq_getElem?_getD, hk']
      obtain ⟨v, ev, hv⟩ := hd1.get e1
      obtain ⟨u, eu, ru⟩ := rv.get ev
      obtain ⟨a, t, t', o, n, rfl, f1, _, f3⟩ := pair_at I1 hv ru
      exact ⟨a, t, t', o, n, getD_of eu, kept _ _ f1, f3⟩
    obtain ⟨a1, t1, t1', o1, n1, e1, g1, d1⟩ := gi hi
    obtain ⟨a2, t2, t2', o2, n2, e2, g2, d2⟩ := gi hj
    show wpAny _ _ (keyLt' _ (its.getD i Value.none) (its.getD j Value.none)) C _ z
    rw [e1, e2]
    generalize ps.getD i ("", 0) = f at d1 hC
    generalize ps.getD j ("", 0) = g at d2 hC
    refine kat_lt g1 d1 g2 d2 ?_
    show KatLex _ _ _ _ _ C [(Value.str f.1 t1, Value.str g.1 t2), (Value.int f.2 t1', Value.int g.2 t2')] 0 z
    refine kat_cons (SeqAt.EqAt.str_str _ _ _ _ _ _ _ _ (kat_go (fun b1 => kat_yes ?_) fun b1 => kat_no ?_))
    · refine kat_cons (SeqAt.EqAt.int_int _ _ _ _ _ _ _ _ (kat_go (fun b2 => kat_yes (kat_nil ?_)) fun b2 => kat_no ?_))
      · have e3 : pairLt f g = false := by
          unfold pairLt
          rw [if_pos b1, if_pos b2]
        rw [e3] at hC
        exact hC
      · have e3 : pairLt f g = decide (f.2 < g.2) := by
          unfold pairLt
          rw [if_pos b1, if_neg (by rw [b2]; exact Bool.false_ne_true)]
        rw [e3] at hC
        exact kat_one _ _ (lt_int hC)
    · have e3 : pairLt f g = decide (f.1.cps.toList < g.1.cps.toList) := by
        unfold pairLt
        rw [if_neg (by rw [b1]; exact Bool.false_ne_true)]
      rw [e3] at hC
      exact oneLt_str hC
  · have hp' : p.toList.Perm (List.range vs.length) := by
      have := Array.perm_iff_toList_perm.mp hp
      rw [len2, ← len1]
      simpa using this
    have all : ∀ i ∈ p.toList, i < vs.length := fun i hi => List.mem_range.mp (hp'.mem_iff.mp hi)
    have S2 : Same H1 (upd H1 D (.lst (p.toList.map fun i => vs.getD i .non))) := .upd (I1.hok.fresh hD)
    have pk := DatsAt.pick (d0 := pairD ("", 0)) hd1 p.toList all
    have ef : (p.toList.map fun i => (ps.map pairD).getD i (pairD ("", 0))) = (p.toList.map fun i => ps.getD i ("", 0)).map pairD := by
      rw [List.map_map]
      refine List.map_congr_left fun i _ => ?_
      simp [List.getD_eq_getElem?_getD, Option.getD_map]
    rw [ef] at pk
    have hHD : H D = none := by
      cases e : H D with
      | none => rfl
      | some u =>
        have := S1 _ _ e
        rw [I1.hok.fresh hD] at this
        cases this
    refine ⟨.ref D, _, I1.laid (t' := tk) (o := .lst (p.toList.map fun i => vs.getD i .non)) kept hD ?_, rfl, q D _ _ _ (S1.trans S2) hHD upd_same (pk.same S2) ?_⟩
    · refine ⟨?_, _, c, ?_, at_⟩
      · rw [List.length_map, hp'.length_eq, List.length_range, len2]
        exact line
      · generalize p.toList = l at all
        clear hp hp' at_ pk ef S2 hHD
        induction l with
        | nil => exact .nil
        | cons i l ih =>
          have hi := all i (List.mem_cons_self ..)
          obtain ⟨u, eu, ru⟩ := rv.get (i := i) (x := vs[i]) (List.getElem?_eq_getElem hi)
          refine .cons ?_ (ih fun k hk => all k (List.mem_cons_of_mem _ hk))
          show RelV (vs.getD i .non) (its.getD i Value.none)
          rw [getD_of eu, getD_of (List.getElem?_eq_getElem hi)]
          exact ru
    · have e1 : (List.range vs.length).map (fun i => ps.getD i ("", 0)) = ps := by
        rw [len2]
        refine List.ext_getElem (by simp) fun i k1 k2 => ?_
        simp [List.getD_eq_getElem?_getD, k2]
      have := hp'.map fun i => ps.getD i ("", 0)
      rw [e1] at this
      exact this
end
end L2
namespace L2
open PySem PySem.Spec PyProof.Rows
/-- two values that are alike -/
inductive Alk (K : PySem.W.Frag) (H : Hp) : V → V → Prop
  | dat {x y : V} (d : Dt) (hx : DatAt K H x d) (hy : DatAt K H y d) (hg : d.hgt ≤ 30) : Alk K H x y
  | ref (r : Addr) : Alk K H (.ref r) (.ref r)
  | lst (l m : Addr) (ds : List Dt) (hl : LsM K H l ds) (hm : LsM K H m ds) (hg : Dt.hgts ds ≤ 30) : Alk K H (.ref l) (.ref m)
/-- two tuples of such -/
def PqAt (K : PySem.W.Frag) (H : Hp) (x y : V) : Prop := ∃ p q xs ys, x = .ref p ∧ y = .ref q ∧ SqT K H p xs ∧ SqT K H q ys ∧ xs.length = ys.length ∧ ∀ (i : Nat) (a b : V), xs[i]? = some a → ys[i]? = some b → Alk K H a b
section
variable {X : Cx} {pins : List (Addr × Obj)} {σ : St} {H : Hp} {s : Shared}
theorem eqAt_alk (I : Inv X pins σ H s) {A : Around} {x y : V} {u v : Value} (hu : A.units + 45 < cLine) (h : Alk X.K H x y) (ru : RelV x u) (rv : RelV y v) : SeqAt.EqAt A s u v true := by
  cases h with
  | dat d hx hy hg =>
    have := eqAt_dat I 30 A d d x y u v hg (by omega) hx hy ru rv
    rw [Dt.beq_self] at this
    exact this
  | ref r =>
    cases (show u = Value.ref r from ru)
    cases (show v = Value.ref r from rv)
    exact SeqAt.EqAt.same _
  | lst l m ds hl hm hg =>
    cases (show u = Value.ref l from ru)
    cases (show v = Value.ref m from rv)
    exact eqAt_lists I (by omega) hl hm hg
theorem eqAt_pq (I : Inv X pins σ H s) {A : Around} {x y : V} {u v : Value} (hu : A.units + 50 < cLine) (h : PqAt X.K H x y) (ru : RelV x u) (rv : RelV y v) : SeqAt.EqAt A s u v true := by
  obtain ⟨p, q, xs, ys, rfl, rfl, h1, h2, h3, h4⟩ := h
  cases (show u = Value.ref p from ru)
  cases (show v = Value.ref q from rv)
  by_cases hab : p = q
  · subst hab
    exact SeqAt.EqAt.same _
  · obtain ⟨its, r1, p1, _⟩ := I.tuple h1
    obtain ⟨its2, r2, p2, _⟩ := I.tuple h2
    have l1 := r1.length
    have l2 := r2.length
    have hsz : its.toArray.size = its2.toArray.size := by
      rw [List.size_toArray, List.size_toArray]
      omega
    have r := SeqAt.RcAt.tuples (A := A) (e := fun _ => true) p1 p2 (by omega) fun j j1 j2 => by
      rw [List.size_toArray] at j1 j2
      have g1 : xs[j]? = some xs[j] := List.getElem?_eq_getElem (by omega)
      have g2 : ys[j]? = some ys[j] := List.getElem?_eq_getElem (by omega)
      obtain ⟨u, eu, ru⟩ := r1.get g1
      obtain ⟨v, ev, rv⟩ := r2.get g2
      have f1 : its.toArray[j] = u := by
        have := (List.getElem?_eq_some_iff.mp eu).2
        simpa using this
      have f2 : its2.toArray[j] = v := by
        have := (List.getElem?_eq_some_iff.mp ev).2
        simpa using this
      rw [f1, f2]
      exact eqAt_alk I (by show A.units + 1 + 45 < cLine; omega) (h4 j _ _ g1 g2) ru rv
    have ea : ((List.range (min its.toArray.size its2.toArray.size)).all fun _ => true) = true := List.all_eq_true.mpr fun _ _ => rfl
    have eb : (its.toArray.size == its2.toArray.size) = true := by rw [hsz]; exact beq_self_eq_true _
    rw [ea, eb] at r
    exact SeqAt.EqAt.of_refs hab r
def rNePq (K : PySem.W.Frag) : R2 := fun x y H Q => ∃ (a b : Addr) (vs ws : List V), x = .ref a ∧ y = .ref b ∧ SqL K H a vs ∧ SqL K H b ws ∧ vs.length = ws.length ∧ (∀ (i : Nat) (v w : V), vs[i]? = some v → ws[i]? = some w → PqAt K H v w) ∧ Q (.bl false) H
theorem op_nePq (hu : X.A.units + 64 < cLine) : OpR X (compareOp .NotEq) (rNePq X.K) := by
  intro pins s σ H x y u v Q I ru rv h
  obtain ⟨a, b, vs, ws, rfl, rfl, ha, hb, e1, h1, q⟩ := h
  cases (show u = Value.ref a from ru)
  cases (show v = Value.ref b from rv)
  obtain ⟨its, r1, p1, _⟩ := I.list ha
  obtain ⟨its2, r2, p2, _⟩ := I.list hb
  have l1 := r1.length
  have l2 := r2.length
  have hsz : its.toArray.size = its2.toArray.size := by
    rw [List.size_toArray, List.size_toArray]
    omega
  have r := SeqAt.RcNeAt.lists (A := X.A) (e := fun _ => true) p1.isList p2.isList hsz (by omega) fun j j1 j2 => by
    rw [List.size_toArray] at j1 j2
    have g1 : vs[j]? = some vs[j] := List.getElem?_eq_getElem (by omega)
    have g2 : ws[j]? = some ws[j] := List.getElem?_eq_getElem (by omega)
    obtain ⟨u, eu, ru⟩ := r1.get g1
    obtain ⟨v, ev, rv⟩ := r2.get g2
    have f1 : its.toArray[j] = u := by
      have := (List.getElem?_eq_some_iff.mp eu).2
      simpa using this
    have f2 : its2.toArray[j] = v := by
      have := (List.getElem?_eq_some_iff.mp ev).2
      simpa using this
    rw [f1, f2]
    exact eqAt_pq I (by show X.A.units + 1 + 50 < cLine; omega) (h1 j _ _ g1 g2) ru rv
  have ea : (List.range its.toArray.size).all (fun _ => true) = true := List.all_eq_true.mpr fun _ _ => rfl
  rw [ea] at r
  exact r _ _ _ _ (fin_bl I q rfl)
end
end L2
namespace K43
open PySem L2 FW PyProof.Rows M44
def top (i : Nat) : Stmt := PySem.Challenge.pw_flipwright_k43_prices_by_rows.main.body.getD i (.Pass ⟨0, 0, 0, 0⟩)
abbrev s_greatest_divisor : Stmt := top 4
abbrev s_fraction : Stmt := top 5
abbrev s_weights_of : Stmt := top 7
abbrev s_from_below : Stmt := top 9
abbrev s_index_weights : Stmt := top 11
abbrev s_row_weights : Stmt := top 12
abbrev s_bottoms : Stmt := top 13
abbrev s_prices : Stmt := top 14
abbrev s_law_cell_at : Stmt := top 16
abbrev s_law_whole : Stmt := top 17
abbrev s_law_mix : Stmt := top 18
abbrev s_law_same : Stmt := top 19
abbrev s_law_word : Stmt := top 20
abbrev s_law_outcome : Stmt := top 21
abbrev s_law_divisor : Stmt := top 22
abbrev s_law_is_share : Stmt := top 23
abbrev s_law_widths : Stmt := top 24
abbrev s_law_draws : Stmt := top 25
abbrev s_law_site : Stmt := top 26
abbrev s_law_lists : Stmt := top 27
abbrev s_law_copy : Stmt := top 28
abbrev s_law_lead : Stmt := top 29
abbrev s_law_rows : Stmt := top 30
abbrev s_law_due : Stmt := top 31
abbrev s_law : Stmt := top 32
theorem sc_greatest_divisor : FnScope ["one", "other", "rest"] ["one", "other"] (defScope s_greatest_divisor) := ⟨rfl, rfl, rfl, by decide +kernel, rfl, by decide +kernel, by decide +kernel⟩
theorem sc_fraction : FnScope ["top", "bottom", "divisor"] ["top", "bottom"] (defScope s_fraction) := ⟨rfl, rfl, rfl, by decide +kernel, rfl, by decide +kernel, by decide +kernel⟩
theorem sc_weights_of : FnScope ["draw"] ["draw"] (defScope s_weights_of) := ⟨rfl, rfl, rfl, by decide +kernel, rfl, by decide +kernel, by decide +kernel⟩
theorem sc_from_below : FnScope ["parts", "at_leaf", "how", "found", "part"] ["parts", "at_leaf", "how"] (defScope s_from_below) := ⟨rfl, rfl, rfl, by decide +kernel, rfl, by decide +kernel, by decide +kernel⟩
theorem sc_index_weights : FnScope ["part", "draws", "heaviest", "weights"] ["part", "draws", "heaviest"] (defScope s_index_weights) := ⟨rfl, rfl, rfl, by decide +kernel, rfl, by decide +kernel, by decide +kernel⟩
theorem sc_row_weights : FnScope ["parts", "draws", "free", "draw"] ["parts", "draws"] (defScope s_row_weights) := ⟨rfl, rfl, rfl, by decide +kernel, rfl, by decide +kernel, by decide +kernel⟩
theorem sc_bottoms : FnScope ["draws", "bottom", "draw", "found", "weights"] ["draws"] (defScope s_bottoms) := ⟨rfl, rfl, rfl, by decide +kernel, rfl, by decide +kernel, by decide +kernel⟩
theorem sc_prices : FnScope ["parts", "draws", "by_site", "found", "part", "weight", "site"] ["parts", "draws"] (defScope s_prices) := ⟨rfl, rfl, rfl, by decide +kernel, rfl, by decide +kernel, by decide +kernel⟩
theorem sc_law_cell_at : FnScope ["_law_script", "_law_k"] ["_law_script", "_law_k"] (defScope s_law_cell_at) := ⟨rfl, rfl, rfl, by decide +kernel, rfl, by decide +kernel, by decide +kernel⟩
theorem sc_law_whole : FnScope ["_law_found"] ["_law_found"] (defScope s_law_whole) := ⟨rfl, rfl, rfl, by decide +kernel, rfl, by decide +kernel, by decide +kernel⟩
theorem sc_law_mix : FnScope ["_law_cell", "_law_k", "_law_figure"] ["_law_cell", "_law_k"] (defScope s_law_mix) := ⟨rfl, rfl, rfl, by decide +kernel, rfl, by decide +kernel, by decide +kernel⟩
theorem sc_law_same : FnScope ["_law_found", "_law_due_here", "_law_k"] ["_law_found", "_law_due_here"] (defScope s_law_same) := ⟨rfl, rfl, rfl, by decide +kernel, rfl, by decide +kernel, by decide +kernel⟩
theorem sc_law_word : FnScope ["_law_figure", "_law_letters", "_law_word_here", "_law_k"] ["_law_figure"] (defScope s_law_word) := ⟨rfl, rfl, rfl, by decide +kernel, rfl, by decide +kernel, by decide +kernel⟩
theorem sc_law_outcome : FnScope ["_law_cell", "_law_fields", "_law_k"] ["_law_cell"] (defScope s_law_outcome) := ⟨rfl, rfl, rfl, by decide +kernel, rfl, by decide +kernel, by decide +kernel⟩
theorem sc_law_divisor : FnScope ["_law_one", "_law_other"] ["_law_one", "_law_other"] (defScope s_law_divisor) := ⟨rfl, rfl, rfl, by decide +kernel, rfl, by decide +kernel, by decide +kernel⟩
theorem sc_law_is_share : FnScope ["_law_found"] ["_law_found"] (defScope s_law_is_share) := ⟨rfl, rfl, rfl, by decide +kernel, rfl, by decide +kernel, by decide +kernel⟩
theorem sc_law_widths : FnScope ["_law_script", "_law_cell", "_law_some"] ["_law_script"] (defScope s_law_widths) := ⟨rfl, rfl, rfl, by decide +kernel, rfl, by decide +kernel, by decide +kernel⟩
theorem sc_law_draws : FnScope ["_law_script", "_law_widths_here", "_law_draws_here", "_law_turn", "_law_cell", "_law_draw", "_law_k", "_law_figure"] ["_law_script", "_law_widths_here"] (defScope s_law_draws) := ⟨rfl, rfl, rfl, by decide +kernel, rfl, by decide +kernel, by decide +kernel⟩
theorem sc_law_site : FnScope ["_law_entry"] ["_law_entry"] (defScope s_law_site) := ⟨rfl, rfl, rfl, by decide +kernel, rfl, by decide +kernel, by decide +kernel⟩
theorem sc_law_lists : FnScope ["_law_script", "_law_widths_here", "_law_parts", "_law_k", "_law_cell", "_law_turn", "_law_some", "_law_children"] ["_law_script", "_law_widths_here"] (defScope s_law_lists) := ⟨rfl, rfl, rfl, by decide +kernel, rfl, by decide +kernel, by decide +kernel⟩
theorem sc_law_copy : FnScope ["_law_parts"] ["_law_parts"] (defScope s_law_copy) := ⟨rfl, rfl, rfl, by decide +kernel, rfl, by decide +kernel, by decide +kernel⟩
theorem sc_law_lead : FnScope ["_law_parts", "_law_place", "_law_row", "_law_entry"] ["_law_parts", "_law_place", "_law_row"] (defScope s_law_lead) := ⟨rfl, rfl, rfl, by decide +kernel, rfl, by decide +kernel, by decide +kernel⟩
theorem sc_law_rows : FnScope ["_law_widths_here", "_law_rows_here", "_law_many", "_law_longer", "_law_row", "_law_turn"] ["_law_widths_here"] (defScope s_law_rows) := ⟨rfl, rfl, rfl, by decide +kernel, rfl, by decide +kernel, by decide +kernel⟩
theorem sc_law_due : FnScope ["_law_parts", "_law_place", "_law_rows_here", "_law_draws_here", "_law_site_here", "_law_best", "_law_row", "_law_weight", "_law_k", "_law_whole_here"] ["_law_parts", "_law_place", "_law_rows_here", "_law_draws_here"] (defScope s_law_due) := ⟨rfl, rfl, rfl, by decide +kernel, rfl, by decide +kernel, by decide +kernel⟩
theorem sc_law : FnScope ["_law_script", "_law_widths_here", "_law_draws_here", "_law_parts", "_law_rows_here", "_law_handed", "_law_also", "_law_found", "_law_place", "_law_best", "_law_whole_here", "_law_kept"] ["_law_script"] (defScope s_law) := ⟨rfl, rfl, rfl, by decide +kernel, rfl, by decide +kernel, by decide +kernel⟩
structure Tb (mg : Str → Option Value) : Prop where
  abs_ : mg "abs" = none
  len_ : mg "len" = none
  max_ : mg "max" = none
  min_ : mg "min" = none
  sum_ : mg "sum" = none
  zip_ : mg "zip" = none
  range_ : mg "range" = none
  isinstance_ : mg "isinstance" = none
  int_ : mg "int" = none
  bool_ : mg "bool" = none
  str_ : mg "str" = none
  tuple_ : mg "tuple" = none
  list_ : mg "list" = none
  sorted_ : mg "sorted" = none
abbrev pI (p : Int × Int) : Dt := .tup [.int p.1, .int p.2]
abbrev mI (d : List (Int × Int)) : List Dt := d.map pI
abbrev wts (d : List (Int × Int)) : List Int := d.map (·.2)
abbrev nI (c : Nat) : V := .int (c : Int)
/-- a draw: one to a hundred outcomes, weights above nought -/
structure Gd (d : List (Int × Int)) : Prop where
  l0 : 0 < d.length
  l1 : d.length ≤ 6
  w : ∀ a ∈ wts d, 0 < a ∧ a ≤ 1000000
theorem Gd.ne {d : List (Int × Int)} (h : Gd d) : wts d ≠ [] := fun z => by
  have l := congrArg List.length z
  rw [List.length_map] at l
  have h0 := h.l0
  rw [l] at h0
  exact absurd h0 (by decide)
theorem Gd.pos {d : List (Int × Int)} (h : Gd d) : ∀ a ∈ wts d, 0 < a := fun a ha => (h.w a ha).1
theorem Gd.mx {d : List (Int × Int)} (h : Gd d) : 0 < mx (wts d) ∧ M44.mx (wts d) ≤ 1000000 := ⟨mx_pos h.pos h.ne, (h.w _ (mx_mem h.pos h.ne)).2⟩
theorem sum_le {m : Int} : ∀ {ws : List Int}, (∀ a ∈ ws, a ≤ m) → ws.sum ≤ ws.length * m
  | [], _ => by simp
  | x :: r, h => by
    have h1 := h x (by simp)
    have h2 := sum_le (ws := r) fun a ha => h a (List.mem_cons_of_mem _ ha)
    rw [List.sum_cons, List.length_cons]
    have e : ((r.length + 1 : Nat) : Int) * m = r.length * m + m := by
      rw [Int.natCast_add, Int.add_mul]
      simp
    omega
theorem Gd.sm {d : List (Int × Int)} (h : Gd d) : 0 < (wts d).sum ∧ (wts d).sum ≤ 6000000 := by
  refine ⟨sum_pos h.pos h.ne, ?_⟩
  have := sum_le (m := 1000000) fun a ha => (h.w a ha).2
  rw [List.length_map] at this
  have := h.l1
  omega
def sp_gcd : Sp := fun vs H Q _ => ∃ a b, vs = [.int a, .int b] ∧ Q (.int (g a b)) H
def tupQ (H : Hp) (Q : VK) (x y : Int) : Prop := ∀ r H', Same H H' → H' r = some (.tup [.int x, .int y]) → Q (.ref r) H'
def sp_frac : Sp := fun vs H Q _ => ∃ t b, vs = [.int t, .int b] ∧ 0 < b ∧ Sm b ∧ tupQ H Q (low t b).1 (low t b).2
def sp_ws (K : PySem.W.Frag) : Sp := fun vs H Q _ => ∃ a ds, vs = [.ref a] ∧ LsM K H a (mI ds) ∧ ds.length ≤ 6 ∧ ∀ D H', Same H H' → H D = none → H' D = some (.lst ((wts ds).map V.int)) → Q (.ref D) H'
def vals (hs : List Int) (d : List (Int × Int)) (ch : List Nat) : List Int := List.zipWith (fun w c => hs.getD c 0 / mx (wts d) * w) (wts d) ch
def sp_ix (K : PySem.W.Frag) : Sp := fun vs H Q _ => ∃ (r l DA Fd : Addr) (k : Nat) (ch : List Nat) (ps : List (Addr × List Dt)) (P : List (List (Int × Int))) (d : List (Int × Int)) (hs : List Int), vs = [.ref r, .ref DA, .ref Fd] ∧ SqT K H r [.str "ask", nI k, .ref l] ∧ H l = some (.lst (ch.map nI)) ∧
  LLM K H DA ps ∧ ps.map (·.2) = P.map mI ∧ P[k]? = some d ∧ Gd d ∧ H Fd = some (.lst (hs.map V.int)) ∧ ch.length = d.length ∧ (∀ c ∈ ch, c < hs.length) ∧ ∀ D H', Same H H' → H' D = some (.lst ((vals hs d ch).map V.int)) → Q (.ref D) H'
theorem gcd_end {x a b : Int} (h0 : 0 ≤ x) (h : Int.gcd x 0 = Int.gcd a b) : x = g a b := by
  rw [Int.gcd_zero_right] at h
  show x = ((Int.gcd a b : Nat) : Int)
  rw [← h]
  omega
theorem gcd_start {a b : Int} : Int.gcd (if a < 0 then -a else a) (if b < 0 then -b else b) = Int.gcd a b := by
  split <;> split <;> simp
theorem abs_nn (a : Int) : 0 ≤ (if a < 0 then -a else a) := by split <;> omega
theorem abs_g_le {a b : Int} (h : b ≠ 0) : (g a b).natAbs ≤ b.natAbs := by
  show (((Int.gcd a b : Nat) : Int)).natAbs ≤ b.natAbs
  rw [Int.natAbs_natCast]
  exact Int.gcd_le_natAbs_right a h
theorem small_mul {x y : Int} (h : -(2 ^ 62) ≤ y ∧ y ≤ 2 ^ 62) : IntMulOk x y := .of_right (intBits_le_64 (by omega) (by omega))
theorem log_small {x : Int} (h : -(2 ^ 62) ≤ x ∧ x ≤ 2 ^ 62) : x.natAbs.log2 < 9000 := Sm.log (show x.natAbs < 2 ^ 2000 from Nat.lt_of_lt_of_le (show x.natAbs < 2 ^ 63 by omega) (Nat.pow_le_pow_right (by decide) (by decide)))
theorem iz_at {α β γ : Type} {f : α → β → γ} {a : List α} {b : List β} {i : Nat} {x : α} {y : β} (h1 : a[i]? = some x) (h2 : b[i]? = some y) : (List.zipWith f a b)[i]? = some (f x y) := by
  rw [List.getElem?_zipWith, h1, h2]
section
variable {P : Program} {w : World} {K : PySem.W.Frag} {mg : Str → Option Value} {base : Heap}
theorem ok_greatest_divisor {f : Addr} {fd : FuncData} (A : FnAt K mg "greatest_divisor" s_greatest_divisor ["one", "other"] f fd) (T : Tb mg) : FnOk P w K mg base CX0 1 f fd ["one", "other"] sp_gcd := by
  refine A.F.ok sc_greatest_divisor (fun vs H Q E h => ?_) (fun cdv Ar outer s H vs Q E hr h => ?_)
  · obtain ⟨a, b, rfl, _⟩ := h
    rfl
  · obtain ⟨a, b, rfl, k⟩ := h
    refine ⟨_, (pss_cons (ps_set (i := 0) sc_greatest_divisor.nd rfl (Or.inl rfl) (pe_callB call_abs (by rfl) T.abs_ Boot.«abs» (pa_cons (pv 0) pa_nil)))
      (pss_cons (ps_set (i := 1) sc_greatest_divisor.nd rfl (Or.inl rfl) (pe_callB call_abs (by rfl) T.abs_ Boot.«abs» (pa_cons (pv 1) pa_nil)))
      (pss_cons (ps_while PassesOwn.never (pt_cmpR op_ne (pv 1) pe_int (nomark _)) (pss_cons (ps_set (i := 2) sc_greatest_divisor.nd rfl (Or.inl rfl) (pe_op op_mod (pv 0) (pv 1)))
      (pss_cons (ps_set (i := 0) sc_greatest_divisor.nd rfl (Or.inl rfl) (pv 1))
      (pss_one (ps_set (i := 1) sc_greatest_divisor.nd rfl (Or.inl rfl) (pv 2))))))
      (pss_one (ps_ret (pv 0)))))), ?_⟩
    refine ⟨_, rfl, _, rfl, _, rfl, _, rfl, ?_⟩
    refine while_by (fun σ H' => H' = H ∧ ∃ (x y : Int) (o : Option V), σ = [some (.int x), some (.int y), o] ∧ 0 ≤ x ∧ 0 ≤ y ∧ Int.gcd x y = Int.gcd a b)
      (fun σ _ => match σ with | [_, some (.int y), _] => y.toNat | _ => 0) ⟨rfl, _, _, none, rfl, abs_nn a, abs_nn b, gcd_start⟩ ?_ ?_
    · rintro σ H' ⟨rfl, x, y, o, rfl, hx, hy, hg⟩
      refine ⟨_, rfl, rfl, _, rfl, ?_⟩
      refine iteBB (fun hc => ?_) (fun hc => ?_)
      rotate_left
      · have h0 : y = 0 := by simpa using hc
        subst h0
        refine ⟨_, rfl, ?_⟩
        rw [gcd_end hx hg]
        exact k
      · have h0 : ¬ y = 0 := by simpa using hc
        refine ⟨_, rfl, _, rfl, _, _, rfl, rfl, (by show (0 : Int) < y; omega), _, rfl, _, rfl, ⟨rfl, _, _, _, rfl, hy, Int.emod_nonneg _ h0, ?_⟩, ?_⟩
        · rw [← hg, g_step]
        · show (x % y).toNat < y.toNat
          have := Int.emod_lt_of_pos x (show 0 < y by omega)
          omega
    · rintro σ H' Q1 Q2 hq ⟨v, e, h1, b, e2, h2⟩
      exact ⟨v, e, h1, b, e2, hq _ _ h2⟩
theorem ok_fraction {f fG : Addr} {fd fdG : FuncData} (A : FnAt K mg "fraction" s_fraction ["top", "bottom"] f fd) (A_greatest_divisor : FnAt K mg "greatest_divisor" s_greatest_divisor ["one", "other"] fG fdG) (T : Tb mg) : FnOk P w K mg base CX0 2 f fd ["top", "bottom"] sp_frac := by
  have G_greatest_divisor : FnOk P w K mg base CX0 1 fG fdG _ sp_gcd := ok_greatest_divisor A_greatest_divisor T
  refine A.F.ok (k := 1) sc_fraction (fun vs H Q E h => ?_) (fun cdv Ar outer s H vs Q E hr h => ?_)
  · obtain ⟨t, b, rfl, _⟩ := h
    rfl
  · obtain ⟨t, b, rfl, hb, sb, k⟩ := h
    refine ⟨_, (pss_cons (ps_if (pt_cmpR op_eq (pv 1) pe_int (nomark _)) pss_no pss_nil)
      (pss_cons (ps_set (i := 2) sc_fraction.nd rfl (Or.inl rfl) (pe_call G_greatest_divisor (hr.mono (by decide)) rfl A_greatest_divisor.m A_greatest_divisor.F.kp A_greatest_divisor.b .nil pass0 (pa_cons (pv 0) (pa_cons (pv 1) pa_nil))))
      (pss_cons (ps_if (pt_cmpR op_lt (pv 1) pe_int (nomark _)) (pss_one (ps_set (i := 2) sc_fraction.nd rfl (Or.inl rfl) (pe_un un_neg (pv 2)))) pss_nil)
      (pss_one (ps_ret (pe_tup (pa_cons (pe_op op_fdivP (pv 0) (pv 2)) (pa_cons (pe_op op_fdivP (pv 1) (pv 2)) pa_nil)))))))), ?_⟩
    refine ⟨_, rfl, rfl, _, rfl, iteBB (fun hc => absurd (show b = 0 by simpa using hc) (by omega)) (fun _ => ?_)⟩
    refine ⟨_, rfl, _, rfl, t, b, rfl, ?_⟩
    have gp : 0 < g t b := g_pos (by omega)
    have cd : ∀ x, CDivP x (g t b) := fun x => ⟨gp, (sb.le (abs_g_le (by omega))).log⟩
    refine ⟨_, rfl, _, _, rfl, rfl, _, rfl, iteBB (fun hn => absurd (show b < 0 by simpa using hn) (by omega)) (fun _ => ?_)⟩
    refine ⟨_, rfl, _, rfl, _, _, rfl, rfl, cd _, _, rfl, _, rfl, _, _, rfl, rfl, cd _, two_le, fun r hr => ?_⟩
    refine k r _ (.upd hr) ?_
    rw [upd_same]
    rfl
theorem ok_weights_of {f : Addr} {fd : FuncData} (A : FnAt K mg "weights_of" s_weights_of ["draw"] f fd) : FnOk P w K mg base CX0 1 f fd ["draw"] (sp_ws K) := by
  refine A.F.ok sc_weights_of (fun vs H Q E h => ?_) (fun cdv Ar outer s H vs Q E hr h => ?_)
  · obtain ⟨a, ds, rfl, _⟩ := h
    rfl
  · obtain ⟨a, ds, rfl, la, hl, k⟩ := h
    refine ⟨_, (pss_one (ps_ret (pe_comp rfl (Nc := ["number", "weight"]) (caps0 rfl (by decide +kernel) (by decide +kernel) (by decide +kernel)) (pi_list (pv 0)) (fun _ _ _ _ => by exact (pg_tupK (K := K) (n := 2) rfl rfl (pgs_cons (pg_name (i := 0) (show List.Nodup (["number", "weight"] : List Str) by decide +kernel) rfl (Or.inl rfl)) (pgs_cons (pg_name (i := 1) (show List.Nodup (["number", "weight"] : List Str) by decide +kernel) rfl (Or.inl rfl)) pgs_nil)))) (fun _ _ _ _ => pts_nil) (fun _ _ _ _ => (pv 1))))), ?_⟩
    obtain ⟨us, eu, du⟩ := la
    have lu := du.length
    rw [List.length_map] at lu
    refine ⟨_, rfl, a, rfl, ⟨_, SqL.of eu⟩, fun D hD => ?_⟩
    refine comp_list (K := K) (a := a) (D := D) (xs := us) (fun i σ ys H' => (∃ o1 o2, σ = [o1, o2]) ∧ Same H H' ∧ H' D = some (.lst ys) ∧ ys = ((wts ds).take i).map V.int)
      ⟨⟨none, none, rfl⟩, .upd hD, upd_same, rfl⟩ ?_ ?_ ?_
    · rintro i σ ys H' hi ⟨_, S, eD, rfl⟩
      exact ⟨SqL.of (S _ _ eu), eD, Nat.lt_of_le_of_lt (show (((wts ds).take i).map V.int).length ≤ 100 by rw [List.length_map, List.length_take, List.length_map]; omega) (by decide)⟩
    · rintro i x σ ys H' hx ⟨⟨o1, o2, rfl⟩, S, eD, rfl⟩ N hN
      obtain ⟨d, ed, hxd⟩ := (du.same S).get' hx
      obtain ⟨p, ep, rfl⟩ := map_get ed
      obtain ⟨q, va, vb, rfl, g1, g2, g3⟩ := DatAt.pr (p := (.int p.1, .int p.2)) hxd
      rw [g3.int_eq] at g1
      refine ⟨q, _, rfl, g1, rfl, _, _, rfl, _, _, rfl, rfl, ?_⟩
      refine iteT (B := True) ?_
      refine ⟨_, rfl, eD, hN _ _ _ ⟨⟨_, _, rfl⟩, fun b o eb => ?_, upd_same, ?_⟩⟩
      · rw [upd_ne (ne_of_none eb hD)]
        exact S _ _ eb
      · rw [take_snoc' (show (wts ds)[i]? = some p.2 by rw [List.getElem?_map, ep]; rfl), List.map_append]
        rfl
    · rintro σ ys H' ⟨_, S, eD, rfl⟩
      rw [List.take_of_length_le (by rw [List.length_map]; omega)] at eD
      exact k D H' S hD eD
set_option maxHeartbeats 1000000 in
theorem ok_index_weights {f fW : Addr} {fd dW : FuncData} (A : FnAt K mg "index_weights" s_index_weights ["part", "draws", "heaviest"] f fd) (A_weights_of : FnAt K mg "weights_of" s_weights_of ["draw"] fW dW) (T : Tb mg) : FnOk P w K mg base CX0 2 f fd ["part", "draws", "heaviest"] (sp_ix K) := by
  have G_weights_of : FnOk P w K mg base CX0 1 fW dW _ (sp_ws K) := ok_weights_of A_weights_of
  refine A.F.ok (k := 1) sc_index_weights (fun vs H Q E h => ?_) (fun cdv Ar outer s H vs Q E hr h => ?_)
  · obtain ⟨r, l, DA, Fd, k, ch, ps, P, d, hs, rfl, _⟩ := h
    rfl
  · obtain ⟨r, l, DA, Fd, k, ch, ps, Pp, d, hs, rfl, sv, hl, ll, eps, hd, gd, hF, lch, hch, kk⟩ := h
    refine ⟨_, (pss_cons (ps_set (i := 3) sc_index_weights.nd rfl (Or.inr rfl) (pe_call G_weights_of (hr.mono (by decide)) rfl A_weights_of.m A_weights_of.F.kp A_weights_of.b .nil pass0 (pa_cons (pe_ix ix_list (pv 1) (pe_ix ix_tup (pv 0) pe_int (fun _ _ => rfl)) (fun _ _ => rfl)) pa_nil)))
      (pss_one (ps_ret (pe_comp rfl (Nc := ["weight", "child", "heaviest", "weights"]) (caps2 3 3 2 2 [(".0", .local), ("weight", .local), ("child", .local), ("max", .globalImplicit), ("heaviest", .cell), ("weights", .cell)] rfl rfl rfl (by decide +kernel) (by decide +kernel) rfl rfl (by decide) (by decide +kernel) rfl rfl rfl rfl rfl rfl rfl rfl) (pi_zip rfl T.zip_ (pa_cons (pv 3) (pa_cons (pe_ix ix_tup (pv 0) pe_int (fun _ _ => rfl)) pa_nil))) (fun _ _ _ _ => by exact (pg_tupK (K := K) (n := 2) rfl rfl (pgs_cons (pg_name (i := 0) (show List.Nodup (["weight", "child", "heaviest", "weights"] : List Str) by decide +kernel) rfl (Or.inl rfl)) (pgs_cons (pg_name (i := 1) (show List.Nodup (["weight", "child", "heaviest", "weights"] : List Str) by decide +kernel) rfl (Or.inl rfl)) pgs_nil)))) (fun _ _ _ _ => pts_nil) (fun _ _ _ _ => by exact (pe_op op_mulB (pe_op op_fdivP (pe_ix (ix_listK (K := K) rfl) (pv 2) (pv 1) (fun _ _ => rfl)) (pe_callB (call_maxLK (K := K) rfl rfl) (by rfl) T.max_ Boot.«max» (pa_cons (pv 3) pa_nil))) (pv 0))))))), ?_⟩
    obtain ⟨q, eq1, eq2⟩ : ∃ q, ps[k]? = some q ∧ q.2 = mI d := by
      have h1 : (ps.map (·.2))[k]? = some (mI d) := by rw [eps, List.getElem?_map, hd]; rfl
      obtain ⟨q, h2, h3⟩ := map_get h1
      exact ⟨q, h2, h3⟩
    have lq := ll.it q (List.mem_of_getElem? eq1)
    rw [eq2] at lq
    refine ⟨_, rfl, _, rfl, r, _, 1, nI k, rfl, rfl, sv, rfl, DA, _, (k : Int), .ref q.1, rfl, rfl, SqL.of ll.at_, atI_nat (by rw [List.getElem?_map, eq1]; rfl), q.1, d, rfl, lq, gd.l1, fun W H1 S1 hW eW => ?_⟩
    refine ⟨_, rfl, _, rfl, r, _, 2, .ref l, rfl, rfl, S1.tup sv, rfl, W, l, rfl, ⟨_, SqL.of eW⟩, ⟨_, SqL.of (S1 _ _ hl)⟩, fun D hD => ?_⟩
    have lm : min ((wts d).map V.int).length (ch.map nI).length = d.length := by rw [List.length_map, List.length_map, List.length_map, lch]; omega
    refine comp_zip (K := K) (a := W) (b := l) (D := D) (xs := (wts d).map V.int) (ys := ch.map nI) (fun i σ ys H' => (∃ o1 o2, σ = [o1, o2, some (.ref Fd), some (.ref W)]) ∧ Same H1 H' ∧ H' D = some (.lst ys) ∧ ys = ((vals hs d ch).take i).map V.int)
      ⟨⟨none, none, rfl⟩, .upd hD, upd_same, rfl⟩ ?_ ?_ ?_
    · rintro i σ ys H' hi ⟨_, S, eD, rfl⟩
      exact ⟨SqL.of (S _ _ eW), SqL.of (S _ _ (S1 _ _ hl)), eD, Nat.lt_of_le_of_lt (show (((vals hs d ch).take i).map V.int).length ≤ 100 by rw [List.length_map, List.length_take]; have := gd.l1; omega) (by decide)⟩
    · rintro i x y σ ys H' p hx hy ⟨⟨o1, o2, rfl⟩, S, eD, rfl⟩ hp N hN
      obtain ⟨wt, ew, rfl⟩ := map_get hx
      obtain ⟨c, ec, rfl⟩ := map_get hy
      have Sp := Same.upd (o := .tup [.int wt, nI c]) hp
      have ep : SqT K (upd H' p (.tup [.int wt, nI c])) p [.int wt, nI c] := SqT.of upd_same
      generalize upd H' p (.tup [.int wt, nI c]) = H2 at Sp ep
      have S2 := S.trans Sp
      have hc := hch c (List.mem_of_getElem? ec)
      have hwt := gd.w wt (List.mem_of_getElem? ew)
      have eg : hs[c]? = some (hs.getD c 0) := by rw [List.getD_eq_getElem?_getD, List.getElem?_eq_getElem hc]; rfl
      refine ⟨p, _, rfl, ep, rfl, _, _, rfl, _, _, rfl, rfl, ?_⟩
      refine iteT (B := True) ?_
      refine ⟨_, rfl, _, rfl, Fd, _, (c : Int), .int (hs.getD c 0), rfl, rfl, SqL.of (S2 _ _ (S1 _ _ hF)), atI_nat (by rw [List.getElem?_map, eg]; rfl), ?_⟩
      refine ⟨_, rfl, W, wts d, rfl, SqL.of (S2 _ _ eW), (by rw [List.length_map]; exact gd.l0), fun M hM hle => ?_⟩
      rw [mx_is gd.pos hM hle]
      have gm := gd.mx
      refine ⟨_, _, rfl, rfl, ⟨gm.1, log_small (by omega)⟩, _, rfl, _, _, rfl, rfl, small_mul (by omega), ?_⟩
      refine ⟨Sp _ _ eD, hN _ _ _ ⟨⟨_, _, rfl⟩, fun b o eb => ?_, upd_same, ?_⟩⟩
      · rw [upd_ne (ne_of_none eb hD)]
        exact S2 _ _ eb
      · rw [take_snoc' (show (vals hs d ch)[i]? = some (hs.getD c 0 / mx (wts d) * wt) from iz_at ew ec), List.map_append]
        rfl
    · rintro σ ys H' ⟨_, S, eD, rfl⟩
      rw [List.take_of_length_le (by rw [lm]; unfold vals; rw [List.length_zipWith, List.length_map, lch]; omega)] at eD
      exact kk D H' (S1.trans S) eD
end
end K43
namespace K43
open PySem L2 FW PyProof.Rows M44
/-- a listed part; the list of its children is not the one at Z -/
inductive PrtAt (K : PySem.W.Frag) (Z : Addr) (H : Hp) : V → Prt → Prop
  | no (r : Addr) (s : SqT K H r [.str "leaf", .non]) : PrtAt K Z H (.ref r) .no
  | lf (r : Addr) (u : V) (hu : u ≠ .non) (hd : ∃ o, Oc o ∧ DatAt K H u o) (s : SqT K H r [.str "leaf", u]) : PrtAt K Z H (.ref r) .lf
  | ask (r l : Addr) (k : Nat) (ch : List Nat) (s : SqT K H r [.str "ask", nI k, .ref l]) (hl : H l = some (.lst (ch.map nI))) (ne : l ≠ Z) : PrtAt K Z H (.ref r) (.ask k ch)
theorem PrtAt.same {K : PySem.W.Frag} {Z : Addr} {H H' : Hp} {v : V} {p : Prt} (h : PrtAt K Z H v p) (e : Same H H') : PrtAt K Z H' v p := by
  cases h with
  | no r s => exact .no r (e.tup s)
  | lf r u hu hd s => exact .lf r u hu (hd.imp fun o h => ⟨h.1, h.2.same e⟩) (e.tup s)
  | ask r l k ch s hl ne => exact .ask r l k ch (e.tup s) (e _ _ hl) ne
theorem PrtAt.push {K : PySem.W.Frag} {Z : Addr} {H : Hp} {v : V} {p : Prt} {xs ys : List V} (h : PrtAt K Z H v p) (e : H Z = some (.lst xs)) : PrtAt K Z (upd H Z (.lst ys)) v p := by
  cases h with
  | no r s => exact .no r (sqT_upd e s)
  | lf r u hu hd s => exact .lf r u hu (hd.imp fun o h => ⟨h.1, h.2.updL e⟩) (sqT_upd e s)
  | ask r l k ch s hl ne => exact .ask r l k ch (sqT_upd e s) (by rw [upd_ne ne]; exact hl) ne
theorem PrtAt.look {K : PySem.W.Frag} {Z : Addr} {H : Hp} {v : V} {p : Prt} (h : PrtAt K Z H v p) (L : Nat) : ∃ r, v = .ref r ∧ ((∃ u, SqT K H r [.str "leaf", u] ∧ site L p = L) ∨ ∃ l, SqT K H r [.str "ask", nI (site L p), .ref l]) := by
  cases h with
  | no r s => exact ⟨r, rfl, .inl ⟨_, s, rfl⟩⟩
  | lf r u hu hd s => exact ⟨r, rfl, .inl ⟨u, s, rfl⟩⟩
  | ask r l k ch s hl ne => exact ⟨r, rfl, .inr ⟨l, s⟩⟩
structure PrsAt (K : PySem.W.Frag) (H : Hp) (A : Addr) (vs : List V) (ps : List Prt) : Prop where
  a : H A = some (.lst vs)
  l : vs.length = ps.length
  p : ∀ (i : Nat) (v : V) (p : Prt), vs[i]? = some v → ps[i]? = some p → PrtAt K A H v p
theorem PrsAt.same {K : PySem.W.Frag} {H H' : Hp} {A : Addr} {vs : List V} {ps : List Prt} (h : PrsAt K H A vs ps) (e : Same H H') : PrsAt K H' A vs ps := ⟨e _ _ h.a, h.l, fun i v p e1 e2 => (h.p i v p e1 e2).same e⟩
theorem PrsAt.at {K : PySem.W.Frag} {H : Hp} {A : Addr} {vs : List V} {ps : List Prt} {i : Nat} {v : V} (h : PrsAt K H A vs ps) (e : vs[i]? = some v) : ∃ p, ps[i]? = some p ∧ PrtAt K A H v p := by
  have hi := (List.getElem?_eq_some_iff.mp e).1
  rw [h.l] at hi
  exact ⟨ps[i], List.getElem?_eq_getElem hi, h.p i v _ e (List.getElem?_eq_getElem hi)⟩
abbrev Dw (P : List (List (Int × Int))) : List (List Int) := P.map fun d => wts d
/-- the draws at work -/
structure DrsAt (K : PySem.W.Frag) (H : Hp) (DA : Addr) (ps : List (Addr × List Dt)) (P : List (List (Int × Int))) : Prop where
  ll : LLM K H DA ps
  e : ps.map (·.2) = P.map mI
  g : ∀ d ∈ P, Gd d
  l : P.length ≤ 24
theorem DrsAt.same {K : PySem.W.Frag} {H H' : Hp} {DA : Addr} {ps : List (Addr × List Dt)} {P : List (List (Int × Int))} (h : DrsAt K H DA ps P) (e : Same H H') : DrsAt K H' DA ps P := ⟨h.ll.same e, h.e, h.g, h.l⟩
theorem DrsAt.len {K : PySem.W.Frag} {H : Hp} {DA : Addr} {ps : List (Addr × List Dt)} {P : List (List (Int × Int))} (h : DrsAt K H DA ps P) : (ps.map fun p => V.ref p.1).length = P.length := by
  have := congrArg List.length h.e
  rw [List.length_map, List.length_map] at this
  rw [List.length_map, this]
theorem DrsAt.at {K : PySem.W.Frag} {H : Hp} {DA : Addr} {ps : List (Addr × List Dt)} {P : List (List (Int × Int))} {k : Nat} {d : List (Int × Int)} (h : DrsAt K H DA ps P) (hd : P[k]? = some d) : ∃ q, ps[k]? = some q ∧ LsM K H q.1 (mI d) ∧ Gd d ∧ (Dw P)[k]? = some (wts d) := by
  have h1 : (ps.map (·.2))[k]? = some (mI d) := by rw [h.e, List.getElem?_map, hd]; rfl
  obtain ⟨q, h2, h3⟩ := map_get h1
  have lq := h.ll.it q (List.mem_of_getElem? h2)
  rw [h3] at lq
  exact ⟨q, h2, lq, h.g d (List.mem_of_getElem? hd), by rw [List.getElem?_map, hd]; rfl⟩
theorem DrsAt.of {K : PySem.W.Frag} {H : Hp} {DA : Addr} {ps : List (Addr × List Dt)} {P : List (List (Int × Int))} {i : Nat} {x : V} (h : DrsAt K H DA ps P) (hx : (ps.map fun p => V.ref p.1)[i]? = some x) : ∃ q d, x = .ref q ∧ P[i]? = some d ∧ LsM K H q (mI d) ∧ Gd d ∧ (Dw P)[i]? = some (wts d) := by
  have hi := (List.getElem?_eq_some_iff.mp hx).1
  rw [h.len] at hi
  obtain ⟨q, h1, h2, h3, h4⟩ := h.at (List.getElem?_eq_getElem hi)
  obtain ⟨q', h5, h6⟩ := map_get hx
  rw [h1] at h5
  cases h5
  exact ⟨q.1, _, h6.symm, List.getElem?_eq_getElem hi, h2, h3, h4⟩
theorem DrsAt.good {K : PySem.W.Frag} {H : Hp} {DA : Addr} {ps : List (Addr × List Dt)} {P : List (List (Int × Int))} (h : DrsAt K H DA ps P) : Good (Dw P) := fun d hd => by
  obtain ⟨p, hp, rfl⟩ := List.mem_map.mp hd
  exact ⟨(h.g p hp).ne, (h.g p hp).pos⟩
theorem DrsAt.sums {K : PySem.W.Frag} {H : Hp} {DA : Addr} {ps : List (Addr × List Dt)} {P : List (List (Int × Int))} (h : DrsAt K H DA ps P) : ∀ d ∈ Dw P, d.sum ≤ 6000000 := fun d hd => by
  obtain ⟨p, hp, rfl⟩ := List.mem_map.mp hd
  exact (h.g p hp).sm.2
theorem dw_len (P : List (List (Int × Int))) : (Dw P).length = P.length := List.length_map ..
/-- parts as they may be handed in -/
def Gp (P : List (List (Int × Int))) (ps : List Prt) : Prop := ∀ (i k : Nat) (ch : List Nat), ps[i]? = some (.ask k ch) → ∃ d, P[k]? = some d ∧ ch.length = d.length ∧ ∀ c ∈ ch, c < i ∧ ∃ p', ps[c]? = some p' ∧ k < site P.length p'
/-- something that is no list and no tuple stands there -/
def Odd (H : Hp) (a : Addr) : Prop := ∃ u, H a = some u ∧ (∀ vs, u ≠ .tup vs) ∧ (∀ q v, u ≠ .frz q v) ∧ ∀ xs, u ≠ .lst xs
theorem Odd.tbl {H : Hp} {a : Addr} {ps : Array Value} (h : H a = some (.tbl ps)) : Odd H a := ⟨_, h, (fun _ z => nomatch z), (fun _ _ z => nomatch z), (fun _ z => nomatch z)⟩
theorem Odd.ob {H : Hp} {a : Addr} {o : Obj} (h : H a = some (ObO a o)) : Odd H a := ⟨_, h, (fun _ z => nomatch z), (fun _ _ z => nomatch z), (fun _ z => nomatch z)⟩
theorem Odd.nt {H : Hp} {a : Addr} (h : Odd H a) : NT H a := fun o e => by
  obtain ⟨u, h1, h2, h3, h4⟩ := h
  rw [h1] at e
  cases e
  exact ⟨h2, fun q vs => h3 q _⟩
theorem Odd.ne {H : Hp} {a b : Addr} {xs : List V} (h : Odd H a) (e : H b = some (.lst xs)) : b ≠ a := fun z => by
  obtain ⟨u, h1, h2, h3, h4⟩ := h
  rw [z, h1] at e
  cases e
  exact h4 _ rfl
theorem LLM.odd {K : PySem.W.Frag} {H H' : Hp} {a b : Addr} {ps : List (Addr × List Dt)} (h : LLM K H b ps) (o : Odd H a) (e : BtA a H H') : LLM K H' b ps := h.but o.nt e (o.ne h.at_) fun p hp => by
  obtain ⟨us, e1, _⟩ := h.it p hp
  exact o.ne e1
theorem PrtAt.odd {K : PySem.W.Frag} {Z a : Addr} {H H' : Hp} {v : V} {p : Prt} (h : PrtAt K Z H v p) (o : Odd H a) (e : BtA a H H') : PrtAt K Z H' v p := by
  cases h with
  | no r s => exact .no r (sqT_but o.nt e s)
  | lf r u hu hd s => exact .lf r u hu (hd.imp fun d h => ⟨h.1, h.2.but o.nt e⟩) (sqT_but o.nt e s)
  | ask r l k ch s hl ne => exact .ask r l k ch (sqT_but o.nt e s) (e _ _ (o.ne hl) hl) ne
theorem PrsAt.odd {K : PySem.W.Frag} {H H' : Hp} {A a : Addr} {vs : List V} {ps : List Prt} (h : PrsAt K H A vs ps) (o : Odd H a) (e : BtA a H H') : PrsAt K H' A vs ps := ⟨e _ _ (o.ne h.a) h.a, h.l, fun i v p e1 e2 => (h.p i v p e1 e2).odd o e⟩
theorem DrsAt.odd {K : PySem.W.Frag} {H H' : Hp} {DA a : Addr} {ps : List (Addr × List Dt)} {P : List (List (Int × Int))} (h : DrsAt K H DA ps P) (o : Odd H a) (e : BtA a H H') : DrsAt K H' DA ps P := ⟨LLM.odd h.ll o e, h.e, h.g, h.l⟩
/-- what the function handed to from_below promises -/
def spHow (K : PySem.W.Frag) (Fx : Hp → Prop) (DA : Addr) (ps : List (Addr × List Dt)) (Pd : List (List (Int × Int))) : List V → Hp → VK → Prop := fun vs H Q => Fx H ∧ ∃ (r l Fd : Addr) (k : Nat) (ch : List Nat) (d : List (Int × Int)) (hs : List Int), vs = [.ref r, .ref Fd] ∧ SqT K H r [.str "ask", nI k, .ref l] ∧ H l = some (.lst (ch.map nI)) ∧
  LLM K H DA ps ∧ ps.map (·.2) = Pd.map mI ∧ Pd[k]? = some d ∧ Gd d ∧ H Fd = some (.lst (hs.map V.int)) ∧ ch.length = d.length ∧ (∀ c ∈ ch, c < hs.length) ∧ ∀ M H', Same H H' → M ∈ vals hs d ch → (∀ x ∈ vals hs d ch, x ≤ M) → Q (.int M) H'
def sp_fb (P : Program) (w : World) (K : PySem.W.Frag) (mg : Str → Option Value) (base : Heap) : Sp := fun vs H Q _ => ∃ (A f DA : Addr) (fo : Obj) (fd : FuncData) (Fx : Hp → Prop) (us : List V) (parts : List Prt) (ps : List (Addr × List Dt)) (Pd : List (List (Int × Int))), vs = [.ref A, .int (Pm (Dw Pd) Pd.length), .ref f] ∧
  LamOk P w K mg base 3 f (spHow K Fx DA ps Pd) ∧ fo.data = .func fd ∧ H f = some (ObO f fo) ∧ (∀ H1 H2, Fx H1 → Same H1 H2 → Fx H2) ∧ Fx H ∧ PrsAt K H A us parts ∧ DrsAt K H DA ps Pd ∧ Gp Pd parts ∧ parts.length ≤ 100 ∧
  ∀ Fd H' gs, Same H H' → H Fd = none → H' Fd = some (.lst ((hvs (Dw Pd) parts gs).map V.int)) → Gs (Dw Pd) parts gs → Q (.ref Fd) H'
abbrev pG : Pos := ⟨42, 35, 42, 93⟩
abbrev qG : Str := "row_weights.<locals>.<lambda>"
theorem TabSt.odd {Pt : Addr} {pos : Pos} {qual : Str} {H : Hp} (h : TabSt Pt pos qual H) : Odd H Pt := by
  rcases h with h | ⟨c', co, h1, h2, h3⟩
  · exact .tbl h
  · exact .tbl h1
theorem TabSt.lst {Pt a : Addr} {pos : Pos} {qual : Str} {H H' : Hp} {xs : List V} (h : TabSt Pt pos qual H) (e : H a = some (.lst xs)) (b : BtA a H H') : TabSt Pt pos qual H' := by
  rcases h with h | ⟨c', co, h1, h2, h3⟩
  · exact .inl (b _ _ (fun z => by rw [z, e] at h; cases h) h)
  · exact .inr ⟨c', co, b _ _ (fun z => by rw [z, e] at h1; cases h1) h1, b _ _ (fun z => by rw [z, e] at h2; cases h2) h2, h3⟩
def sp_rw (K : PySem.W.Frag) (Pt : Addr) : Sp := fun vs H Q _ => ∃ (A DA : Addr) (us : List V) (parts : List Prt) (ps : List (Addr × List Dt)) (P : List (List (Int × Int))), vs = [.ref A, .ref DA] ∧ TabSt Pt pG qG H ∧ PrsAt K H A us parts ∧ DrsAt K H DA ps P ∧ Gp P parts ∧ parts.length ≤ 100 ∧
  ∀ Fd H' gs, BtA Pt H H' → TabSt Pt pG qG H' → H Fd = none → H' Fd = some (.lst ((hvs (Dw P) parts gs).map V.int)) → Gs (Dw P) parts gs → Q (.ref Fd) H'
def sp_bot (K : PySem.W.Frag) : Sp := fun vs H Q _ => ∃ (DA : Addr) (ps : List (Addr × List Dt)) (P : List (List (Int × Int))), vs = [.ref DA] ∧ DrsAt K H DA ps P ∧ ∀ Bd H', Same H H' → H' Bd = some (.lst (((List.range (P.length + 1)).map fun k => Bt (Dw P) k).map V.int)) → Q (.ref Bd) H'
/-- the price of a part -/
structure Pr (D : List (List Int)) (p : Prt) (g : Int) (x : Int × Int) : Prop where
  low : Low x.1 x.2
  nn : 0 ≤ x.1
  e : x.1 * Ts D (site D.length p) = g * x.2
  b1 : x.1 ≤ 6000000 ^ 48
  b2 : x.2 ≤ 6000000 ^ 48
def sp_pr (K : PySem.W.Frag) (Pt : Addr) : Sp := fun vs H Q _ => ∃ (A DA : Addr) (us : List V) (parts : List Prt) (ps : List (Addr × List Dt)) (P : List (List (Int × Int))), vs = [.ref A, .ref DA] ∧ TabSt Pt pG qG H ∧ PrsAt K H A us parts ∧ DrsAt K H DA ps P ∧ Gp P parts ∧ parts.length ≤ 100 ∧
  ∀ (Fd : Addr) (H' : Hp) (gs : List Int) (zs : List V) (xs : List (Int × Int)), BtA Pt H H' → TabSt Pt pG qG H' → H Fd = none → H' Fd = some (.lst zs) → Gs (Dw P) parts gs → DatsAt K H' zs (xs.map pI) → xs.length = parts.length → (∀ (i : Nat) (p : Prt) (g : Int) (x : Int × Int), parts[i]? = some p → gs[i]? = some g → xs[i]? = some x → Pr (Dw P) p g x) → Q (.ref Fd) H'
theorem restG {G Q : Prop} (f : G → Q) (g : G) : Q := f g
theorem sm_of {x : Int} (h0 : 0 ≤ x) (h : x ≤ 6000000 ^ 48) : Sm x := by
  have : (6000000 : Int) ^ 48 < 2 ^ 2000 := by decide +kernel
  show x.natAbs < 2 ^ 2000
  have e : ((2 ^ 2000 : Nat) : Int) = 2 ^ 2000 := by decide +kernel
  have : ((x.natAbs : Nat) : Int) < ((2 ^ 2000 : Nat) : Int) := by rw [e]; omega
  omega
/-- what is known of the code that makes a lambda -/
structure Mks (K : PySem.W.Frag) (mg : Str → Option Value) (c Pt : Addr) : Prop where
  hhd : ∀ h : Heap, K.In h → PySem.W.CodeHd h c Pt
  hP : mainGlobals ≠ Pt
  hB : ∀ h : Heap, K.In h → h.BuiltinsAt mg Pt
theorem free_of {l : List (Str × NameKind)} {cs : List Str} (h : ∀ y ∈ l, y.2 = .free → y.1 ∈ cs) : ∀ x, l.lookup x = some .free → x ∈ cs := fun x e => h (x, .free) (PySem.mem_of_lookup e) rfl
theorem back_same {H H' : Hp} {cs : List Addr} (e : Same (hid H cs) H') : Same H (back H H' cs) := fun b o eb => by
  by_cases m : b ∈ cs
  · rw [back_in m]; exact eb
  · rw [back_out m]; exact e b o (by rw [hid_out m]; exact eb)
theorem CapsAt.same {H H' : Hp} : ∀ {cl : List (Str × Addr)} {vs : List V}, CapsAt H cl vs → Same H H' → CapsAt H' cl vs
  | _, _, .nil, _ => .nil
  | _, _, .cons e d r t, S => .cons (S _ _ e) d r (CapsAt.same t S)
/-- the function, its code and its cells -/
structure FxD (f c cell DA : Addr) (fo co : Obj) (H : Hp) : Prop where
  f : H f = some (ObO f fo)
  c : H c = some (ObO c co)
  caps : CapsAt H [("draws", cell)] [.ref DA]
theorem FxD.odd {f c cell DA : Addr} {fo co : Obj} {H : Hp} (h : FxD f c cell DA fo co H) : Odd H cell := by
  obtain ⟨o, e⟩ := h.caps.obs cell (List.mem_singleton.mpr rfl)
  exact .ob e
theorem hid_but {H : Hp} {c : Addr} : BtA c H (hid H [c]) := fun b o nb eb => by
  rw [hid_out (by simpa using nb)]
  exact eb
section
variable {P : Program} {w : World} {K : PySem.W.Frag} {mg : Str → Option Value} {base : Heap}
set_option maxHeartbeats 2000000 in
theorem ok_from_below {f : Addr} {fd : FuncData} (A : FnAt K mg "from_below" s_from_below ["parts", "at_leaf", "how"] f fd) : FnOk P w K mg base CX0 4 f fd ["parts", "at_leaf", "how"] (sp_fb P w K mg base) := by
  refine A.F.ok (k := 3) sc_from_below (fun vs H Q E h => ?_) (fun cdv Ar outer s H1 vs Q E hr h => ?_)
  · obtain ⟨A, f, DA, fo, fd, Fx, us, parts, ps, P, rfl, _⟩ := h
    rfl
  · obtain ⟨A, fh, DA, fo, fdh, Fx, us, parts, ps, P, rfl, L, hfd, hfo, fxs, fx, pa, da, gp, hl, k⟩ := h
    refine ⟨_, (pss_cons (ps_set (i := 3) sc_from_below.nd rfl (Or.inl rfl) (pe_lst pa_nil))
      (pss_cons (ps_for PassesOwn.never rfl (pi_list (pv 0)) (pg_name (i := 4) sc_from_below.nd rfl (Or.inl rfl)) (pss_one (ps_if (pt_cmpR op_eq (pe_ix ix_tup (pv 4) pe_int (fun _ _ => rfl)) pe_str (nomark _)) (pss_one (ps_expr (pe_bm PySem.F.plainAttrs_list PySem.F.slot_list_append PySem.F.type_list_append mt_append (pv 3) (pa_cons (pe_callV (i := 2) L hfd hr rfl (Or.inl rfl) (pa_cons (pv 4) (pa_cons (pv 3) pa_nil))) pa_nil)))) (pss_one (ps_expr (pe_bm PySem.F.plainAttrs_list PySem.F.slot_list_append PySem.F.type_list_append mt_append (pv 3) (pa_cons (pe_ifExp (pt_cmpR op_isN (pe_ix ix_tup (pv 4) pe_int (fun _ _ => rfl)) pe_non (nomark _)) pe_int (pv 1)) pa_nil)))))))
      (pss_one (ps_ret (pv 3))))), ?_⟩
    have gD := da.good
    have lus := pa.l
    refine ⟨Nat.zero_le _, fun Fd hFd => ?_⟩
    refine ⟨_, rfl, A, rfl, ⟨_, SqL.of ((Same.upd hFd) _ _ pa.a)⟩, for_list (K := K) (a := A) (xs := us) (fun i σ H' => Same H1 H' ∧ ∃ (gs : List Int) (o5 : Option V), Gs (Dw P) (parts.take i) gs ∧ H' Fd = some (.lst ((hvs (Dw P) (parts.take i) gs).map V.int)) ∧ σ = [some (.ref A), some (.int (Pm (Dw P) P.length)), some (.ref fh), some (.ref Fd), o5])
      ⟨.upd hFd, [], none, .nil, upd_same, rfl⟩ (fun i σ H' _ z => SqL.of (z.1 _ _ pa.a)) ?_ ?_⟩
    · rintro i x σ H' hx ⟨S, gs, o5, hg, eF, rfl⟩
      obtain ⟨p, hp, px⟩ := (pa.same S).at hx
      have lg := hg.len
      have hi := (List.getElem?_eq_some_iff.mp hx).1
      rw [List.length_take] at lg
      have lh : ((hvs (Dw P) (parts.take i) gs).map V.int).length < sizeLine := Nat.lt_of_le_of_lt (show ((hvs (Dw P) (parts.take i) gs).map V.int).length ≤ 100 by rw [List.length_map]; unfold hvs; rw [List.length_zipWith, List.length_take]; omega) (by decide)
      have lh2 : (hvs (Dw P) (parts.take i) gs).length = i := by unfold hvs; rw [List.length_zipWith, List.length_take]; omega
      have fin : ∀ {g : Int} {H2 : Hp}, Same H' H2 → Gv (Dw P) (parts.take i) gs p g → 0 ≤ g → Pm (Dw P) (site (Dw P).length p) * g ≤ Pm (Dw P) (Dw P).length → Same H1 (upd H2 Fd (.lst ((hvs (Dw P) (parts.take i) gs).map V.int ++ [.int (Pm (Dw P) (site (Dw P).length p) * g)]))) ∧ ∃ (gs' : List Int) (o5' : Option V), Gs (Dw P) (parts.take (i + 1)) gs' ∧ (upd H2 Fd (.lst ((hvs (Dw P) (parts.take i) gs).map V.int ++ [.int (Pm (Dw P) (site (Dw P).length p) * g)]))) Fd = some (.lst ((hvs (Dw P) (parts.take (i + 1)) gs').map V.int)) ∧ [some (V.ref A), some (V.int (Pm (Dw P) P.length)), some (V.ref fh), some (V.ref Fd), some x] = [some (.ref A), some (.int (Pm (Dw P) P.length)), some (.ref fh), some (.ref Fd), o5'] := fun {g H2} S2 v h0 h1 => by
        refine ⟨fun b o eb => ?_, gs ++ [g], some x, ?_, ?_, rfl⟩
        · rw [upd_ne (ne_of_none eb hFd)]
          exact S2 _ _ (S _ _ eb)
        · rw [take_snoc' hp]
          exact .snoc _ _ p g hg v h0 h1
        · rw [upd_same, take_snoc' hp, hvs_snoc p g (by rw [List.length_take]; omega), List.map_append]
          rfl
      cases px with
      | no r sv =>
        refine ⟨_, rfl, r, _, 0, .str "leaf", rfl, rfl, sv, rfl, rfl, _, rfl, iteBB (fun hc => absurd hc (by decide +kernel)) (fun _ => ?_)⟩
        refine ⟨_, rfl, .inl ⟨rfl, _, SqL.of eF⟩, _, rfl, r, _, 1, .non, rfl, rfl, sv, rfl, rfl, _, rfl, iteT ?_⟩
        refine ⟨Fd, _, _, rfl, rfl, eF, lh, ?_⟩
        have := fin (.refl _) .no (Int.le_refl 0) (by rw [Int.mul_zero]; exact Int.le_of_lt (Pm_pos gD _))
        rw [Int.mul_zero] at this
        exact this
      | lf r u hu hd sv =>
        refine ⟨_, rfl, r, _, 0, .str "leaf", rfl, rfl, sv, rfl, rfl, _, rfl, iteBB (fun hc => absurd hc (by decide +kernel)) (fun _ => ?_)⟩
        refine ⟨_, rfl, .inl ⟨rfl, _, SqL.of eF⟩, _, rfl, r, _, 1, u, rfl, rfl, sv, rfl, rfl, _, rfl, ?_⟩
        refine iteBB (fun hc => absurd (of_decide_eq_true hc) hu) (fun _ => ?_)
        refine ⟨_, rfl, Fd, _, _, rfl, rfl, eF, lh, ?_⟩
        have := fin (.refl _) .lf (by decide) (by rw [Int.mul_one]; exact Int.le_refl _)
        rw [Int.mul_one] at this
        rw [show site (Dw P).length Prt.lf = P.length from dw_len P] at this
        exact this
      | ask r l kk ch sv hlc ne =>
        obtain ⟨d, hd, lch, hch⟩ := gp i kk ch hp
        obtain ⟨q, _, _, gd, hD⟩ := (da.same S).at hd
        refine ⟨_, rfl, r, _, 0, .str "ask", rfl, rfl, sv, rfl, rfl, _, rfl, iteBB (fun _ => ?_) (fun hc => absurd hc (by decide +kernel))⟩
        refine ⟨_, rfl, .inl ⟨rfl, _, SqL.of eF⟩, rfl, _, rfl, _, rfl, S _ _ hfo, fxs _ _ fx S, r, l, Fd, kk, ch, d, hvs (Dw P) (parts.take i) gs, rfl, sv, hlc, (da.same S).ll, da.e, hd, gd, eF, lch, (fun c hc => by rw [lh2]; exact (hch c hc).1), fun M H2 S2 hM hle => ?_⟩
        refine ⟨Fd, _, _, rfl, rfl, S2 _ _ eF, lh, ?_⟩
        obtain ⟨g, eM, v, h0, h1⟩ := hg.ask gD hD (by rw [lch, List.length_map]) (fun c hc => by
          obtain ⟨lt, p', h2, h3⟩ := hch c hc
          rw [dw_len]
          exact ⟨p', by rw [List.getElem?_take, if_pos lt]; exact h2, h3⟩) hM hle
        rw [eM]
        exact fin S2 v h0 h1
    rintro σ H2 ⟨S2, gs, o5, hg, eF, rfl⟩
    rw [List.take_of_length_le (by omega)] at hg eF
    exact ⟨_, rfl, k Fd H2 gs S2 hFd eF hg⟩
abbrev scDr : List Str := ["part", "found", "draws"]
set_option maxHeartbeats 2000000 in
theorem ok_row_weights {f fW fI fb c Pt : Addr} {fd dW dI db : FuncData} (A : FnAt K mg "row_weights" s_row_weights ["parts", "draws"] f fd) (FC : FunC K "row_weights" s_row_weights f fd c) (M : Mks K mg c Pt) (A_weights_of : FnAt K mg "weights_of" s_weights_of ["draw"] fW dW) (A_index_weights : FnAt K mg "index_weights" s_index_weights ["part", "draws", "heaviest"] fI dI) (A_from_below : FnAt K mg "from_below" s_from_below ["parts", "at_leaf", "how"] fb db) (T : Tb mg) : FnOk P w K mg base CX0 5 f fd ["parts", "draws"] (sp_rw K Pt) := by
  have G_weights_of : FnOk P w K mg base CX0 1 fW dW _ (sp_ws K) := ok_weights_of A_weights_of
  have G_index_weights : FnOk P w K mg base CX0 2 fI dI _ (sp_ix K) := ok_index_weights A_index_weights A_weights_of T
  have G_from_below : FnOk P w K mg base CX0 4 fb db _ (sp_fb P w K mg base) := ok_from_below A_from_below
  refine FC.ok (k := 4) sc_row_weights (fun vs H Q E h => ?_) (fun Ar outer s H vs Q E hr h => ?_)
  · obtain ⟨A, DA, us, parts, ps, P, rfl, _⟩ := h
    rfl
  · obtain ⟨A, DA, us, parts, ps, Pd, rfl, hPt, pa, da, gp, hl, k⟩ := h
    refine ⟨_, (pss_cons (ps_set (i := 2) sc_row_weights.nd rfl (Or.inl rfl) pe_int)
      (pss_cons (ps_for PassesOwn.never rfl (pi_list (pv 1)) (pg_name (i := 3) sc_row_weights.nd rfl (Or.inl rfl)) (pss_one (ps_aug (i := 2) sc_row_weights.nd rfl (Or.inl rfl) (pe_callB (call_maxL rfl) (by rfl) T.max_ Boot.«max» (pa_cons (pe_call G_weights_of (hr.mono (by decide)) rfl A_weights_of.m A_weights_of.F.kp A_weights_of.b .nil pass0 (pa_cons (pv 3) pa_nil)) pa_nil)) ip_mul)))
      (pss_one (ps_ret (pe_callC (CX := CX0) (cl := [("draws", s.heap.objs.size + 1)]) (js := [1]) ⟨rfl, fun i p j e1 e2 => by
        cases i with
        | zero => cases e1; cases e2; exact ⟨rfl, rfl, rfl, rfl, rfl⟩
        | succ i => cases e1⟩ G_from_below hr rfl A_from_below.m A_from_below.F.kp A_from_below.b (pa_cons (pv 0) (pa_cons (pv 2) (pa_cons (pe_lam2 (qual := qG) (cl := [("draws", s.heap.objs.size + 1)]) (Pt := Pt) rfl rfl rfl rfl M.hhd M.hP M.hB) pa_nil)))))))), ?_⟩
    have gD := da.good
    refine ⟨_, rfl, DA, rfl, ⟨_, SqL.of da.ll.at_⟩, for_list (K := K) (a := DA) (xs := ps.map fun p => V.ref p.1) (fun i σ H' => Same H H' ∧ ∃ o3, σ = [some (.ref A), some (.ref DA), some (.int (Pm (Dw Pd) i)), o3])
      ⟨.refl _, none, rfl⟩ (fun i σ H' _ z => SqL.of (z.1 _ _ da.ll.at_)) ?_ ?_⟩
    · rintro i x σ H' hx ⟨S, o3, rfl⟩
      obtain ⟨q, d, rfl, hd, lq, gd, hD⟩ := (da.same S).of hx
      refine ⟨_, rfl, _, rfl, q, d, rfl, lq, gd.l1, fun W H1 S1 hW eW => ⟨W, wts d, rfl, SqL.of eW, (by rw [List.length_map]; exact gd.l0), fun M hM hle => ?_⟩⟩
      rw [mx_is gd.pos hM hle]
      have gm := gd.mx
      refine ⟨_, _, rfl, rfl, small_mul (by omega), S.trans S1, some (.ref q), ?_⟩
      rw [Pm_succ hD]
      rfl
    rintro σ H1 ⟨S1, o3, rfl⟩
    rw [da.len]
    replace pa := pa.same S1
    replace da := da.same S1
    refine ⟨_, rfl, _, rfl, hPt.same S1, fun fl c' co pm ctv H2 frf B2 eP2 ef ec hco => ?_⟩
    refine ⟨[.ref DA], rfl, fun i j v e1 e2 => ?_, fun H3 h3o h3n caps => ?_⟩
    · cases i with
      | zero => cases e1; cases e2; rfl
      | succ i => cases e1
    have hc2 : H2 (s.heap.objs.size + 1) = none := by
      cases z : H2 (s.heap.objs.size + 1) with
      | none => rfl
      | some u =>
        have := h3n _ (List.mem_singleton.mpr rfl)
        rw [z] at this
        cases this
    have S23 : Same H2 H3 := fun b o eb => by
      rw [h3o b (fun m => ne_of_none eb hc2 (List.mem_singleton.mp m))]
      exact eb
    have B13 : BtA Pt H1 H3 := B2.trans (.of S23)
    have t1 : Odd H1 Pt := TabSt.odd (hPt.same S1)
    have eP3 := S23 _ _ eP2
    refine ⟨A, fl, DA, _, _, FxD fl c' (s.heap.objs.size + 1) DA _ co, us, parts, ps, Pd, rfl, ?L, rfl, S23 _ _ ef, fun _ _ z S => ⟨S _ _ z.f, S _ _ z.c, CapsAt.same z.caps S⟩, ⟨S23 _ _ ef, S23 _ _ ec, caps⟩, pa.odd t1 B13, da.odd t1 B13, gp, hl, fun Rd H4 gs S4 hRd eR hg => ?_⟩
    case L =>
      intro Ar2 outer2 s2 Hh us2 vs2 Q2 hr2 e02 rv h
      obtain ⟨fx, r, l, Fd, kk, ch, d, hs, rfl, sv, hlc, ll, eps, hd, gd, hF, lch, hch, kk2⟩ := h
      have ob := fx.odd
      have Bh := hid_but (H := Hh) (c := s.heap.objs.size + 1)
      cases rv with
      | cons r1 rv =>
      cases rv with
      | cons r2 rv =>
      cases rv
      refine lam_run (N := ["part", "found", "draws"]) (ps := ["part", "found"]) (cvs := [.ref DA]) ⟨rfl, rfl, rfl, by decide +kernel, rfl, by decide +kernel, by decide +kernel, free_of (cs := ["draws"]) (by decide +kernel), (fun x m => by cases List.mem_singleton.mp (show x ∈ [("draws" : Str)] from m); rfl), List.pairwise_singleton ..⟩ hr2 e02 fx.f fx.c hco fx.caps rfl (.cons r1 (.cons r2 .nil)) rfl
        ⟨_, pe_callB (call_maxL rfl) (by rfl) T.max_ Boot.«max» (pa_cons (pe_call G_index_weights (hr2.deeper _) rfl A_index_weights.m A_index_weights.F.kp A_index_weights.b .nil pass0 (pa_cons (pv 0) (pa_cons (pv 2) (pa_cons (pv 1) pa_nil)))) pa_nil), ?_⟩
      refine ⟨_, rfl, _, rfl, _, rfl, r, l, DA, Fd, kk, ch, ps, Pd, d, hs, rfl, sqT_but ob.nt Bh sv, Bh _ _ (ob.ne hlc) hlc, LLM.odd ll ob Bh, eps, hd, gd, Bh _ _ (ob.ne hF) hF, lch, hch, fun D H' S eD => ?_⟩
      refine ⟨D, vals hs d ch, rfl, SqL.of eD, ?_, fun M hM hle _ => kk2 M _ (back_same S) hM hle⟩
      unfold vals
      rw [List.length_zipWith, List.length_map, lch]
      have := gd.l0
      omega
    have oc : ∃ o, H3 (s.heap.objs.size + 1) = some (ObO (s.heap.objs.size + 1) o) := caps.obs _ (List.mem_singleton.mpr rfl)
    obtain ⟨o, eo⟩ := oc
    refine ⟨fun c m => ?_, k Rd _ gs (fun b u nb eb => ?_) (.inr ⟨c', co, ?_, ?_, hco⟩) ?_ ?_ hg⟩
    · cases List.mem_singleton.mp m
      exact (S4 _ _ eo).trans eo.symm
    · have e1 := S1 _ _ eb
      have e2 := B2 b u nb e1
      show hid H4 [s.heap.objs.size + 1] b = _
      rw [hid_out fun m => ne_of_none e2 hc2 (List.mem_singleton.mp m)]
      exact S4 _ _ (S23 _ _ e2)
    · show hid H4 [s.heap.objs.size + 1] Pt = _
      rw [hid_out fun m => ne_of_none eP2 hc2 (List.mem_singleton.mp m)]
      exact S4 _ _ eP3
    · show hid H4 [s.heap.objs.size + 1] c' = _
      rw [hid_out fun m => ne_of_none ec hc2 (List.mem_singleton.mp m)]
      exact S4 _ _ (S23 _ _ ec)
    · cases z : H Rd with
      | none => rfl
      | some u =>
        exfalso
        by_cases nb : Rd = Pt
        · rw [nb, eP3] at hRd
          cases hRd
        · rw [B13 Rd u nb (S1 _ _ z)] at hRd
          cases hRd
    · show hid H4 [s.heap.objs.size + 1] Rd = _
      rw [hid_out fun m => ?_]
      · exact eR
      · rw [List.mem_singleton.mp m, eo] at hRd
        cases hRd
set_option maxHeartbeats 1000000 in
theorem ok_bottoms {f fW : Addr} {fd dW : FuncData} (A : FnAt K mg "bottoms" s_bottoms ["draws"] f fd) (A_weights_of : FnAt K mg "weights_of" s_weights_of ["draw"] fW dW) (T : Tb mg) : FnOk P w K mg base CX0 2 f fd ["draws"] (sp_bot K) := by
  have G_weights_of : FnOk P w K mg base CX0 1 fW dW _ (sp_ws K) := ok_weights_of A_weights_of
  refine A.F.ok (k := 1) sc_bottoms (fun vs H Q E h => ?_) (fun cdv Ar outer s H vs Q E hr h => ?_)
  · obtain ⟨DA, ps, P, rfl, _⟩ := h
    rfl
  · obtain ⟨DA, ps, P, rfl, da, k⟩ := h
    refine ⟨_, (pss_cons (ps_set (i := 1) sc_bottoms.nd rfl (Or.inl rfl) pe_int)
      (pss_cons (ps_for PassesOwn.never rfl (pi_list (pv 0)) (pg_name (i := 2) sc_bottoms.nd rfl (Or.inl rfl)) (pss_one (ps_aug (i := 1) sc_bottoms.nd rfl (Or.inl rfl) (pe_callB (call_sum rfl) (by rfl) T.sum_ Boot.«sum» (pa_cons (pe_call G_weights_of (hr.mono (by decide)) rfl A_weights_of.m A_weights_of.F.kp A_weights_of.b .nil pass0 (pa_cons (pv 2) pa_nil)) pa_nil)) ip_mul)))
      (pss_cons (ps_set (i := 3) sc_bottoms.nd rfl (Or.inl rfl) (pe_lst (pa_cons (pv 1) pa_nil)))
      (pss_cons (ps_for PassesOwn.never rfl (pi_list (pv 0)) (pg_name (i := 2) sc_bottoms.nd rfl (Or.inl rfl)) (pss_cons (ps_set (i := 4) sc_bottoms.nd rfl (Or.inl rfl) (pe_call G_weights_of (hr.mono (by decide)) rfl A_weights_of.m A_weights_of.F.kp A_weights_of.b .nil pass0 (pa_cons (pv 2) pa_nil)))
      (pss_cons (ps_set (i := 1) sc_bottoms.nd rfl (Or.inl rfl) (pe_op op_mulB (pe_op op_fdivP (pv 1) (pe_callB (call_sum rfl) (by rfl) T.sum_ Boot.«sum» (pa_cons (pv 4) pa_nil))) (pe_callB (call_maxL rfl) (by rfl) T.max_ Boot.«max» (pa_cons (pv 4) pa_nil))))
      (pss_one (ps_expr (pe_bm PySem.F.plainAttrs_list PySem.F.slot_list_append PySem.F.type_list_append mt_append (pv 3) (pa_cons (pv 1) pa_nil)))))))
      (pss_one (ps_ret (pv 3))))))), ?_⟩
    have gD := da.good
    refine ⟨_, rfl, DA, rfl, ⟨_, SqL.of da.ll.at_⟩, for_list (K := K) (a := DA) (xs := ps.map fun p => V.ref p.1) (fun i σ H' => Same H H' ∧ ∃ o2, σ = [some (.ref DA), some (.int (Ss (Dw P) i)), o2, none, none])
      ⟨.refl _, none, rfl⟩ (fun i σ H' _ z => SqL.of (z.1 _ _ da.ll.at_)) ?_ ?_⟩
    · rintro i x σ H' hx ⟨S, o2, rfl⟩
      obtain ⟨q, d, rfl, hd, lq, gd, hD⟩ := (da.same S).of hx
      refine ⟨_, rfl, _, rfl, q, d, rfl, lq, gd.l1, fun W H1 S1 hW eW => ⟨W, wts d, rfl, SqL.of eW, ?_⟩⟩
      have gm := gd.sm
      refine ⟨_, _, rfl, rfl, small_mul (by omega), S.trans S1, some (.ref q), ?_⟩
      rw [Ss_succ hD]
      rfl
    rintro σ H1 ⟨S1, o2, rfl⟩
    rw [da.len, Ss_end (by rw [dw_len]; exact Nat.le_refl _)]
    replace da := da.same S1
    have ld := da.len
    have hl24 := da.l
    refine ⟨_, rfl, (by show 1 ≤ sizeLine; decide), fun Bd hBd => ?_⟩
    refine ⟨_, rfl, DA, rfl, ⟨_, SqL.of ((Same.upd hBd) _ _ da.ll.at_)⟩, for_list (K := K) (a := DA) (xs := ps.map fun p => V.ref p.1) (fun i σ H' => Same H1 H' ∧ H' Bd = some (.lst (((List.range (i + 1)).map fun k => Bt (Dw P) k).map V.int)) ∧ ∃ o2 o4, σ = [some (.ref DA), some (.int (Bt (Dw P) i)), o2, some (.ref Bd), o4])
      ⟨.upd hBd, upd_same, _, none, rfl⟩ (fun i σ H' _ z => SqL.of (z.1 _ _ da.ll.at_)) ?_ ?_⟩
    · rintro i x σ H' hx ⟨S, eB, o2, o4, rfl⟩
      obtain ⟨q, d, rfl, hd, lq, gd, hD⟩ := (da.same S).of hx
      have hi := (List.getElem?_eq_some_iff.mp hx).1
      refine ⟨_, rfl, q, d, rfl, lq, gd.l1, fun W H2 S2 hW eW => ?_⟩
      have gs := gd.sm
      have gm := gd.mx
      refine ⟨_, rfl, _, rfl, W, wts d, rfl, SqL.of eW, _, _, rfl, rfl, ⟨gs.1, log_small (by omega)⟩, _, rfl, W, wts d, rfl, SqL.of eW, (by rw [List.length_map]; exact gd.l0), fun M hM hle => ?_⟩
      rw [mx_is gd.pos hM hle]
      refine ⟨_, _, rfl, rfl, small_mul (by omega), ?_⟩
      dsimp only
      rw [Bt_succ gD hD]
      refine ⟨_, rfl, .inl ⟨rfl, _, SqL.of (S2 _ _ eB)⟩, _, rfl, Bd, _, _, rfl, rfl, S2 _ _ eB, Nat.lt_of_le_of_lt (show (((List.range (i + 1)).map fun k => Bt (Dw P) k).map V.int).length ≤ 100 by rw [List.length_map, List.length_map, List.length_range]; omega) (by decide), fun b o eb => ?_, ?_, _, _, rfl⟩
      · rw [upd_ne (ne_of_none eb hBd)]
        exact S2 _ _ (S _ _ eb)
      · rw [upd_same, List.range_succ (n := i + 1), List.map_append, List.map_append]
        rfl
    · rintro σ H2 ⟨S2, eB, o2, o4, rfl⟩
      rw [ld] at eB
      exact ⟨_, rfl, k Bd H2 (S1.trans S2) eB⟩
set_option maxHeartbeats 1000000 in
theorem ok_prices {f fW fI fR fB fF fG fb c Pt : Addr} {fd dW dI dR dB dF dG db : FuncData} (A : FnAt K mg "prices" s_prices ["parts", "draws"] f fd) (FC : FunC K "row_weights" s_row_weights fR dR c) (M : Mks K mg c Pt) (A_from_below : FnAt K mg "from_below" s_from_below ["parts", "at_leaf", "how"] fb db) (A_weights_of : FnAt K mg "weights_of" s_weights_of ["draw"] fW dW) (A_index_weights : FnAt K mg "index_weights" s_index_weights ["part", "draws", "heaviest"] fI dI) (A_row_weights : FnAt K mg "row_weights" s_row_weights ["parts", "draws"] fR dR)
    (A_bottoms : FnAt K mg "bottoms" s_bottoms ["draws"] fB dB) (A_fraction : FnAt K mg "fraction" s_fraction ["top", "bottom"] fF dF) (A_greatest_divisor : FnAt K mg "greatest_divisor" s_greatest_divisor ["one", "other"] fG dG) (T : Tb mg) : FnOk P w K mg base CX0 6 f fd ["parts", "draws"] (sp_pr K Pt) := by
  have G_row_weights : FnOk P w K mg base CX0 5 fR dR _ (sp_rw K Pt) := ok_row_weights A_row_weights FC M A_weights_of A_index_weights A_from_below T
  have G_bottoms : FnOk P w K mg base CX0 2 fB dB _ (sp_bot K) := ok_bottoms A_bottoms A_weights_of T
  have G_fraction : FnOk P w K mg base CX0 2 fF dF _ sp_frac := ok_fraction A_fraction A_greatest_divisor T
  refine A.F.ok (k := 5) sc_prices (fun vs H Q E h => ?_) (fun cdv Ar outer s H vs Q E hr h => ?_)
  · obtain ⟨A, DA, us, parts, ps, P, rfl, _⟩ := h
    rfl
  · obtain ⟨A, DA, us, parts, ps, P, rfl, hPt, pa, da, gp, hl, k⟩ := h
    refine ⟨_, (pss_cons (ps_set (i := 2) sc_prices.nd rfl (Or.inl rfl) (pe_call G_bottoms (hr.mono (by decide)) rfl A_bottoms.m A_bottoms.F.kp A_bottoms.b .nil pass0 (pa_cons (pv 1) pa_nil)))
      (pss_cons (ps_set (i := 3) sc_prices.nd rfl (Or.inl rfl) (pe_lst pa_nil))
      (pss_cons (ps_for PassesOwn.never rfl (pi_zip rfl T.zip_ (pa_cons (pv 0) (pa_cons (pe_call G_row_weights (hr.mono (by decide)) rfl A_row_weights.m A_row_weights.F.kp A_row_weights.b .nil pass0 (pa_cons (pv 0) (pa_cons (pv 1) pa_nil))) pa_nil))) (pg_tup rfl (pgs_cons (pg_name (i := 4) sc_prices.nd rfl (Or.inl rfl)) (pgs_cons (pg_name (i := 5) sc_prices.nd rfl (Or.inl rfl)) pgs_nil))) (pss_cons (ps_set (i := 6) sc_prices.nd rfl (Or.inl rfl) (pe_ifExp (pt_cmpR op_eq (pe_ix ix_tup (pv 4) pe_int (fun _ _ => rfl)) pe_str (nomark _)) (pe_ix ix_tup (pv 4) pe_int (fun _ _ => rfl)) (pe_callB call_len_seq (by rfl) T.len_ Boot.«len» (pa_cons (pv 1) pa_nil))))
      (pss_one (ps_expr (pe_bm PySem.F.plainAttrs_list PySem.F.slot_list_append PySem.F.type_list_append mt_append (pv 3) (pa_cons (pe_call G_fraction (hr.mono (by decide)) rfl A_fraction.m A_fraction.F.kp A_fraction.b .nil pass0 (pa_cons (pv 5) (pa_cons (pe_ix ix_list (pv 2) (pv 6) (fun _ _ => rfl)) pa_nil))) pa_nil))))))
      (pss_one (ps_ret (pv 3)))))), ?_⟩
    have gD := da.good
    have sD := da.sums
    have l24 := da.l
    refine ⟨_, rfl, DA, ps, P, rfl, da, fun Bd H1 S1 eB => ?_⟩
    refine ⟨Nat.zero_le _, fun Fd hFd => ?_⟩
    have S2 := Same.upd (o := .lst []) hFd
    have e2 : (upd H1 Fd (.lst [])) Fd = some (.lst []) := upd_same
    generalize upd H1 Fd (.lst []) = H2 at S2 e2
    have S02 := S1.trans S2
    refine ⟨_, rfl, _, rfl, _, rfl, A, DA, us, parts, ps, P, rfl, hPt.same S02, pa.same S02, da.same S02, gp, hl, fun Rd H3 gs S3 tb3 hRd eR hg => ?_⟩
    replace pa := pa.same S1
    replace da := da.same S1
    have hP1 := hPt.same S1
    have t1 : Odd H1 Pt := TabSt.odd hP1
    have t2 : Odd H2 Pt := TabSt.odd (hP1.same S2)
    have S13 := (BtA.of S2).trans S3
    have e3 := S3 _ _ (t2.ne e2) e2
    have nR : Rd ≠ Fd := (ne_of_none e2 hRd).symm
    have lg := hg.len
    have lus := pa.l
    have lh : (hvs (Dw P) parts gs).length = parts.length := by unfold hvs; rw [List.length_zipWith]; omega
    have lm : min us.length ((hvs (Dw P) parts gs).map V.int).length = parts.length := by rw [List.length_map]; omega
    have nn : ∀ k : Nat, 0 ≤ Bt (Dw P) k ∧ Bt (Dw P) k ≤ 6000000 ^ 48 := fun k => by
      refine ⟨Int.le_of_lt (Bt_pos gD k), ?_⟩
      have h1 := Pm_le (m := 6000000) (by decide) gD sD k
      have h2 := Ts_le (m := 6000000) (by decide) gD sD k
      have h3 : (6000000 : Int) ^ (Dw P).length ≤ 6000000 ^ 24 := pow_mono (by decide) (by rw [dw_len]; exact l24)
      have := Int.mul_le_mul (Int.le_trans h1 h3) (Int.le_trans h2 h3) (Int.le_of_lt (Ts_pos gD k)) (by decide +kernel)
      exact Int.le_trans this (by decide +kernel)
    refine ⟨A, Rd, rfl, ⟨_, SqL.of (S13 _ _ (t1.ne pa.a) pa.a)⟩, ⟨_, SqL.of eR⟩, for_zip (K := K) (a := A) (b := Rd) (xs := us) (ys := (hvs (Dw P) parts gs).map V.int) (fun i σ H' => BtA Fd H3 H' ∧ BtA Pt H1 H' ∧ ∃ (zs : List V) (xs : List (Int × Int)) (o4 o5 o6 : Option V), H' Fd = some (.lst zs) ∧ DatsAt K H' zs (xs.map pI) ∧ xs.length = i ∧ (∀ (j : Nat) (p : Prt) (g : Int) (x : Int × Int), parts[j]? = some p → gs[j]? = some g → xs[j]? = some x → Pr (Dw P) p g x) ∧ σ = [some (.ref A), some (.ref DA), some (.ref Bd), some (.ref Fd), o4, o5, o6])
      ⟨.refl, S13, [], [], none, none, none, e3, .nil, rfl, (fun j p g x _ _ h => by simp at h), rfl⟩ (fun i σ H' _ z => ?_) ?_ ?_⟩
    · exact ⟨SqL.of (z.2.1 _ _ (t1.ne pa.a) pa.a), SqL.of (z.1 _ _ nR eR)⟩
    · rintro i x y σ H' t hx hy ⟨B, S, zs, xs, o4, o5, o6, eF, dz, lx, hpr, rfl⟩ ht
      obtain ⟨h, eh, rfl⟩ := map_get hy
      obtain ⟨p, hp, px⟩ := (pa.odd t1 S).at hx
      obtain ⟨g, hgi, v, g0, g1⟩ := hg.at hp
      have eh2 := hvs_at (D := Dw P) hp hgi
      rw [eh] at eh2
      cases eh2
      have St := Same.upd (o := .tup [x, .int (Pm (Dw P) (site (Dw P).length p) * g)]) ht
      have et : SqT K (upd H' t (.tup [x, .int (Pm (Dw P) (site (Dw P).length p) * g)])) t [x, .int (Pm (Dw P) (site (Dw P).length p) * g)] := SqT.of upd_same
      generalize upd H' t (.tup [x, .int (Pm (Dw P) (site (Dw P).length p) * g)]) = H4 at St et
      have S4 := S.trans (.of St)
      have px4 := px.same St
      refine ⟨t, _, rfl, et, rfl, _, _, rfl, _, _, rfl, rfl, ?_⟩
      have hsite : site (Dw P).length p ≤ P.length := by
        cases p with
        | no => exact Nat.le_of_eq (dw_len P)
        | lf => exact Nat.le_of_eq (dw_len P)
        | ask kk ch =>
          obtain ⟨d, hd, _⟩ := gp i kk ch hp
          exact Nat.le_of_lt (List.getElem?_eq_some_iff.mp hd).1
      have go : ∀ {H5 : Hp}, Same H4 H5 → ∀ (r : Addr), H5 r = some (.tup [.int (low (Pm (Dw P) (site (Dw P).length p) * g) (Bt (Dw P) (site (Dw P).length p))).1, .int (low (Pm (Dw P) (site (Dw P).length p) * g) (Bt (Dw P) (site (Dw P).length p))).2]) → BtA Fd H3 (upd H5 Fd (.lst (zs ++ [.ref r]))) ∧ BtA Pt H1 (upd H5 Fd (.lst (zs ++ [.ref r]))) ∧ ∃ (zs' : List V) (xs' : List (Int × Int)), (upd H5 Fd (.lst (zs ++ [.ref r]))) Fd = some (.lst zs') ∧ DatsAt K (upd H5 Fd (.lst (zs ++ [.ref r]))) zs' (xs'.map pI) ∧ xs'.length = i + 1 ∧ (∀ (j : Nat) (p : Prt) (g : Int) (x : Int × Int), parts[j]? = some p → gs[j]? = some g → xs'[j]? = some x → Pr (Dw P) p g x) := fun {H5} S5 r er => by
        have S45 := St.trans S5
        have eF5 := S45 _ _ eF
        refine ⟨(B.trans (.of S45)).trans .upd, fun b o nb eb => ?_, zs ++ [.ref r], xs ++ [low (Pm (Dw P) (site (Dw P).length p) * g) (Bt (Dw P) (site (Dw P).length p))], upd_same, ?_, by rw [List.length_append, lx]; rfl, fun j p2 g2 x2 h1 h2 h3 => ?_⟩
        · rw [upd_ne (ne_of_none eb hFd)]
          exact S5 _ _ (S4 _ _ nb eb)
        · rw [List.map_append]
          exact ((dz.same S45).append (.cons (.tup (SqT.of er) (.cons (.int _) (.cons (.int _) .nil))) .nil)).updL eF5
        · by_cases hj : j < xs.length
          · rw [List.getElem?_append_left hj] at h3
            exact hpr j p2 g2 x2 h1 h2 h3
          · rw [List.getElem?_append_right (by omega)] at h3
            have hj2 : j - xs.length = 0 := by
              have := (List.getElem?_eq_some_iff.mp h3).1
              simp at this
              omega
            rw [hj2] at h3
            cases h3
            have : j = i := by omega
            subst this
            rw [hp] at h1
            rw [hgi] at h2
            cases h1
            cases h2
            have bp := Bt_pos gD (site (Dw P).length p)
            have hh0 : 0 ≤ Pm (Dw P) (site (Dw P).length p) * g := Int.mul_nonneg (Int.le_of_lt (Pm_pos gD _)) g0
            have hh1 : Pm (Dw P) (site (Dw P).length p) * g ≤ 6000000 ^ 48 := by
              refine Int.le_trans g1 (Int.le_trans (Pm_le (m := 6000000) (by decide) gD sD _) ?_)
              exact pow_mono (by decide) (by rw [dw_len]; omega)
            have la := low_abs (Pm (Dw P) (site (Dw P).length p) * g) (Bt (Dw P) (site (Dw P).length p))
            have lo := low_Low (t := Pm (Dw P) (site (Dw P).length p) * g) bp
            have le := low_eq (t := Pm (Dw P) (site (Dw P).length p) * g) (b := Bt (Dw P) (site (Dw P).length p))
            refine ⟨lo, ?_, lower (Pm_pos gD _) rfl rfl le, Int.le_trans (by have := la.1; omega) hh1, Int.le_trans (by have := la.2; omega) (nn (site (Dw P).length p)).2⟩
            by_cases z : 0 ≤ (low (Pm (Dw P) (site (Dw P).length p) * g) (Bt (Dw P) (site (Dw P).length p))).1
            · exact z
            · have h1 := Int.mul_neg_of_neg_of_pos (show (low (Pm (Dw P) (site (Dw P).length p) * g) (Bt (Dw P) (site (Dw P).length p))).1 < 0 by omega) bp
              have h2 := Int.mul_nonneg hh0 (Int.le_of_lt lo.pos)
              omega
      have lz := dz.length
      rw [List.length_map] at lz
      have hi := (List.getElem?_eq_some_iff.mp hp).1
      have lzs : zs.length < sizeLine := Nat.lt_of_le_of_lt (show zs.length ≤ 100 by omega) (by decide)
      have hB : (((List.range (P.length + 1)).map fun k => Bt (Dw P) k).map V.int)[site (Dw P).length p]? = some (.int (Bt (Dw P) (site (Dw P).length p))) := by
        rw [List.getElem?_map, List.getElem?_map, List.getElem?_range (by omega)]
        rfl
      have eF4 := St _ _ eF
      obtain ⟨rr, rfl, hk⟩ := px4.look (Dw P).length
      refine' restG (fun rest => ?_) ?_
      rotate_left
      · rcases hk with ⟨u, sv, es⟩ | ⟨l, sv⟩
        · refine ⟨_, rfl, rr, _, 0, .str "leaf", rfl, rfl, sv, rfl, rfl, _, rfl, iteBB (fun hc => absurd hc (by decide +kernel)) (fun _ => ?_)⟩
          refine ⟨_, rfl, DA, _, rfl, .inl (SqL.of (S4 _ _ (t1.ne da.ll.at_) da.ll.at_)), ?_⟩
          rw [show (ps.map fun p => V.ref p.1).length = site (Dw P).length p by rw [da.len, es, dw_len]]
          exact rest
        · refine ⟨_, rfl, rr, _, 0, .str "ask", rfl, rfl, sv, rfl, rfl, _, rfl, iteBB (fun _ => ?_) (fun hc => absurd hc (by decide +kernel))⟩
          exact ⟨_, rfl, rr, _, 1, _, rfl, rfl, sv, rfl, rest⟩
      · refine ⟨_, rfl, .inl ⟨rfl, _, SqL.of eF4⟩, _, rfl, _, rfl, _, rfl, Bd, _, ((site (Dw P).length p : Nat) : Int), _, rfl, rfl, SqL.of (S4 _ _ (t1.ne eB) eB), atI_nat hB, _, _, rfl, Bt_pos gD _, sm_of (nn _).1 (nn _).2, fun r H5 S5 er => ?_⟩
        refine ⟨Fd, _, _, rfl, rfl, S5 _ _ eF4, lzs, ?_⟩
        obtain ⟨z1, z2, zs', xs', z3, z4, z5, z6⟩ := go S5 r er
        exact ⟨z1, z2, zs', xs', _, _, _, z3, z4, z5, z6, rfl⟩
    · rintro σ H' ⟨B, S, zs, xs, o4, o5, o6, eF, dz, lx, hpr, rfl⟩
      rw [lm] at lx
      exact ⟨_, rfl, k Fd H' gs zs xs ((BtA.of S1).trans S) (TabSt.lst tb3 e3 B) (S1.free hFd) eF hg dz lx hpr⟩
end
end K43
namespace K43
open PySem L2 FW PyProof.Rows M44
section
variable {X : Cx}
theorem call_isiA : CallR X (.builtin "isinstance") (fun xs H Q => ∃ x n t b, xs = [x, .ty n] ∧ ((TyOf X.K H x (.type t) ∧ PySem.W.kitOne X.K (.type t) (.type n) = some b) ∨ (∃ a vs, x = .ref a ∧ SqT X.K H a vs ∧ PySem.W.kitOne X.K (.type "tuple") (.type n) = some b)) ∧ Q (.bl b) H) := by
  intro pins s σ H xs us Q I r h
  obtain ⟨x, n, t, b, e, hk, q⟩ := h
  rcases hk with ⟨ty, k⟩ | ⟨a, vs, rfl, sq, k⟩
  · exact call_isi pins s σ H xs us Q I r ⟨x, n, _, b, e, ty, k, q⟩
  · exact call_isiT pins s σ H xs us Q I r ⟨a, vs, n, b, e, sq, k, q⟩
def rIxA (K : PySem.W.Frag) : R2 := fun x y H Q => ∃ p xs i v, x = .ref p ∧ y = .int i ∧ (SqL K H p xs ∨ SqT K H p xs) ∧ atI xs i = some v ∧ Q v H
end
section
variable {K : PySem.W.Frag}
theorem kit_ib : PySem.W.kitOne K (.type "int") (.type "bool") = some false := by
  show PySem.W.kitCls K (.type "int") (.type "bool") = some false
  show (if PySem.W.kitMeta "bool" = true then PySem.W.subIn K (.type "int") (.type "bool") else none) = some false
  rw [if_pos (by decide +kernel)]
  show (fastBuiltinMro "int").map (·.contains (.type "bool")) = some false
  decide +kernel
theorem kit_it : PySem.W.kitOne K (.type "int") (.type "tuple") = some false := by
  show PySem.W.kitCls K (.type "int") (.type "tuple") = some false
  show (if PySem.W.kitMeta "tuple" = true then PySem.W.subIn K (.type "int") (.type "tuple") else none) = some false
  rw [if_pos (by decide +kernel)]
  show (fastBuiltinMro "int").map (·.contains (.type "tuple")) = some false
  decide +kernel
theorem kit_il : PySem.W.kitOne K (.type "int") (.type "list") = some false := by
  show PySem.W.kitCls K (.type "int") (.type "list") = some false
  show (if PySem.W.kitMeta "list" = true then PySem.W.subIn K (.type "int") (.type "list") else none) = some false
  rw [if_pos (by decide +kernel)]
  show (fastBuiltinMro "int").map (·.contains (.type "list")) = some false
  decide +kernel
theorem kit_tl : PySem.W.kitOne K (.type "tuple") (.type "list") = some false := by
  show PySem.W.kitCls K (.type "tuple") (.type "list") = some false
  show (if PySem.W.kitMeta "list" = true then PySem.W.subIn K (.type "tuple") (.type "list") else none) = some false
  rw [if_pos (by decide +kernel)]
  show (fastBuiltinMro "tuple").map (·.contains (.type "list")) = some false
  decide +kernel
end
theorem atI0 {xs : List V} {i : Nat} {x : V} (h : xs[i]? = some x) : atI xs (0 + (i : Int)) = some x := by
  rw [Int.zero_add]
  exact atI_nat h
def sp_cell (K : PySem.W.Frag) : Sp := fun vs H Q _ => ∃ (a : Addr) (ns : List Int) (k : Nat), vs = [.ref a, nI k] ∧ SqL K H a (ns.map V.int) ∧ ∀ c : Int, Q (.int c) H
def sp_mix : Sp := fun vs H Q _ => ∃ c k : Int, vs = [.int c, .int k] ∧ 0 ≤ k ∧ k ≤ 1000 ∧ ∀ m : Int, 0 ≤ m → m < 2147483587 → Q (.int m) H
def sp_whole : Sp := fun vs H Q _ => ∃ i, vs = [.int i] ∧ Q (.bl true) H
def sp_same0 : Sp := fun vs H Q _ => ∃ i : Int, vs = [.int i, .int i] ∧ Q (.bl true) H
def sp_same (K : PySem.W.Frag) : Sp := fun vs H Q _ => ∃ (r q : Addr) (a b : Int), vs = [.ref r, .ref q] ∧ SqT K H r [.int a, .int b] ∧ SqT K H q [.int a, .int b] ∧ Q (.bl true) H
def sp_ldiv : Sp := fun vs H Q _ => ∃ a b : Int, vs = [.int a, .int b] ∧ 0 ≤ a ∧ 0 ≤ b ∧ Q (.int (g a b)) H
def sp_share (K : PySem.W.Frag) : Sp := fun vs H Q _ => ∃ (r : Addr) (a b : Int), vs = [.ref r] ∧ SqT K H r [.int a, .int b] ∧ 0 ≤ a ∧ Low a b ∧ Q (.bl true) H
section
variable {P : Program} {w : World} {K : PySem.W.Frag} {mg : Str → Option Value} {base : Heap}
theorem ok_law_cell_at {f : Addr} {fd : FuncData} (A : FnAt K mg "_law_cell_at" s_law_cell_at ["_law_script", "_law_k"] f fd) (T : Tb mg) : FnOk P w K mg base CX0 1 f fd ["_law_script", "_law_k"] (sp_cell K) := by
  refine A.F.ok sc_law_cell_at (fun vs H Q E h => ?_) (fun cdv Ar outer s H vs Q E hr h => ?_)
  · obtain ⟨a, ns, k, rfl, _⟩ := h
    rfl
  · obtain ⟨a, ns, k, rfl, ha, q⟩ := h
    refine ⟨_, (pss_cons (ps_if (pt_cmpR op_lt (pv 1) (pe_callB call_len_seq (by rfl) T.len_ Boot.«len» (pa_cons (pv 0) pa_nil)) (nomark _)) (pss_one (ps_ret (pe_ix ix_list (pv 0) (pv 1) (fun _ _ => rfl)))) pss_nil)
      (pss_one (ps_ret pe_int))), ?_⟩
    refine ⟨_, rfl, _, rfl, a, _, rfl, .inl ha, _, _, rfl, rfl, _, rfl, iteBB (fun hc => ?_) (fun _ => q 0)⟩
    have hk : k < ns.length := by
      have := of_decide_eq_true hc
      rw [List.length_map] at this
      omega
    exact ⟨_, rfl, _, rfl, a, _, _, .int ns[k], rfl, rfl, ha, atI_nat (by simp [hk]), q _⟩
theorem ok_law_mix {f : Addr} {fd : FuncData} (A : FnAt K mg "_law_mix" s_law_mix ["_law_cell", "_law_k"] f fd) : FnOk P w K mg base CX0 1 f fd ["_law_cell", "_law_k"] sp_mix := by
  refine A.F.ok sc_law_mix (fun vs H Q E h => ?_) (fun cdv Ar outer s H vs Q E hr h => ?_)
  · obtain ⟨a, b, rfl, _⟩ := h
    rfl
  · obtain ⟨n, k, rfl, k0, k1, q⟩ := h
    refine ⟨_, (pss_cons (ps_set (i := 2) sc_law_mix.nd rfl (Or.inl rfl) (pe_op op_mod (pe_op op_mulB (pe_op op_add (pe_op op_add (pe_op op_add (pe_op op_mod (pv 0) pe_int) (pe_op op_mulB (pe_op op_mulB pe_int (pv 1)) (pv 1))) (pv 1)) pe_int) pe_int) pe_int))
      (pss_one (ps_ret (pe_op op_mod (pe_op op_mulB (pv 2) (pv 2)) pe_int)))), ?_⟩
    refine ⟨_, rfl, _, _, rfl, rfl, (by show (0 : Int) < 2147483647; decide), _, rfl, _, _, rfl, rfl, small_mul (by omega), _, rfl, _, _, rfl, rfl, small_mul (by omega), _, _, rfl, rfl, _, rfl, _, _, rfl, rfl, _, _, rfl, rfl, _, _, rfl, rfl, small_mul (by decide), _, _, rfl, rfl, (by show (0 : Int) < 2147483629; decide), ?_⟩
    dsimp only
    have m0 := Int.emod_nonneg ((n % 2147483647 + 7919 * k * k + k + 1) * 48271) (show (2147483629 : Int) ≠ 0 by decide)
    have m1 := Int.emod_lt_of_pos ((n % 2147483647 + 7919 * k * k + k + 1) * 48271) (show (0 : Int) < 2147483629 by decide)
    generalize (n % 2147483647 + 7919 * k * k + k + 1) * 48271 % 2147483629 = m at m0 m1
    refine ⟨_, rfl, _, rfl, _, _, rfl, rfl, small_mul (by omega), _, _, rfl, rfl, (by show (0 : Int) < 2147483587; decide), ?_⟩
    exact q _ (Int.emod_nonneg _ (by decide)) (Int.emod_lt_of_pos _ (by decide))
theorem ok_law_whole {f : Addr} {fd : FuncData} (A : FnAt K mg "_law_whole" s_law_whole ["_law_found"] f fd) (T : Tb mg) : FnOk P w K mg base CX0 1 f fd ["_law_found"] sp_whole := by
  refine A.F.ok sc_law_whole (fun vs H Q E h => ?_) (fun cdv Ar outer s H vs Q E hr h => ?_)
  · obtain ⟨a, rfl, _⟩ := h
    rfl
  · obtain ⟨i, rfl, k⟩ := h
    refine ⟨_, (pss_one (ps_ret (pe_and (pe_callB call_isiA (by rfl) T.isinstance_ Boot.«isinstance» (pa_cons (pv 0) (pa_cons (pe_bltn rfl T.int_ Boot.«int» (v := .ty "int") rfl) pa_nil))) (pe_one (pe_not (pe_callB call_isiA (by rfl) T.isinstance_ Boot.«isinstance» (pa_cons (pv 0) (pa_cons (pe_bltn rfl T.bool_ Boot.«bool» (v := .ty "bool") rfl) pa_nil)))))))), ?_⟩
    refine ⟨_, rfl, _, _, _, _, rfl, .inl ⟨.int i, rfl⟩, _, rfl, iteT ?_⟩
    exact ⟨_, rfl, _, _, _, _, rfl, .inl ⟨.int i, kit_ib⟩, _, rfl, k⟩
theorem ok_law_divisor {f : Addr} {fd : FuncData} (A : FnAt K mg "_law_divisor" s_law_divisor ["_law_one", "_law_other"] f fd) : FnOk P w K mg base CX0 1 f fd ["_law_one", "_law_other"] sp_ldiv := by
  refine A.F.ok sc_law_divisor (fun vs H Q E h => ?_) (fun cdv Ar outer s H vs Q E hr h => ?_)
  · obtain ⟨a, b, rfl, _⟩ := h
    rfl
  · obtain ⟨a, b, rfl, ha, hb, k⟩ := h
    refine ⟨_, (pss_cons (ps_while PassesOwn.never (pt_cmpR op_gt (pv 1) pe_int (nomark _)) (pss_one (ps_par (i := 0) (j := 1) rfl sc_law_divisor.nd rfl rfl (by decide) rfl rfl (pa_cons (pv 1) (pa_cons (pe_op op_mod (pv 0) (pv 1)) pa_nil)) (by rfl))))
      (pss_one (ps_ret (pv 0)))), ?_⟩
    refine while_by (fun σ H' => H' = H ∧ ∃ (x y : Int), σ = [some (.int x), some (.int y)] ∧ 0 ≤ x ∧ 0 ≤ y ∧ Int.gcd x y = Int.gcd a b)
      (fun σ _ => match σ with | [_, some (.int y)] => y.toNat | _ => 0) ⟨rfl, _, _, rfl, ha, hb, rfl⟩ ?_ ?_
    · rintro σ H' ⟨rfl, x, y, rfl, hx, hy, hg⟩
      refine ⟨_, rfl, _, _, rfl, rfl, _, rfl, ?_⟩
      refine iteBB (fun hc => ?_) (fun hc => ?_)
      rotate_left
      · have h0 : y = 0 := by
          have := of_decide_eq_false hc
          omega
        subst h0
        refine ⟨_, rfl, ?_⟩
        rw [gcd_end hx hg]
        exact k
      · have h0 : 0 < y := by simpa using hc
        refine ⟨_, rfl, _, rfl, _, rfl, _, _, rfl, rfl, (by show (0 : Int) < y; omega), _, _, rfl, ⟨rfl, _, _, rfl, hy, Int.emod_nonneg _ (by omega), ?_⟩, ?_⟩
        · rw [← hg, g_step]
        · show (x % y).toNat < y.toNat
          have := Int.emod_lt_of_pos x h0
          omega
    · rintro σ H' Q1 Q2 hq ⟨v, e, i, j, h1, h2, b, e2, h3⟩
      exact ⟨v, e, i, j, h1, h2, b, e2, hq _ _ h3⟩
theorem ok_law_is_share {f fW fD : Addr} {fd dW dD : FuncData} (A : FnAt K mg "_law_is_share" s_law_is_share ["_law_found"] f fd) (A_law_whole : FnAt K mg "_law_whole" s_law_whole ["_law_found"] fW dW) (A_law_divisor : FnAt K mg "_law_divisor" s_law_divisor ["_law_one", "_law_other"] fD dD) (T : Tb mg) : FnOk P w K mg base CX0 2 f fd ["_law_found"] (sp_share K) := by
  have G_law_whole : FnOk P w K mg base CX0 1 fW dW _ sp_whole := ok_law_whole A_law_whole T
  have G_law_divisor : FnOk P w K mg base CX0 1 fD dD _ sp_ldiv := ok_law_divisor A_law_divisor
  refine A.F.ok (k := 1) sc_law_is_share (fun vs H Q E h => ?_) (fun cdv Ar outer s H vs Q E hr h => ?_)
  · obtain ⟨r, a, b, rfl, _⟩ := h
    rfl
  · obtain ⟨r, a, b, rfl, sv, ha, lo, k⟩ := h
    refine ⟨_, (pss_cons (ps_if (PW.pt (pw_or (pt_not (pt_val (pe_callB call_isiA (by rfl) T.isinstance_ Boot.«isinstance» (pa_cons (pv 0) (pa_cons (pe_bltn rfl T.tuple_ Boot.«tuple» (v := .ty "tuple") rfl) pa_nil))))) (pw_or (pt_cmpR op_ne (pe_callB call_len_seq (by rfl) T.len_ Boot.«len» (pa_cons (pv 0) pa_nil)) pe_int (nomark _)) (pw_or (pt_not (pt_val (pe_call G_law_whole (hr.mono (by decide)) rfl A_law_whole.m A_law_whole.F.kp A_law_whole.b .nil pass0 (pa_cons (pe_ix ix_tup (pv 0) pe_int (fun _ _ => rfl)) pa_nil)))) (pw_or1 (pt_not (pt_val (pe_call G_law_whole (hr.mono (by decide)) rfl A_law_whole.m A_law_whole.F.kp A_law_whole.b .nil pass0 (pa_cons (pe_ix ix_tup (pv 0) pe_int (fun _ _ => rfl)) pa_nil))))))))) (pss_one (ps_ret pe_bl)) pss_nil)
      (pss_one (ps_ret (pe_and (pe_cmpR op_ge (pe_ix ix_tup (pv 0) pe_int (fun _ _ => rfl)) pe_int (nomark _)) (pe_and (pe_cmpR op_gt (pe_ix ix_tup (pv 0) pe_int (fun _ _ => rfl)) pe_int (nomark _)) (pe_one (pe_cmpR op_eq (pe_call G_law_divisor (hr.mono (by decide)) rfl A_law_divisor.m A_law_divisor.F.kp A_law_divisor.b .nil pass0 (pa_cons (pe_ix ix_tup (pv 0) pe_int (fun _ _ => rfl)) (pa_cons (pe_ix ix_tup (pv 0) pe_int (fun _ _ => rfl)) pa_nil))) pe_int (nomark _)))))))), ?_⟩
    refine ⟨_, rfl, _, _, "tuple", _, rfl, .inr ⟨r, _, rfl, sv, rfl⟩, _, rfl, iteF ?_⟩
    refine ⟨_, rfl, r, _, rfl, .inr sv, rfl, _, rfl, iteF ?_⟩
    refine ⟨_, rfl, r, _, 0, .int a, rfl, rfl, sv, rfl, a, rfl, _, rfl, iteF ?_⟩
    refine ⟨_, rfl, r, _, 1, .int b, rfl, rfl, sv, rfl, b, rfl, _, rfl, iteF ?_⟩
    refine ⟨_, rfl, r, _, 0, .int a, rfl, rfl, sv, rfl, _, _, rfl, rfl, _, rfl, iteBB (fun _ => ?_) (fun hc => absurd ha (of_decide_eq_false hc))⟩
    refine ⟨_, rfl, r, _, 1, .int b, rfl, rfl, sv, rfl, _, _, rfl, rfl, _, rfl, iteBB (fun _ => ?_) (fun hc => absurd lo.pos (of_decide_eq_false hc))⟩
    refine ⟨_, rfl, r, _, 0, .int a, rfl, rfl, sv, rfl, _, rfl, r, _, 1, .int b, rfl, rfl, sv, rfl, a, b, rfl, ha, Int.le_of_lt lo.pos, rfl, ?_⟩
    have e : g a b = 1 := by
      show ((Int.gcd a b : Nat) : Int) = 1
      rw [lo.cop]
      rfl
    dsimp only
    rw [e, decide_eq_true rfl]
    exact k
set_option maxHeartbeats 1000000 in
theorem ok_law_same0 {f fW : Addr} {fd dW : FuncData} (A_law_same : FnAt K mg "_law_same" s_law_same ["_law_found", "_law_due_here"] f fd) (A_law_whole : FnAt K mg "_law_whole" s_law_whole ["_law_found"] fW dW) (T : Tb mg) : FnOk P w K mg base CX0 2 f fd ["_law_found", "_law_due_here"] sp_same0 := by
  have G_law_whole : FnOk P w K mg base CX0 1 fW dW _ sp_whole := ok_law_whole A_law_whole T
  have G_law_same : FnOk P w K mg base CX0 1 f fd ["_law_found", "_law_due_here"] _ := FnOk.no
  refine A_law_same.F.ok (k := 1) sc_law_same (fun vs H Q E hh => ?_) (fun cdv Ar outer s H vs Q E hr hh => ?_)
  · obtain ⟨i, rfl, _⟩ := hh
    rfl
  · obtain ⟨i, rfl, k⟩ := hh
    refine ⟨_, (pss_cons (ps_if (PW.pt (pw_or (pt_val (pe_callB call_isiA (by rfl) T.isinstance_ Boot.«isinstance» (pa_cons (pv 1) (pa_cons (pe_bltn rfl T.tuple_ Boot.«tuple» (v := .ty "tuple") rfl) pa_nil)))) (pw_or1 (pt_val (pe_callB call_isiA (by rfl) T.isinstance_ Boot.«isinstance» (pa_cons (pv 1) (pa_cons (pe_bltn rfl T.list_ Boot.«list» (v := .ty "list") rfl) pa_nil))))))) (pss_cons (ps_if (PW.pt (pw_or (pt_cmpR op_ne (pe_callB call_isiA (by rfl) T.isinstance_ Boot.«isinstance» (pa_cons (pv 0) (pa_cons (pe_bltn rfl T.tuple_ Boot.«tuple» (v := .ty "tuple") rfl) pa_nil))) (pe_callB call_isiA (by rfl) T.isinstance_ Boot.«isinstance» (pa_cons (pv 1) (pa_cons (pe_bltn rfl T.tuple_ Boot.«tuple» (v := .ty "tuple") rfl) pa_nil))) (nomark _)) (pw_or1 (pt_cmpR op_ne (pe_callB call_isiA (by rfl) T.isinstance_ Boot.«isinstance» (pa_cons (pv 0) (pa_cons (pe_bltn rfl T.list_ Boot.«list» (v := .ty "list") rfl) pa_nil))) (pe_callB call_isiA (by rfl) T.isinstance_ Boot.«isinstance» (pa_cons (pv 1) (pa_cons (pe_bltn rfl T.list_ Boot.«list» (v := .ty "list") rfl) pa_nil))) (nomark _))))) (pss_one (ps_ret pe_bl)) pss_nil)
      (pss_cons (ps_if (pt_cmpR op_ne (pe_callB call_len_seq (by rfl) T.len_ Boot.«len» (pa_cons (pv 0) pa_nil)) (pe_callB call_len_seq (by rfl) T.len_ Boot.«len» (pa_cons (pv 1) pa_nil)) (nomark _)) (pss_one (ps_ret pe_bl)) pss_nil)
      (pss_cons (ps_for PassesOwn.never rfl (pi_range1 rfl T.range_ (pa_cons (pe_callB call_len_seq (by rfl) T.len_ Boot.«len» (pa_cons (pv 1) pa_nil)) pa_nil)) (pg_name (i := 2) sc_law_same.nd rfl (Or.inl rfl)) (pss_one (ps_if (pt_not (pt_val (pe_call G_law_same (hr.mono (by decide)) rfl A_law_same.m A_law_same.F.kp A_law_same.b .nil pass0 (pa_cons (pe_ix ix_tup (pv 0) (pv 2) (fun _ _ => rfl)) (pa_cons (pe_ix ix_tup (pv 1) (pv 2) (fun _ _ => rfl)) pa_nil))))) (pss_one (ps_ret pe_bl)) pss_nil)))
      (pss_one (ps_ret pe_bl))))) pss_nil)
      (pss_cons (ps_if (pt_cmpR op_isN (pv 1) pe_non (nomark _)) (pss_one (ps_ret (pe_cmpR op_isN (pv 0) pe_non (nomark _)))) pss_nil)
      (pss_cons (ps_if (pt_val (pe_callB call_isiA (by rfl) T.isinstance_ Boot.«isinstance» (pa_cons (pv 1) (pa_cons (pe_bltn rfl T.int_ Boot.«int» (v := .ty "int") rfl) pa_nil)))) (pss_one (ps_ret (pe_and (pe_call G_law_whole (hr.mono (by decide)) rfl A_law_whole.m A_law_whole.F.kp A_law_whole.b .nil pass0 (pa_cons (pv 0) pa_nil)) (pe_one (pe_cmpR op_eq (pv 0) (pv 1) (nomark _)))))) pss_nil)
      (pss_one (ps_ret (pe_and (pe_callB call_isi (by rfl) T.isinstance_ Boot.«isinstance» (pa_cons (pv 0) (pa_cons (pe_bltn rfl T.str_ Boot.«str» (v := .ty "str") rfl) pa_nil))) (pe_one (pe_cmpR op_eq (pv 0) (pv 1) (nomark _))))))))), ?_⟩
    refine ⟨_, rfl, _, _, _, _, rfl, .inl ⟨.int i, kit_it⟩, _, rfl, iteF ?_⟩
    refine ⟨_, rfl, _, _, _, _, rfl, .inl ⟨.int i, kit_il⟩, _, rfl, iteF ?_⟩
    refine ⟨_, rfl, rfl, _, rfl, iteBB (fun hc => absurd (of_decide_eq_true hc) (fun z => nomatch z)) (fun _ => ?_)⟩
    refine ⟨_, rfl, _, _, _, _, rfl, .inl ⟨.int i, rfl⟩, _, rfl, iteT ?_⟩
    refine ⟨_, rfl, i, rfl, _, rfl, iteT ?_⟩
    refine ⟨_, rfl, _, rfl, rfl, ?_⟩
    rw [decide_eq_true rfl]
    exact k
set_option maxHeartbeats 1000000 in
theorem ok_law_same {f fW : Addr} {fd dW : FuncData} (A_law_same : FnAt K mg "_law_same" s_law_same ["_law_found", "_law_due_here"] f fd) (A_law_whole : FnAt K mg "_law_whole" s_law_whole ["_law_found"] fW dW) (T : Tb mg) : FnOk P w K mg base CX0 3 f fd ["_law_found", "_law_due_here"] (sp_same K) := by
  have G_law_whole : FnOk P w K mg base CX0 1 fW dW _ sp_whole := ok_law_whole A_law_whole T
  have G_law_same : FnOk P w K mg base CX0 2 f fd ["_law_found", "_law_due_here"] sp_same0 := ok_law_same0 A_law_same A_law_whole T
  refine A_law_same.F.ok (k := 2) sc_law_same (fun vs H Q E hh => ?_) (fun cdv Ar outer s H vs Q E hr hh => ?_)
  · obtain ⟨r, q, a, b, rfl, _⟩ := hh
    rfl
  · obtain ⟨r, q, a, b, rfl, s1, s2, k⟩ := hh
    refine ⟨_, (pss_cons (ps_if (PW.pt (pw_or (pt_val (pe_callB call_isiA (by rfl) T.isinstance_ Boot.«isinstance» (pa_cons (pv 1) (pa_cons (pe_bltn rfl T.tuple_ Boot.«tuple» (v := .ty "tuple") rfl) pa_nil)))) (pw_or1 (pt_val (pe_callB call_isiA (by rfl) T.isinstance_ Boot.«isinstance» (pa_cons (pv 1) (pa_cons (pe_bltn rfl T.list_ Boot.«list» (v := .ty "list") rfl) pa_nil))))))) (pss_cons (ps_if (PW.pt (pw_or (pt_cmpR op_ne (pe_callB call_isiA (by rfl) T.isinstance_ Boot.«isinstance» (pa_cons (pv 0) (pa_cons (pe_bltn rfl T.tuple_ Boot.«tuple» (v := .ty "tuple") rfl) pa_nil))) (pe_callB call_isiA (by rfl) T.isinstance_ Boot.«isinstance» (pa_cons (pv 1) (pa_cons (pe_bltn rfl T.tuple_ Boot.«tuple» (v := .ty "tuple") rfl) pa_nil))) (nomark _)) (pw_or1 (pt_cmpR op_ne (pe_callB call_isiA (by rfl) T.isinstance_ Boot.«isinstance» (pa_cons (pv 0) (pa_cons (pe_bltn rfl T.list_ Boot.«list» (v := .ty "list") rfl) pa_nil))) (pe_callB call_isiA (by rfl) T.isinstance_ Boot.«isinstance» (pa_cons (pv 1) (pa_cons (pe_bltn rfl T.list_ Boot.«list» (v := .ty "list") rfl) pa_nil))) (nomark _))))) (pss_one (ps_ret pe_bl)) pss_nil)
      (pss_cons (ps_if (pt_cmpR op_ne (pe_callB call_len_seq (by rfl) T.len_ Boot.«len» (pa_cons (pv 0) pa_nil)) (pe_callB call_len_seq (by rfl) T.len_ Boot.«len» (pa_cons (pv 1) pa_nil)) (nomark _)) (pss_one (ps_ret pe_bl)) pss_nil)
      (pss_cons (ps_for PassesOwn.never rfl (pi_range1 rfl T.range_ (pa_cons (pe_callB call_len_seq (by rfl) T.len_ Boot.«len» (pa_cons (pv 1) pa_nil)) pa_nil)) (pg_name (i := 2) sc_law_same.nd rfl (Or.inl rfl)) (pss_one (ps_if (pt_not (pt_val (pe_call G_law_same (hr.mono (by decide)) rfl A_law_same.m A_law_same.F.kp A_law_same.b .nil pass0 (pa_cons (pe_ix ix_tup (pv 0) (pv 2) (fun _ _ => rfl)) (pa_cons (pe_ix ix_tup (pv 1) (pv 2) (fun _ _ => rfl)) pa_nil))))) (pss_one (ps_ret pe_bl)) pss_nil)))
      (pss_one (ps_ret pe_bl))))) pss_nil)
      (pss_cons (ps_if (pt_cmpR op_isN (pv 1) pe_non (nomark _)) (pss_one (ps_ret (pe_cmpR op_isN (pv 0) pe_non (nomark _)))) pss_nil)
      (pss_cons (ps_if (pt_val (pe_callB call_isiA (by rfl) T.isinstance_ Boot.«isinstance» (pa_cons (pv 1) (pa_cons (pe_bltn rfl T.int_ Boot.«int» (v := .ty "int") rfl) pa_nil)))) (pss_one (ps_ret (pe_and (pe_call G_law_whole (hr.mono (by decide)) rfl A_law_whole.m A_law_whole.F.kp A_law_whole.b .nil pass0 (pa_cons (pv 0) pa_nil)) (pe_one (pe_cmpR op_eq (pv 0) (pv 1) (nomark _)))))) pss_nil)
      (pss_one (ps_ret (pe_and (pe_callB call_isi (by rfl) T.isinstance_ Boot.«isinstance» (pa_cons (pv 0) (pa_cons (pe_bltn rfl T.str_ Boot.«str» (v := .ty "str") rfl) pa_nil))) (pe_one (pe_cmpR op_eq (pv 0) (pv 1) (nomark _))))))))), ?_⟩
    refine ⟨_, rfl, _, _, "tuple", _, rfl, .inr ⟨q, _, rfl, s2, rfl⟩, _, rfl, iteT ?_⟩
    refine ⟨_, rfl, _, _, "tuple", _, rfl, .inr ⟨r, _, rfl, s1, rfl⟩, _, rfl, _, _, "tuple", _, rfl, .inr ⟨q, _, rfl, s2, rfl⟩, rfl, _, rfl, iteF ?_⟩
    refine ⟨_, rfl, _, _, "tuple", _, rfl, .inr ⟨r, _, rfl, s1, kit_tl⟩, _, rfl, _, _, "tuple", _, rfl, .inr ⟨q, _, rfl, s2, kit_tl⟩, rfl, _, rfl, iteF ?_⟩
    refine ⟨_, rfl, r, _, rfl, .inr s1, _, rfl, q, _, rfl, .inr s2, rfl, _, rfl, iteF ?_⟩
    refine ⟨_, rfl, q, _, rfl, .inr s2, 2, rfl, by decide, by decide, for_range (lo := 0) (n := 2) (fun i σ H' => H' = H ∧ ∃ o2, σ = [some (.ref r), some (.ref q), o2]) ⟨rfl, none, rfl⟩ ?_ (fun σ H' z => by rw [z.1]; exact k)⟩
    rintro i σ H' hi ⟨rfl, o2, rfl⟩
    obtain ⟨x, hx⟩ : ∃ x : Int, [V.int a, V.int b][i]? = some (.int x) := by
      match i, hi with
      | 0, _ => exact ⟨a, rfl⟩
      | 1, _ => exact ⟨b, rfl⟩
    exact ⟨_, rfl, _, rfl, r, _, _, _, rfl, rfl, s1, atI0 hx, _, rfl, _, rfl, q, _, _, _, rfl, rfl, s2, atI0 hx, x, rfl, _, rfl, iteF ⟨rfl, _, rfl⟩⟩
end
end K43
namespace K43
open PySem L2 FW PyProof.Rows M44
abbrev tx (r : List Nat) : Str := ⟨r.toArray⟩
theorem tx_len (r : List Nat) : (tx r).length = r.length := by
  show r.toArray.size = _
  rw [List.size_toArray]
theorem tx_cat (a b : List Nat) : tx a ++ tx b = tx (a ++ b) := by
  show (⟨a.toArray ++ b.toArray⟩ : Str) = ⟨(a ++ b).toArray⟩
  rw [List.append_toArray]
def abc : Str := "abcdefghijklmnopqrstuvwxyz"
theorem abc_at : ∀ i, i < 26 → (abc.cps.toList[i]?).isSome = true := by decide +kernel
theorem abc_len : abc.length ≤ sizeLine := by decide +kernel
theorem abc_ix {i : Int} (h0 : 0 ≤ i) (h1 : i < 26) : ∃ c, atI abc.cps.toList i = some c := by
  obtain ⟨j, rfl⟩ : ∃ j : Nat, i = (j : Int) := ⟨i.toNat, by omega⟩
  have h := abc_at j (by omega)
  cases e : abc.cps.toList[j]? with
  | none => rw [e] at h; cases h
  | some c => exact ⟨c, atI_nat e⟩
def datQ (K : PySem.W.Frag) (H : Hp) (Q : VK) (d : Dt) : Prop := ∀ v H', Same H H' → DatAt K H' v d → Q v H'
def sp_word : Sp := fun vs H Q _ => ∃ n : Int, vs = [.int n] ∧ ∀ w : Str, Q (.str w) H
def sp_outcome (K : PySem.W.Frag) : Sp := fun vs H Q _ => ∃ n : Int, vs = [.int n] ∧ 0 ≤ n ∧ n ≤ 2 ^ 40 ∧ ∀ o, Oc o → datQ K H Q o
/-- fields of a record, in a dict -/
abbrev fdK (ps : List (Str × Int)) : List (Key × V) := ps.map fun p => (Sum.inr p.1, V.int p.2)
theorem fdK_put (ps : List (Str × Int)) (x : Str) (n : Int) : ∃ qs : List (Str × Int), putK (fdK ps) (Sum.inr x) (.int n) = fdK qs ∧ qs.length ≤ ps.length + 1 := by
  unfold putK
  split
  · refine ⟨ps.map fun p => if p.1 = x then (p.1, n) else p, ?_, by rw [List.length_map]; omega⟩
    show _ = List.map (fun p : Str × Int => ((Sum.inr p.1 : Key), V.int p.2)) (List.map _ ps)
    rw [List.map_map, List.map_map]
    refine List.map_congr_left fun p _ => ?_
    show (if (Sum.inr p.1 : Key) = Sum.inr x then _ else _) = _
    by_cases e : p.1 = x
    · rw [if_pos (by rw [e])]
      show _ = ((Sum.inr (if p.1 = x then (p.1, n) else p).1 : Key), V.int (if p.1 = x then (p.1, n) else p).2)
      rw [if_pos e]
    · rw [if_neg (fun z => e (Sum.inr.inj z))]
      show _ = ((Sum.inr (if p.1 = x then (p.1, n) else p).1 : Key), V.int (if p.1 = x then (p.1, n) else p).2)
      rw [if_neg e]
  · exact ⟨ps ++ [(x, n)], by show _ = List.map (fun p : Str × Int => ((Sum.inr p.1 : Key), V.int p.2)) (ps ++ [(x, n)]); rw [List.map_append]; rfl, by rw [List.length_append]; exact Nat.le_refl _⟩
theorem restS {C N : L2.St → Hp → Prop} {Q : Prop} (f : (∀ σ H, C σ H → N σ H) → Q) (g : ∀ σ H, C σ H → N σ H) : Q := f g
section
variable {P : Program} {w : World} {K : PySem.W.Frag} {mg : Str → Option Value} {base : Heap}
set_option maxHeartbeats 2000000 in
theorem ok_law_word {f : Addr} {fd : FuncData} (A : FnAt K mg "_law_word" s_law_word ["_law_figure"] f fd) (T : Tb mg) : FnOk P w K mg base CX0 1 f fd ["_law_figure"] sp_word := by
  refine A.F.ok sc_law_word (fun vs H Q E h => ?_) (fun cdv Ar outer s H vs Q E hr h => ?_)
  · obtain ⟨n, rfl, _⟩ := h
    rfl
  · obtain ⟨n, rfl, k⟩ := h
    refine ⟨_, (pss_cons (ps_set (i := 1) sc_law_word.nd rfl (Or.inl rfl) pe_str)
      (pss_cons (ps_set (i := 2) sc_law_word.nd rfl (Or.inl rfl) pe_str)
      (pss_cons (ps_for PassesOwn.never rfl (pi_range1 rfl T.range_ (pa_cons (pe_op op_add pe_int (pe_op op_mod (pv 0) pe_int)) pa_nil)) (pg_name (i := 3) sc_law_word.nd rfl (Or.inl rfl)) (pss_one (ps_set (i := 2) sc_law_word.nd rfl (Or.inl rfl) (pe_op op_add_str (pv 2) (pe_ix ix_str (pv 1) (pe_op op_mod (pe_op op_fdivP (pv 0) (pe_op op_add pe_int (pe_op op_mulB (pv 3) (pv 3)))) pe_int) (fun _ _ => rfl))))))
      (pss_one (ps_ret (pv 2)))))), ?_⟩
    have w0 := Int.emod_nonneg n (show (8 : Int) ≠ 0 by decide)
    have w1 := Int.emod_lt_of_pos n (show (0 : Int) < 8 by decide)
    refine ⟨_, rfl, _, _, rfl, rfl, (by show (0 : Int) < 8; decide), _, _, rfl, rfl, 1 + n % 8, rfl, by omega, by omega, for_range (lo := 0) (n := (1 + n % 8).toNat) (fun j σ H' => H' = H ∧ ∃ (w : List Nat) (o3 : Option V), σ = [some (.int n), some (.str abc), some (.str (tx w)), o3] ∧ w.length ≤ j)
      ⟨rfl, [], none, rfl, Nat.zero_le _⟩ ?_ ?_⟩
    · rintro j σ H' hj ⟨rfl, w, o3, rfl, hw⟩
      have kj : (j : Int) ≤ 8 := by omega
      have sq : 0 ≤ (0 + (j : Int)) * (0 + (j : Int)) ∧ (0 + (j : Int)) * (0 + (j : Int)) ≤ 8 * 8 := ⟨Int.mul_nonneg (by omega) (by omega), Int.mul_le_mul (by omega) (by omega) (by omega) (by omega)⟩
      obtain ⟨c, hc⟩ := abc_ix (i := n / (8 + (0 + (j : Int)) * (0 + (j : Int))) % 26) (Int.emod_nonneg _ (by decide)) (Int.emod_lt_of_pos _ (by decide))
      refine ⟨_, rfl, _, rfl, _, rfl, _, rfl, _, rfl, _, _, rfl, rfl, small_mul (by omega), _, _, rfl, rfl, _, _, rfl, rfl, ⟨by show (0 : Int) < 8 + (0 + (j : Int)) * (0 + (j : Int)); omega, log_small (by omega)⟩, _, _, rfl, rfl, (by show (0 : Int) < 26; decide), abc, _, c, rfl, rfl, abc_len, hc, tx w, tx [c], rfl, rfl, ?_, ?_⟩
      · rw [tx_len, tx_len]
        exact Nat.le_trans (show w.length + 1 ≤ 20 by omega) (by decide)
      · rw [tx_cat]
        exact ⟨rfl, w ++ [c], _, rfl, by rw [List.length_append]; show w.length + 1 ≤ j + 1; omega⟩
    · rintro σ H' ⟨rfl, w, o3, rfl, hw⟩
      exact ⟨_, rfl, k _⟩
set_option maxHeartbeats 4000000 in
theorem ok_law_outcome {f fW fM : Addr} {fd dW dM : FuncData} (A : FnAt K mg "_law_outcome" s_law_outcome ["_law_cell"] f fd) (A_law_word : FnAt K mg "_law_word" s_law_word ["_law_figure"] fW dW) (A_law_mix : FnAt K mg "_law_mix" s_law_mix ["_law_cell", "_law_k"] fM dM) (T : Tb mg) : FnOk P w K mg base CX0 2 f fd ["_law_cell"] (sp_outcome K) := by
  have G_law_word : FnOk P w K mg base CX0 1 fW dW _ sp_word := ok_law_word A_law_word T
  have G_law_mix : FnOk P w K mg base CX0 1 fM dM _ sp_mix := ok_law_mix A_law_mix
  refine A.F.ok sc_law_outcome (fun vs H Q E h => ?_) (fun cdv Ar outer s H vs Q E hr h => ?_)
  · obtain ⟨n, rfl, _⟩ := h
    rfl
  · obtain ⟨n, rfl, n0, n1, k⟩ := h
    have hu := hu_of hr
    refine ⟨_, (pss_cons (ps_if (pt_cmpR op_eq (pe_op op_mod (pv 0) pe_int) pe_int (nomark _)) (pss_one (ps_ret pe_non)) pss_nil)
      (pss_cons (ps_if (pt_cmpR op_lt (pe_op op_mod (pv 0) pe_int) pe_int (nomark _)) (pss_one (ps_ret (pe_op op_mod (pe_op op_fdivP (pv 0) pe_int) pe_int))) pss_nil)
      (pss_cons (ps_if (pt_cmpR op_lt (pe_op op_mod (pv 0) pe_int) pe_int (nomark _)) (pss_one (ps_ret (pe_op op_mod (pe_op op_mulB (pe_op op_fdivP (pv 0) pe_int) (pv 0)) (pe_op op_pow pe_int pe_int)))) pss_nil)
      (pss_cons (ps_set (i := 1) sc_law_outcome.nd rfl (Or.inl rfl) pe_dnewK)
      (pss_cons (ps_for PassesOwn.never rfl (pi_range1 rfl T.range_ (pa_cons (pe_op op_add pe_int (pe_op op_mod (pe_op op_fdivP (pv 0) pe_int) pe_int)) pa_nil)) (pg_name (i := 2) sc_law_outcome.nd rfl (Or.inl rfl)) (pss_one (ps_dput hu (pv 1) (pe_call G_law_word (hr.mono (by decide)) rfl A_law_word.m A_law_word.F.kp A_law_word.b .nil pass0 (pa_cons (pe_call G_law_mix (hr.mono (by decide)) rfl A_law_mix.m A_law_mix.F.kp A_law_mix.b .nil pass0 (pa_cons (pv 0) (pa_cons (pv 2) pa_nil))) pa_nil)) (pe_op op_mod (pe_op op_mulB (pe_call G_law_mix (hr.mono (by decide)) rfl A_law_mix.m A_law_mix.F.kp A_law_mix.b .nil pass0 (pa_cons (pv 0) (pa_cons (pe_op op_add (pv 2) pe_int) pa_nil))) (pe_call G_law_mix (hr.mono (by decide)) rfl A_law_mix.m A_law_mix.F.kp A_law_mix.b .nil pass0 (pa_cons (pv 0) (pa_cons (pe_op op_add (pv 2) pe_int) pa_nil)))) (pe_op op_pow pe_int pe_int)) rfl)))
      (pss_cons (ps_if (pt_cmpR op_eq (pe_op op_mod (pv 0) pe_int) pe_int (nomark _)) (pss_one (ps_dput hu (pv 1) pe_str (pe_op op_mod (pe_op op_fdivP (pv 0) pe_int) pe_int) rfl)) pss_nil)
      (pss_one (ps_ret (pe_callTy call_tuple_of (by rfl) T.tuple_ Boot.«tuple» (pa_cons (pe_callB (call_sortedV rfl) (by rfl) T.sorted_ Boot.«sorted» (pa_cons (pe_bm0 PySem.F.plainAttrs_dict PySem.F.slot_dict_items PySem.F.type_dict_items mt_items (pv 1)) pa_nil)) pa_nil)))))))))), ?_⟩
    have fin : ∀ i : Int, Q (.int i) H := fun i => k (.int i) (.int i) _ H (.refl _) (.int i)
    refine ⟨_, rfl, _, _, rfl, rfl, (by show (0 : Int) < 7; decide), rfl, _, rfl, iteBB (fun _ => k .non .non _ H (.refl _) .non) (fun _ => ?_)⟩
    refine ⟨_, rfl, _, _, rfl, rfl, (by show (0 : Int) < 7; decide), _, _, rfl, rfl, _, rfl, iteBB (fun _ => ⟨_, rfl, _, _, rfl, rfl, ⟨by decide, by decide +kernel⟩, _, _, rfl, rfl, (by show (0 : Int) < 4; decide), fin _⟩) (fun _ => ?_)⟩
    refine ⟨_, rfl, _, _, rfl, rfl, (by show (0 : Int) < 7; decide), _, _, rfl, rfl, _, rfl, iteBB (fun _ => ⟨_, rfl, _, _, rfl, rfl, ⟨by decide, by decide +kernel⟩, _, rfl, _, _, rfl, rfl, small_mul (by omega), _, _, rfl, rfl, ⟨by decide, by decide, by decide⟩, _, _, rfl, rfl, (by show (0 : Int) < 10 ^ (12 : Int).toNat; decide), fin _⟩) (fun _ => ?_)⟩
    intro D hD
    have c0 := Int.emod_nonneg (n / 7) (show (3 : Int) ≠ 0 by decide)
    have c1 := Int.emod_lt_of_pos (n / 7) (show (0 : Int) < 3 by decide)
    refine ⟨_, rfl, _, _, rfl, rfl, ⟨by decide, by decide +kernel⟩, _, _, rfl, rfl, (by show (0 : Int) < 3; decide), _, _, rfl, rfl, 1 + n / 7 % 3, rfl, by omega, by omega, for_range (lo := 0) (n := (1 + n / 7 % 3).toNat) (fun j σ H' => Same H H' ∧ ∃ (ps : List (Str × Int)) (o2 : Option V), H' D = some (.dK (fdK ps)) ∧ ps.length ≤ j ∧ σ = [some (.int n), some (.ref D), o2])
      ⟨.upd hD, [], none, upd_same, Nat.le_refl _, rfl⟩ ?_ ?_⟩
    · rintro j σ H' hj ⟨S, ps, o2, eD, lp, rfl⟩
      refine ⟨_, rfl, _, rfl, _, _, rfl, rfl, n, _, rfl, by omega, by omega, fun m m0 m1 => ⟨_, rfl, _, rfl, _, _, rfl, rfl, n, _, rfl, by omega, by omega, fun m2 m20 m21 => ?_⟩⟩
      refine ⟨_, _, rfl, rfl, small_mul (by omega), _, _, rfl, rfl, ⟨by decide, by decide, by decide⟩, _, _, rfl, rfl, (by show (0 : Int) < 10 ^ (12 : Int).toNat; decide), _, rfl, _, rfl, _, rfl, n, _, rfl, by omega, by omega, fun m3 _ _ => ⟨m3, rfl, fun x => ?_⟩⟩
      dsimp only
      generalize m * m2 % 10 ^ (12 : Int).toNat = nb
      obtain ⟨qs, eq, lq⟩ := fdK_put ps x nb
      refine ⟨D, _, rfl, DPut.k (k := Sum.inr x) eD (Nat.lt_of_le_of_lt (show (fdK ps).length ≤ 100 by rw [List.length_map]; omega) (by decide)), fun b o eb => ?_, qs, _, ?_, by omega, rfl⟩
      · rw [upd_ne (ne_of_none eb hD)]
        exact S _ _ eb
      · rw [upd_same, eq]
    rintro σ H' ⟨S, ps, o2, eD, lp, rfl⟩
    have lp3 : ps.length ≤ 3 := by omega
    refine' restS (C := fun σ H2 => Same H H2 ∧ ∃ (ps : List (Str × Int)), H2 D = some (.dK (fdK ps)) ∧ ps.length ≤ 4 ∧ σ = [some (.int n), some (.ref D), o2]) (fun rest => ⟨_, rfl, _, _, rfl, rfl, (by show (0 : Int) < 7; decide), rfl, _, rfl, iteBB (fun _ => ?_) (fun _ => rest _ _ ⟨S, ps, eD, by omega, rfl⟩)⟩) ?_
    · refine ⟨_, rfl, _, _, rfl, rfl, ⟨by decide, by decide +kernel⟩, _, _, rfl, rfl, (by show (0 : Int) < 2; decide), _, rfl, ?_⟩
      dsimp only
      generalize n / 21 % 2 = nb
      obtain ⟨qs, eq, lq⟩ := fdK_put ps "a" nb
      refine ⟨D, _, rfl, DPut.k (k := Sum.inr "a") eD (Nat.lt_of_le_of_lt (show (fdK ps).length ≤ 100 by rw [List.length_map]; omega) (by decide)), rest _ _ ⟨fun b o eb => ?_, qs, ?_, by omega, rfl⟩⟩
      · rw [upd_ne (ne_of_none eb hD)]
        exact S _ _ eb
      · rw [upd_same, eq]
    rintro σ H2 ⟨S2, qs, eD2, lq, rfl⟩
    refine ⟨_, rfl, .inr (.inr (.inl ⟨rfl, .inl ⟨_, eD2⟩⟩)), D, _, rfl, rfl, eD2, fun v hv => ?_⟩
    have S3 := Same.upd (o := ObO v (viewO D)) hv
    refine ⟨v, D, qs, rfl, upd_same, S3 _ _ eD2, by omega, fun l H4 vs fs S4 hl el dl pm => ⟨l, vs, rfl, .inl ⟨SqL.of el, fun t ht => ?_⟩⟩⟩
    have S5 := Same.upd (o := .tup vs) ht
    exact k _ (.recd fs) _ _ (S2.trans (S3.trans (S4.trans S5))) (.tup (SqT.of upd_same) (dl.same S5))
end
end K43
namespace K43
open PySem L2 FW PyProof.Rows M44
theorem t3 : 3 ≤ sizeLine := by decide
theorem t4 : 4 ≤ sizeLine := by decide
theorem t6 : 6 ≤ sizeLine := by decide
theorem t1 : 1 ≤ sizeLine := by decide
theorem get_ex {α : Type} {l : List α} {i : Nat} (h : i < l.length) : ∃ x, l[i]? = some x := ⟨l[i], List.getElem?_eq_getElem h⟩
/-- how many outcomes the draws have -/
structure WdOk (ws : List Nat) : Prop where
  l0 : 0 < ws.length
  l4 : ws.length ≤ 4
  w : ∀ x ∈ ws, 1 ≤ x ∧ x ≤ 6
def sp_site (K : PySem.W.Frag) : Sp := fun vs H Q _ => ∃ (v : V) (Z : Addr) (p : Prt), vs = [v] ∧ PrtAt K Z H v p ∧ Q (nI (site 100 p)) H
def sp_widths (K : PySem.W.Frag) : Sp := fun vs H Q _ => ∃ (a : Addr) (ns : List Int), vs = [.ref a] ∧ SqL K H a (ns.map V.int) ∧ ∀ (Wd : Addr) (H' : Hp) (ws : List Nat), Same H H' → H' Wd = some (.lst (ws.map nI)) → WdOk ws → Q (.ref Wd) H'
def sp_draws (K : PySem.W.Frag) : Sp := fun vs H Q _ => ∃ (a Wd : Addr) (ns : List Int) (ws : List Nat), vs = [.ref a, .ref Wd] ∧ SqL K H a (ns.map V.int) ∧ H Wd = some (.lst (ws.map nI)) ∧ WdOk ws ∧ ∀ (DA : Addr) (H' : Hp) (ps : List (Addr × List Dt)) (P : List (List (Int × Int))), Same H H' → DrsAt K H' DA ps P → P.map List.length = ws → Q (.ref DA) H'
theorem menu_d (x y i : Int) (h0 : 0 ≤ i) (h1 : i < 2) (hx : 0 ≤ x ∧ x < 1000000) (hy : 0 ≤ y ∧ y < 1000000) : ∃ b : Int, atI [V.int x, V.int y] i = some (.int b) ∧ 0 ≤ b ∧ b < 1000000 := by
  rcases (show i = 0 ∨ i = 1 by omega) with rfl | rfl
  · exact ⟨x, rfl, hx⟩
  · exact ⟨y, rfl, hy⟩
section
variable {P : Program} {w : World} {K : PySem.W.Frag} {mg : Str → Option Value} {base : Heap}
theorem ok_law_site {f : Addr} {fd : FuncData} (A : FnAt K mg "_law_site" s_law_site ["_law_entry"] f fd) : FnOk P w K mg base CX0 1 f fd ["_law_entry"] (sp_site K) := by
  refine A.F.ok sc_law_site (fun vs H Q E h => ?_) (fun cdv Ar outer s H vs Q E hr h => ?_)
  · obtain ⟨v, Z, p, rfl, _⟩ := h
    rfl
  · obtain ⟨v, Z, p, rfl, px, k⟩ := h
    refine ⟨_, (pss_cons (ps_if (pt_cmpR op_eq (pe_ix ix_tup (pv 0) pe_int (fun _ _ => rfl)) pe_str (nomark _)) (pss_one (ps_ret pe_int)) pss_nil)
      (pss_one (ps_ret (pe_ix ix_tup (pv 0) pe_int (fun _ _ => rfl))))), ?_⟩
    obtain ⟨r, rfl, hk⟩ := px.look 100
    rcases hk with ⟨u, sv, es⟩ | ⟨l, sv⟩
    · refine ⟨_, rfl, r, _, 0, .str "leaf", rfl, rfl, sv, rfl, rfl, _, rfl, iteBB (fun _ => ?_) (fun hc => absurd hc (by decide +kernel))⟩
      rw [es] at k
      exact k
    · refine ⟨_, rfl, r, _, 0, .str "ask", rfl, rfl, sv, rfl, rfl, _, rfl, iteBB (fun hc => absurd hc (by decide +kernel)) (fun _ => ?_)⟩
      exact ⟨_, rfl, r, _, 1, _, rfl, rfl, sv, rfl, k⟩
set_option maxHeartbeats 4000000 in
theorem ok_law_widths {f fC fM : Addr} {fd dC dM : FuncData} (A : FnAt K mg "_law_widths" s_law_widths ["_law_script"] f fd) (A_law_cell_at : FnAt K mg "_law_cell_at" s_law_cell_at ["_law_script", "_law_k"] fC dC) (A_law_mix : FnAt K mg "_law_mix" s_law_mix ["_law_cell", "_law_k"] fM dM) (T : Tb mg) : FnOk P w K mg base CX0 2 f fd ["_law_script"] (sp_widths K) := by
  have G_law_cell_at : FnOk P w K mg base CX0 1 fC dC _ (sp_cell K) := ok_law_cell_at A_law_cell_at T
  have G_law_mix : FnOk P w K mg base CX0 1 fM dM _ sp_mix := ok_law_mix A_law_mix
  refine A.F.ok (k := 1) sc_law_widths (fun vs H Q E h => ?_) (fun cdv Ar outer s H vs Q E hr h => ?_)
  · obtain ⟨a, ns, rfl, _⟩ := h
    rfl
  · obtain ⟨a, ns, rfl, hS, k⟩ := h
    refine ⟨_, (pss_cons (ps_set (i := 1) sc_law_widths.nd rfl (Or.inl rfl) (pe_call G_law_cell_at (hr.mono (by decide)) rfl A_law_cell_at.m A_law_cell_at.F.kp A_law_cell_at.b .nil pass0 (pa_cons (pv 0) (pa_cons pe_int pa_nil))))
      (pss_cons (ps_set (i := 2) sc_law_widths.nd rfl (Or.inl rfl) (pe_lst (pa_cons (pe_lst (pa_cons pe_int (pa_cons (pe_op op_add pe_int (pe_op op_mod (pv 1) pe_int)) (pa_cons pe_int (pa_cons (pe_op op_add pe_int (pe_op op_mod (pe_op op_fdivP (pv 1) pe_int) pe_int)) pa_nil))))) (pa_cons (pe_lst (pa_cons pe_int (pa_cons pe_int (pa_cons pe_int (pa_cons pe_int pa_nil))))) (pa_cons (pe_lst (pa_cons pe_int (pa_cons pe_int (pa_cons pe_int pa_nil)))) (pa_cons (pe_lst (pa_cons pe_int (pa_cons pe_int pa_nil))) (pa_cons (pe_lst (pa_cons pe_int (pa_cons pe_int (pa_cons pe_int pa_nil)))) (pa_cons (pe_lst (pa_cons (pe_op op_add pe_int (pe_op op_mod (pv 1) pe_int)) pa_nil)) pa_nil))))))))
      (pss_one (ps_ret (pe_ix ix_list (pv 2) (pe_op op_mod (pe_call G_law_mix (hr.mono (by decide)) rfl A_law_mix.m A_law_mix.F.kp A_law_mix.b .nil pass0 (pa_cons (pv 1) (pa_cons pe_int pa_nil))) pe_int) (fun _ _ => rfl)))))), ?_⟩
    refine ⟨_, rfl, a, ns, 1, rfl, hS, fun c => ?_⟩
    obtain ⟨x1, e1, x10, x11⟩ : ∃ x : Nat, 1 + c % 2 = (x : Int) ∧ 1 ≤ x ∧ x ≤ 6 := ⟨(1 + c % 2).toNat, by omega, by omega, by omega⟩
    obtain ⟨x2, e2, x20, x21⟩ : ∃ x : Nat, 1 + c / 2 % 2 = (x : Int) ∧ 1 ≤ x ∧ x ≤ 6 := ⟨(1 + c / 2 % 2).toNat, by omega, by omega, by omega⟩
    obtain ⟨x3, e3, x30, x31⟩ : ∃ x : Nat, 1 + c % 6 = (x : Int) ∧ 1 ≤ x ∧ x ≤ 6 := ⟨(1 + c % 6).toNat, by omega, by omega, by omega⟩
    refine ⟨_, rfl, _, _, rfl, rfl, (by show (0 : Int) < 2; decide), _, _, rfl, rfl, _, rfl, _, _, rfl, rfl, ⟨by decide, by decide +kernel⟩, _, _, rfl, rfl, (by show (0 : Int) < 2; decide), _, _, rfl, rfl, t4, fun l1 h1 => ?_⟩
    dsimp only
    rw [e1, e2]
    have S1 := Same.upd (o := .lst [.int 2, .int x1, .int 1, .int x2]) h1
    have a1 : (upd H l1 (.lst [.int 2, .int x1, .int 1, .int x2])) l1 = some (.lst (([2, x1, 1, x2] : List Nat).map nI)) := upd_same
    generalize upd H l1 (.lst [.int 2, .int x1, .int 1, .int x2]) = H1 at S1 a1
    refine ⟨t4, fun l2 h2 => ?_⟩
    have S2 := Same.upd (o := .lst [.int 1, .int 2, .int 4, .int 1]) h2
    have a2 : (upd H1 l2 (.lst [.int 1, .int 2, .int 4, .int 1])) l2 = some (.lst (([1, 2, 4, 1] : List Nat).map nI)) := upd_same
    generalize upd H1 l2 (.lst [.int 1, .int 2, .int 4, .int 1]) = H2 at S2 a2
    refine ⟨t3, fun l3 h3 => ?_⟩
    have S3 := Same.upd (o := .lst [.int 3, .int 1, .int 2]) h3
    have a3 : (upd H2 l3 (.lst [.int 3, .int 1, .int 2])) l3 = some (.lst (([3, 1, 2] : List Nat).map nI)) := upd_same
    generalize upd H2 l3 (.lst [.int 3, .int 1, .int 2]) = H3 at S3 a3
    refine ⟨two_le, fun l4 h4 => ?_⟩
    have S4 := Same.upd (o := .lst [.int 1, .int 6]) h4
    have a4 : (upd H3 l4 (.lst [.int 1, .int 6])) l4 = some (.lst (([1, 6] : List Nat).map nI)) := upd_same
    generalize upd H3 l4 (.lst [.int 1, .int 6]) = H4 at S4 a4
    refine ⟨t3, fun l5 h5 => ?_⟩
    have S5 := Same.upd (o := .lst [.int 2, .int 2, .int 2]) h5
    have a5 : (upd H4 l5 (.lst [.int 2, .int 2, .int 2])) l5 = some (.lst (([2, 2, 2] : List Nat).map nI)) := upd_same
    generalize upd H4 l5 (.lst [.int 2, .int 2, .int 2]) = H5 at S5 a5
    refine ⟨_, rfl, _, _, rfl, rfl, (by show (0 : Int) < 6; decide), _, _, rfl, rfl, t1, fun l6 h6 => ?_⟩
    dsimp only
    rw [e3]
    have S6 := Same.upd (o := .lst [.int x3]) h6
    have a6 : (upd H5 l6 (.lst [.int x3])) l6 = some (.lst (([x3] : List Nat).map nI)) := upd_same
    generalize upd H5 l6 (.lst [.int x3]) = H6 at S6 a6
    refine ⟨t6, fun L hL => ?_⟩
    have S7 := Same.upd (o := .lst [.ref l1, .ref l2, .ref l3, .ref l4, .ref l5, .ref l6]) hL
    have a7 : (upd H6 L (.lst [.ref l1, .ref l2, .ref l3, .ref l4, .ref l5, .ref l6])) L = some (.lst [.ref l1, .ref l2, .ref l3, .ref l4, .ref l5, .ref l6]) := upd_same
    generalize upd H6 L (.lst [.ref l1, .ref l2, .ref l3, .ref l4, .ref l5, .ref l6]) = H7 at S7 a7
    have S67 := S6.trans S7
    have S57 := S5.trans S67
    have S47 := S4.trans S57
    have S37 := S3.trans S47
    have S27 := S2.trans S37
    have S07 := S1.trans S27
    refine ⟨_, rfl, _, rfl, c, 1, rfl, by decide, by decide, fun m m0 m1 => ⟨_, _, rfl, rfl, (by show (0 : Int) < 6; decide), ?_⟩⟩
    dsimp only
    have g0 := Int.emod_nonneg m (show (6 : Int) ≠ 0 by decide)
    have g1 := Int.emod_lt_of_pos m (show (0 : Int) < 6 by decide)
    generalize m % 6 = i at g0 g1
    rcases (show i = 0 ∨ i = 1 ∨ i = 2 ∨ i = 3 ∨ i = 4 ∨ i = 5 by omega) with rfl | rfl | rfl | rfl | rfl | rfl
    · exact ⟨L, _, 0, .ref l1, rfl, rfl, SqL.of a7, rfl, k l1 H7 _ S07 (S27 _ _ a1) ⟨by show 0 < 4; decide, by show 4 ≤ 4; decide, fun x hx => by
        simp at hx
        omega⟩⟩
    · exact ⟨L, _, 1, .ref l2, rfl, rfl, SqL.of a7, rfl, k l2 H7 _ S07 (S37 _ _ a2) ⟨by decide, by decide, by decide⟩⟩
    · exact ⟨L, _, 2, .ref l3, rfl, rfl, SqL.of a7, rfl, k l3 H7 _ S07 (S47 _ _ a3) ⟨by decide, by decide, by decide⟩⟩
    · exact ⟨L, _, 3, .ref l4, rfl, rfl, SqL.of a7, rfl, k l4 H7 _ S07 (S57 _ _ a4) ⟨by decide, by decide, by decide⟩⟩
    · exact ⟨L, _, 4, .ref l5, rfl, rfl, SqL.of a7, rfl, k l5 H7 _ S07 (S67 _ _ a5) ⟨by decide, by decide, by decide⟩⟩
    · exact ⟨L, _, 5, .ref l6, rfl, rfl, SqL.of a7, rfl, k l6 H7 _ S07 (S7 _ _ a6) ⟨by show 0 < 1; decide, by show 1 ≤ 4; decide, fun x hx => by
        cases List.mem_singleton.mp hx
        exact ⟨x30, x31⟩⟩⟩
set_option maxHeartbeats 4000000 in
theorem ok_law_draws {f fC fM : Addr} {fd dC dM : FuncData} (A : FnAt K mg "_law_draws" s_law_draws ["_law_script", "_law_widths_here"] f fd) (A_law_cell_at : FnAt K mg "_law_cell_at" s_law_cell_at ["_law_script", "_law_k"] fC dC) (A_law_mix : FnAt K mg "_law_mix" s_law_mix ["_law_cell", "_law_k"] fM dM) (T : Tb mg) : FnOk P w K mg base CX0 2 f fd ["_law_script", "_law_widths_here"] (sp_draws K) := by
  have G_law_cell_at : FnOk P w K mg base CX0 1 fC dC _ (sp_cell K) := ok_law_cell_at A_law_cell_at T
  have G_law_mix : FnOk P w K mg base CX0 1 fM dM _ sp_mix := ok_law_mix A_law_mix
  refine A.F.ok (k := 1) sc_law_draws (fun vs H Q E h => ?_) (fun cdv Ar outer s H vs Q E hr h => ?_)
  · obtain ⟨a, Wd, ns, ws, rfl, _⟩ := h
    rfl
  · obtain ⟨a, Wd, ns, ws, rfl, hS, hW, wo, k⟩ := h
    refine ⟨_, (pss_cons (ps_set (i := 2) sc_law_draws.nd rfl (Or.inl rfl) (pe_lst pa_nil))
      (pss_cons (ps_for PassesOwn.never rfl (pi_range1 rfl T.range_ (pa_cons (pe_callB call_len_seq (by rfl) T.len_ Boot.«len» (pa_cons (pv 1) pa_nil)) pa_nil)) (pg_name (i := 3) sc_law_draws.nd rfl (Or.inl rfl)) (pss_cons (ps_set (i := 4) sc_law_draws.nd rfl (Or.inl rfl) (pe_call G_law_mix (hr.mono (by decide)) rfl A_law_mix.m A_law_mix.F.kp A_law_mix.b .nil pass0 (pa_cons (pe_call G_law_cell_at (hr.mono (by decide)) rfl A_law_cell_at.m A_law_cell_at.F.kp A_law_cell_at.b .nil pass0 (pa_cons (pv 0) (pa_cons pe_int pa_nil))) (pa_cons (pe_op op_add (pv 3) pe_int) pa_nil))))
      (pss_cons (ps_set (i := 5) sc_law_draws.nd rfl (Or.inl rfl) (pe_lst pa_nil))
      (pss_cons (ps_for PassesOwn.never rfl (pi_range1 rfl T.range_ (pa_cons (pe_ix ix_list (pv 1) (pv 3) (fun _ _ => rfl)) pa_nil)) (pg_name (i := 6) sc_law_draws.nd rfl (Or.inl rfl)) (pss_cons (ps_set (i := 7) sc_law_draws.nd rfl (Or.inl rfl) (pe_call G_law_mix (hr.mono (by decide)) rfl A_law_mix.m A_law_mix.F.kp A_law_mix.b .nil pass0 (pa_cons (pv 4) (pa_cons (pv 6) pa_nil))))
      (pss_one (ps_expr (pe_bm PySem.F.plainAttrs_list PySem.F.slot_list_append PySem.F.type_list_append mt_append (pv 5) (pa_cons (pe_tup (pa_cons (pe_op op_add (pe_op op_mod (pv 4) pe_int) (pv 6)) (pa_cons (pe_op op_add pe_int (pe_ix ix_list (pe_lst (pa_cons (pe_op op_mod (pv 7) pe_int) (pa_cons (pe_op op_mod (pe_op op_mulB (pv 7) (pv 7)) (pe_op op_pow pe_int pe_int)) pa_nil))) (pe_op op_mod (pe_op op_fdivP (pv 4) pe_int) pe_int) (fun _ _ => rfl))) pa_nil))) pa_nil))))))
      (pss_one (ps_expr (pe_bm PySem.F.plainAttrs_list PySem.F.slot_list_append PySem.F.type_list_append mt_append (pv 2) (pa_cons (pv 5) pa_nil))))))))
      (pss_one (ps_ret (pv 2))))), ?_⟩
    have wl4 := wo.l4
    refine ⟨Nat.zero_le _, fun DA hDA => ?_⟩
    have S1 := Same.upd (o := .lst []) hDA
    have e1 : (upd H DA (.lst [])) DA = some (.lst []) := upd_same
    generalize upd H DA (.lst []) = H1 at S1 e1
    have lW : (ws.map nI).length = ws.length := List.length_map ..
    refine ⟨_, rfl, Wd, _, rfl, .inl (SqL.of (S1 _ _ hW)), ((ws.map nI).length : Int), rfl, by omega, by omega, for_range (lo := 0) (n := (((ws.map nI).length : Nat) : Int).toNat) (fun j σ H' => Same H H' ∧ ∃ (ps : List (Addr × List Dt)) (P : List (List (Int × Int))) (o3 o4 o5 o6 o7 : Option V), LLM K H' DA ps ∧ ps.map (·.2) = P.map mI ∧ (∀ d ∈ P, Gd d) ∧ P.map List.length = ws.take j ∧ σ = [some (.ref a), some (.ref Wd), some (.ref DA), o3, o4, o5, o6, o7])
      ⟨S1, [], [], none, none, none, none, none, ⟨e1, (fun _ h => nomatch h), (fun _ h => nomatch h)⟩, rfl, (fun _ h => nomatch h), rfl, rfl⟩ ?_ ?_⟩
    · rintro j σ H' hj ⟨S, ps, P, o3, o4, o5, o6, o7, ll, eps, gP, lP, rfl⟩
      have hj2 : j < ws.length := by omega
      obtain ⟨wd, hwd⟩ := get_ex hj2
      have wb := wo.w wd (List.mem_of_getElem? hwd)
      have lPj : P.length = j := by
        have := congrArg List.length lP
        rw [List.length_map, List.length_take] at this
        omega
      have lps : ps.length = P.length := by
        have := congrArg List.length eps
        rwa [List.length_map, List.length_map] at this
      refine ⟨_, rfl, a, ns, 0, rfl, S.seq hS, fun c2 => ⟨_, rfl, _, _, rfl, rfl, c2, _, rfl, by omega, by omega, fun m m0 m1 => ?_⟩⟩
      refine ⟨Nat.zero_le _, fun D hD => ?_⟩
      have hatW : atI (ws.map nI) (0 + (j : Int)) = some (nI wd) := atI0 (by rw [List.getElem?_map, hwd]; rfl)
      refine ⟨_, rfl, _, rfl, Wd, _, _, nI wd, rfl, rfl, SqL.of ((Same.upd hD) _ _ (S _ _ hW)), hatW, (wd : Int), rfl, by omega, by omega, for_range (lo := 0) (n := (wd : Int).toNat) (fun i σ H3 => Same H' H3 ∧ ∃ (d : List (Int × Int)) (us : List V) (o6 o7 : Option V), d.length = i ∧ H3 D = some (.lst us) ∧ DatsAt K H3 us (mI d) ∧ (∀ x ∈ wts d, 0 < x ∧ x ≤ 1000000) ∧ σ = [some (.ref a), some (.ref Wd), some (.ref DA), some (.int (0 + (j : Int))), some (.int m), some (.ref D), o6, o7])
        ⟨.upd hD, [], [], _, _, rfl, upd_same, .nil, (fun _ h => nomatch h), rfl⟩ ?_ ?_⟩
      · rintro i σ H3 hi ⟨S3, d, us, o6, o7, ld, eD, du, hw, rfl⟩
        have lu := du.length
        rw [List.length_map] at lu
        refine ⟨_, rfl, _, rfl, m, _, rfl, by omega, by omega, fun m2 m20 m21 => ?_⟩
        refine ⟨_, rfl, .inl ⟨rfl, _, SqL.of eD⟩, ?_⟩
        refine ⟨_, rfl, _, _, rfl, rfl, (by show (0 : Int) < 89; decide), _, rfl, _, _, rfl, rfl, ?_⟩
        refine ⟨_, rfl, _, _, rfl, rfl, (by show (0 : Int) < 3; decide), _, rfl, _, rfl, _, _, rfl, rfl, small_mul (by omega), _, _, rfl, rfl, ⟨by decide, by decide, by decide⟩, _, _, rfl, rfl, (by show (0 : Int) < 10 ^ (6 : Int).toNat; decide), two_le, fun L2 hL2 => ?_⟩
        dsimp only at hL2 ⊢
        have f1 : 0 ≤ m2 % 3 ∧ m2 % 3 < 1000000 := by omega
        have f2 : 0 ≤ m2 * m2 % 10 ^ (6 : Int).toNat ∧ m2 * m2 % 10 ^ (6 : Int).toNat < 1000000 := ⟨Int.emod_nonneg _ (by decide), Int.emod_lt_of_pos _ (by decide)⟩
        generalize m2 % 3 = y1 at hL2 f1
        generalize m2 * m2 % 10 ^ (6 : Int).toNat = y2 at hL2 f2
        have S4 := Same.upd (o := .lst [.int y1, .int y2]) hL2
        have e4 : (upd H3 L2 (.lst [.int y1, .int y2])) L2 = some (.lst [.int y1, .int y2]) := upd_same
        generalize upd H3 L2 (.lst [.int y1, .int y2]) = H4 at S4 e4
        obtain ⟨b2, hb2, b20, b21⟩ := menu_d y1 y2 (m / 89 % 2) (Int.emod_nonneg _ (by decide)) (Int.emod_lt_of_pos _ (by decide)) f1 f2
        refine ⟨_, rfl, _, _, rfl, rfl, ⟨by decide, by decide +kernel⟩, _, _, rfl, rfl, (by show (0 : Int) < 2; decide), L2, _, _, .int b2, rfl, rfl, SqL.of e4, hb2, _, _, rfl, rfl, two_le, fun t ht => ?_⟩
        dsimp only at ht ⊢
        generalize m % 89 + (0 + (i : Int)) = nb at ht
        generalize hwt : 1 + b2 = wt at ht
        have S5 := Same.upd (o := .tup [.int nb, .int wt]) ht
        have dt : DatAt K (upd H4 t (.tup [.int nb, .int wt])) (.ref t) (pI (nb, wt)) := .tup (SqT.of upd_same) (.cons (.int _) (.cons (.int _) .nil))
        generalize upd H4 t (.tup [.int nb, .int wt]) = H5 at S5 dt
        have S35 := S4.trans S5
        have eD5 := S35 _ _ eD
        refine ⟨D, us, _, rfl, rfl, eD5, Nat.lt_of_le_of_lt (show us.length ≤ 100 by omega) (by decide), ?_⟩
        refine ⟨fun q o eq => ?_, d ++ [(nb, wt)], _, _, _, by rw [List.length_append, ld]; rfl, upd_same, ?_, fun x hx => ?_, rfl⟩
        · rw [upd_ne (ne_of_none eq hD)]
          exact S35 _ _ (S3 _ _ eq)
        · rw [show mI (d ++ [(nb, wt)]) = mI d ++ [pI (nb, wt)] from List.map_append]
          exact ((du.same S35).append (.cons dt .nil)).updL eD5
        · rw [show wts (d ++ [(nb, wt)]) = wts d ++ [wt] from List.map_append] at hx
          rcases List.mem_append.mp hx with z | z
          · exact hw x z
          · cases List.mem_singleton.mp z
            omega
      · rintro σ H3 ⟨S3, d, us, o6, o7, ld, eD, du, hw, rfl⟩
        have S03 := S.trans S3
        have ll3 := ll.same S3
        have nDA : D ≠ DA := (ne_of_none ll.at_ hD).symm
        have gd : Gd d := ⟨by omega, by omega, hw⟩
        refine ⟨_, rfl, .inl ⟨rfl, _, SqL.of ll3.at_⟩, _, rfl, DA, _, _, rfl, rfl, ll3.at_, Nat.lt_of_le_of_lt (show (ps.map fun p => V.ref p.1).length ≤ 100 by rw [List.length_map]; omega) (by decide), ?_⟩
        refine ⟨fun q o eq => ?_, ps ++ [(D, mI d)], P ++ [d], _, _, _, _, _, ll3.snoc ⟨us, eD, du⟩ nDA, by rw [List.map_append, List.map_append, eps]; rfl, fun x hx => ?_, ?_, rfl⟩
        · rw [upd_ne (ne_of_none eq hDA)]
          exact S03 _ _ eq
        · rcases List.mem_append.mp hx with z | z
          · exact gP x z
          · cases List.mem_singleton.mp z
            exact gd
        · rw [take_snoc' hwd, List.map_append, lP]
          congr 1
          show [d.length] = [wd]
          rw [ld]
          simp
    · rintro σ H' ⟨S, ps, P, o3, o4, o5, o6, o7, ll, eps, gP, lP, rfl⟩
      rw [List.take_of_length_le (by omega)] at lP
      have lPl : P.length = ws.length := by rw [← lP, List.length_map]
      exact ⟨_, rfl, k DA H' ps P S ⟨ll, eps, gP, by omega⟩ lP⟩
end
end K43
namespace K43
open PySem L2 FW PyProof.Rows M44
/-- parts in order, over draws of so many outcomes -/
def Gw (ws : List Nat) (ps : List Prt) : Prop := ∀ (i k : Nat) (ch : List Nat), ps[i]? = some (.ask k ch) → ∃ wd, ws[k]? = some wd ∧ ch.length = wd ∧ ∀ c ∈ ch, c < i ∧ ∃ p', ps[c]? = some p' ∧ k < site ws.length p'
theorem Gw.gp {ws : List Nat} {ps : List Prt} {P : List (List (Int × Int))} (h : Gw ws ps) (e : P.map List.length = ws) : Gp P ps := fun i k ch hi => by
  obtain ⟨wd, h1, h2, h3⟩ := h i k ch hi
  have lP : P.length = ws.length := by rw [← e, List.length_map]
  rw [← e, List.getElem?_map] at h1
  cases hp : P[k]? with
  | none => rw [hp] at h1; cases h1
  | some d =>
    rw [hp] at h1
    cases h1
    refine ⟨d, rfl, h2, fun c hc => ?_⟩
    rw [lP]
    exact h3 c hc
theorem Gw.snoc {ws : List Nat} {parts : List Prt} {p : Prt} (h : Gw ws parts) (hp : ∀ k ch, p = .ask k ch → ∃ wd, ws[k]? = some wd ∧ ch.length = wd ∧ ∀ c ∈ ch, ∃ p', parts[c]? = some p' ∧ k < site ws.length p') : Gw ws (parts ++ [p]) := fun i k ch2 e => by
  by_cases hi : i < parts.length
  · rw [List.getElem?_append_left hi] at e
    obtain ⟨d2, h1, h2, h3⟩ := h i k ch2 e
    refine ⟨d2, h1, h2, fun c hc => ?_⟩
    obtain ⟨h4, p', h5, h6⟩ := h3 c hc
    exact ⟨h4, p', get_app h5, h6⟩
  · rw [List.getElem?_append_right (by omega)] at e
    have hi2 : i - parts.length = 0 := by
      have := (List.getElem?_eq_some_iff.mp e).1
      simp at this
      omega
    rw [hi2] at e
    have e' : p = .ask k ch2 := by simpa using e
    obtain ⟨wd, h1, h2, h3⟩ := hp k ch2 e'
    refine ⟨wd, h1, h2, fun c hcc => ?_⟩
    obtain ⟨p', h5, h6⟩ := h3 c hcc
    have := (List.getElem?_eq_some_iff.mp h5).1
    exact ⟨by omega, p', get_app h5, h6⟩
theorem PrsAt.push {K : PySem.W.Frag} {H : Hp} {A : Addr} {us : List V} {parts : List Prt} {v : V} {p : Prt} (h : PrsAt K H A us parts) (hv : PrtAt K A H v p) : PrsAt K (upd H A (.lst (us ++ [v]))) A (us ++ [v]) (parts ++ [p]) := by
  refine ⟨upd_same, by rw [List.length_append, List.length_append, h.l]; rfl, fun i x q e1 e2 => ?_⟩
  have l := h.l
  by_cases hi : i < us.length
  · rw [List.getElem?_append_left hi] at e1
    rw [List.getElem?_append_left (by omega)] at e2
    exact (h.p i x q e1 e2).push h.a
  · rw [List.getElem?_append_right (by omega)] at e1 e2
    have hi2 : i - us.length = 0 := by
      have := (List.getElem?_eq_some_iff.mp e1).1
      simp at this
      omega
    rw [hi2] at e1
    rw [show i - parts.length = 0 by omega] at e2
    cases e1
    cases e2
    exact hv.push h.a
/-- a place whose part may be a child -/
def Okc (parts : List Prt) (L sn : Nat) (z : V) : Prop := ∃ c : Nat, z = nI c ∧ ∃ p', parts[c]? = some p' ∧ sn < site L p'
theorem site_gt {p : Prt} {L sn : Nat} (h : ((site 100 p : Nat) : Int) > (sn : Int)) (hL : sn < L) : sn < site L p := by
  cases p with
  | no => exact hL
  | lf => exact hL
  | ask k ch =>
    have h' : ((k : Nat) : Int) > (sn : Int) := h
    show sn < k
    omega
def sp_lists (K : PySem.W.Frag) : Sp := fun vs H Q _ => ∃ (a Wd : Addr) (ns : List Int) (ws : List Nat), vs = [.ref a, .ref Wd] ∧ SqL K H a (ns.map V.int) ∧ H Wd = some (.lst (ws.map nI)) ∧ WdOk ws ∧ ∀ (A : Addr) (H' : Hp) (us : List V) (parts : List Prt), Same H H' → PrsAt K H' A us parts → Gw ws parts → parts.length ≤ 100 → Q (.ref A) H'
section
variable {P : Program} {w : World} {K : PySem.W.Frag} {mg : Str → Option Value} {base : Heap}
set_option maxHeartbeats 8000000 in
theorem ok_law_lists {f fM fS fO : Addr} {fd dM dS dO : FuncData} (A : FnAt K mg "_law_lists" s_law_lists ["_law_script", "_law_widths_here"] f fd) (A_law_mix : FnAt K mg "_law_mix" s_law_mix ["_law_cell", "_law_k"] fM dM) (A_law_site : FnAt K mg "_law_site" s_law_site ["_law_entry"] fS dS) (A_law_outcome : FnAt K mg "_law_outcome" s_law_outcome ["_law_cell"] fO dO) (G_law_outcome : FnOk P w K mg base CX0 2 fO dO ["_law_cell"] (sp_outcome K)) (T : Tb mg) : FnOk P w K mg base CX0 3 f fd ["_law_script", "_law_widths_here"] (sp_lists K) := by
  have G_law_mix : FnOk P w K mg base CX0 1 fM dM _ sp_mix := ok_law_mix A_law_mix
  have G_law_site : FnOk P w K mg base CX0 1 fS dS _ (sp_site K) := ok_law_site A_law_site
  refine A.F.ok (k := 2) sc_law_lists (fun vs H Q E h => ?_) (fun cdv Ar outer s H vs Q E hr h => ?_)
  · obtain ⟨a, Wd, ns, ws, rfl, _⟩ := h
    rfl
  · obtain ⟨a, Wd, ns, ws, rfl, hS, hW, wo, k⟩ := h
    refine ⟨_, (pss_cons (ps_set (i := 2) sc_law_lists.nd rfl (Or.inr rfl) (pe_lst pa_nil))
      (pss_cons (ps_for PassesOwn.never rfl (pi_range2 rfl T.range_ (pa_cons pe_int (pa_cons (pe_callB (call_min2 rfl) (by rfl) T.min_ Boot.«min» (pa_cons (pe_callB call_len_seq (by rfl) T.len_ Boot.«len» (pa_cons (pv 0) pa_nil)) (pa_cons pe_int pa_nil))) pa_nil))) (pg_name (i := 3) sc_law_lists.nd rfl (Or.inl rfl)) (pss_cons (ps_set (i := 4) sc_law_lists.nd rfl (Or.inr rfl) (pe_call G_law_mix (hr.mono (by decide)) rfl A_law_mix.m A_law_mix.F.kp A_law_mix.b .nil pass0 (pa_cons (pe_ix ix_list (pv 0) (pv 3) (fun _ _ => rfl)) (pa_cons (pv 3) pa_nil))))
      (pss_cons (ps_set (i := 5) sc_law_lists.nd rfl (Or.inr rfl) (pe_op op_mod (pe_call G_law_mix (hr.mono (by decide)) rfl A_law_mix.m A_law_mix.F.kp A_law_mix.b .nil pass0 (pa_cons (pv 4) (pa_cons pe_int pa_nil))) (pe_callB call_len_seq (by rfl) T.len_ Boot.«len» (pa_cons (pv 1) pa_nil))))
      (pss_cons (ps_set (i := 6) sc_law_lists.nd rfl (Or.inr rfl) (pe_comp rfl (Nc := ["_law_place", "_law_turn", "_law_parts"]) (caps2 1 5 2 2 [(".0", .local), ("_law_place", .local), ("_law_site", .globalImplicit), ("_law_parts", .cell), ("_law_turn", .cell)] rfl rfl rfl (by decide +kernel) (by decide +kernel) rfl rfl (by decide) (by decide +kernel) rfl rfl rfl rfl rfl rfl rfl rfl) (pi_range1 rfl T.range_ (pa_cons (pe_callB call_len_seq (by rfl) T.len_ Boot.«len» (pa_cons (pv 2) pa_nil)) pa_nil)) (fun _ _ _ _ => (pg_name (i := 0) (show List.Nodup (["_law_place", "_law_turn", "_law_parts"] : List Str) by decide +kernel) rfl (Or.inl rfl))) (fun _ _ _ _ => by exact (pts_one (pt_cmpR op_gt (pe_call G_law_site (hr.mono (by decide)) rfl A_law_site.m A_law_site.F.kp A_law_site.b .nil pass0 (pa_cons (pe_ix (ix_listK (K := K) rfl) (pv 2) (pv 0) (fun _ _ => rfl)) pa_nil)) (pv 1) (nomark _)))) (fun _ _ _ _ => (pv 0))))
      (pss_one (ps_if (PW.pt (pw_or (pt_cmpR op_eq (pe_callB call_len_seq (by rfl) T.len_ Boot.«len» (pa_cons (pv 6) pa_nil)) pe_int (nomark _)) (pw_or1 (pt_cmpR op_eq (pe_op op_mod (pv 4) pe_int) pe_int (nomark _))))) (pss_one (ps_expr (pe_bm PySem.F.plainAttrs_list PySem.F.slot_list_append PySem.F.type_list_append mt_append (pv 2) (pa_cons (pe_tup (pa_cons pe_str (pa_cons (pe_call G_law_outcome hr rfl A_law_outcome.m A_law_outcome.F.kp A_law_outcome.b .nil pass0 (pa_cons (pe_op op_fdivP (pv 4) pe_int) pa_nil)) pa_nil))) pa_nil)))) (pss_cons (ps_comp (i := 7) rfl sc_law_lists.nd rfl (Or.inl rfl) (Nc := ["_law_j", "_law_some", "_law_cell"]) (caps2 1 6 2 4 [(".0", .local), ("_law_j", .local), ("_law_mix", .globalImplicit), ("len", .globalImplicit), ("_law_cell", .cell), ("_law_some", .cell)] rfl rfl rfl (by decide +kernel) (by decide +kernel) rfl rfl (by decide) (by decide +kernel) rfl rfl rfl rfl rfl rfl rfl rfl) (pi_range1 rfl T.range_ (pa_cons (pe_ix ix_list (pv 1) (pv 5) (fun _ _ => rfl)) pa_nil)) (fun _ _ _ _ => (pg_name (i := 0) (show List.Nodup (["_law_j", "_law_some", "_law_cell"] : List Str) by decide +kernel) rfl (Or.inl rfl))) (fun _ _ _ _ => pts_nil) (fun _ _ _ _ => by exact (pe_ix (ix_listK (K := K) rfl) (pv 1) (pe_op op_mod (pe_call G_law_mix (hr.mono (by decide)) rfl A_law_mix.m A_law_mix.F.kp A_law_mix.b .nil pass0 (pa_cons (pv 2) (pa_cons (pe_op op_add pe_int (pv 0)) pa_nil))) (pe_callB (call_len_seqK (K := K) rfl) (by rfl) T.len_ Boot.«len» (pa_cons (pv 1) pa_nil))) (fun _ _ => rfl))))
      (pss_one (ps_expr (pe_bm PySem.F.plainAttrs_list PySem.F.slot_list_append PySem.F.type_list_append mt_append (pv 2) (pa_cons (pe_tup (pa_cons pe_str (pa_cons (pv 5) (pa_cons (pv 7) pa_nil)))) pa_nil)))))))))))
      (pss_one (ps_ret (pv 2))))), ?_⟩
    have wl0 := wo.l0
    have wl4 := wo.l4
    have lW : (ws.map nI).length = ws.length := List.length_map ..
    refine ⟨Nat.zero_le _, fun A hA => ?_⟩
    have S4 := Same.upd (o := .lst []) hA
    have pa4 : PrsAt K (upd H A (.lst [])) A [] [] := ⟨upd_same, rfl, fun i v p h1 h2 => by simp at h1⟩
    generalize upd H A (.lst []) = H4 at S4 pa4
    refine ⟨_, rfl, a, _, rfl, .inl (S4.seq hS), _, _, rfl, ?_⟩
    have hmin : (if (62 : Int) < ((ns.map V.int).length : Int) then (62 : Int) else ((ns.map V.int).length : Int)) ≤ 62 ∧ 0 ≤ (if (62 : Int) < ((ns.map V.int).length : Int) then (62 : Int) else ((ns.map V.int).length : Int)) ∧ (if (62 : Int) < ((ns.map V.int).length : Int) then (62 : Int) else ((ns.map V.int).length : Int)) ≤ (ns.length : Int) := by
      rw [List.length_map]
      split <;> omega
    generalize (if (62 : Int) < ((ns.map V.int).length : Int) then (62 : Int) else ((ns.map V.int).length : Int)) = hm at hmin
    refine ⟨2, hm, rfl, ⟨by decide, by decide, by omega, by omega⟩, for_range (lo := 2) (n := (hm - 2).toNat) (fun j σ H' => Same H H' ∧ ∃ (us : List V) (parts : List Prt) (o3 o4 o5 o6 o7 : Option V), PrsAt K H' A us parts ∧ Gw ws parts ∧ parts.length = j ∧ σ = [some (.ref a), some (.ref Wd), some (.ref A), o3, o4, o5, o6, o7])
      ⟨S4, _, _, none, none, none, none, none, pa4, (fun i kk ch e => by simp at e), rfl, rfl⟩ ?_ ?_⟩
    · rintro j σ H5 hj ⟨S5, us, parts, o3, o4, o5, o6, o7, pa, gp, lp, rfl⟩
      have hus := pa.l
      have hjn : 2 + j < ns.length := by omega
      have hcell : (ns.map V.int)[2 + j]? = some (.int ns[2 + j]) := by rw [List.getElem?_map, List.getElem?_eq_getElem hjn]; rfl
      refine ⟨_, rfl, _, rfl, a, _, _, .int ns[2 + j], rfl, rfl, S5.seq hS, (by rw [show (2 : Int) + (j : Int) = ((2 + j : Nat) : Int) by omega]; exact atI_nat hcell), _, rfl, _, _, rfl, by omega, by omega, fun m m0 m1 => ?_⟩
      refine ⟨_, rfl, m, 1, rfl, by decide, by decide, fun mt mt0 mt1 => ⟨_, rfl, Wd, _, rfl, .inl (SqL.of (S5 _ _ hW)), _, _, rfl, rfl, (by show (0 : Int) < ((ws.map nI).length : Nat); omega), ?_⟩⟩
      dsimp only
      obtain ⟨sn, hsn, hsl⟩ : ∃ sn : Nat, mt % ((ws.map nI).length : Int) = (sn : Int) ∧ sn < ws.length := by
        have z0 := Int.emod_nonneg mt (show ((ws.map nI).length : Int) ≠ 0 by omega)
        have z1 := Int.emod_lt_of_pos mt (show (0 : Int) < ((ws.map nI).length : Int) by omega)
        exact ⟨(mt % ((ws.map nI).length : Int)).toNat, by omega, by omega⟩
      rw [hsn]
      -- places that may be children
      refine ⟨_, rfl, A, _, rfl, .inl (SqL.of pa.a), (us.length : Int), rfl, by omega, by omega, fun D hD => ?_⟩
      refine comp_range (lo := 0) (n := us.length) (D := D) (fun i σ ys H' => (∃ o1, σ = [o1, some (nI sn), some (.ref A)]) ∧ Same H5 H' ∧ H' D = some (.lst ys) ∧ ys.length ≤ i ∧ (∀ z ∈ ys, Okc parts ws.length sn z))
        ⟨⟨none, rfl⟩, .upd hD, upd_same, Nat.le_refl _, (fun _ h => nomatch h)⟩ ?_ ?_ ?_
      · rintro i σ ys H6 hi ⟨_, S6, eD, ly, _⟩
        exact ⟨eD, Nat.lt_of_le_of_lt (show ys.length ≤ 200 by omega) (by decide)⟩
      · rintro i σ ys H6 hi ⟨⟨o1, rfl⟩, S6, eD, ly, hy⟩ N hN
        obtain ⟨v, hv⟩ := get_ex (l := us) (i := i) hi
        obtain ⟨p, hp, pv'⟩ := (pa.same S6).at hv
        refine ⟨_, rfl, _, rfl, A, us, _, v, rfl, rfl, SqL.of (S6 _ _ pa.a), atI0 hv, v, A, p, rfl, pv', _, rfl, _, _, rfl, rfl, _, rfl, iteBB (fun hc => ?_) (fun hc => ?_)⟩
        · have hgt : sn < site ws.length p := site_gt (of_decide_eq_true hc) hsl
          refine ⟨_, rfl, eD, hN _ _ _ ⟨⟨_, rfl⟩, fun b o eb => ?_, upd_same, by rw [List.length_append]; show ys.length + 1 ≤ _; omega, fun z hz => ?_⟩⟩
          · rw [upd_ne (ne_of_none eb hD)]
            exact S6 _ _ eb
          · rcases List.mem_append.mp hz with z1 | z1
            · exact hy z z1
            · cases List.mem_singleton.mp z1
              exact ⟨i, by rw [Int.zero_add], p, hp, hgt⟩
        · exact hN _ _ _ ⟨⟨_, rfl⟩, S6, eD, by omega, hy⟩
      rintro σ zs H6 ⟨_, S6, e9, ly, zs_ok⟩
      replace pa := pa.same S6
      have S09 := S5.trans S6
      have ea9 := pa.a
      refine' restG (fun rest => ⟨_, rfl, D, _, rfl, .inl (SqL.of e9), rfl, _, rfl, iteBB (fun _ => iteT rest) (fun hc => ⟨_, rfl, _, _, rfl, rfl, (by show (0 : Int) < 4; decide), rfl, _, rfl, iteBB (fun _ => rest) (fun _ => ?els)⟩)⟩) ?lf
      case lf =>
        refine ⟨_, rfl, .inl ⟨rfl, _, SqL.of pa.a⟩, _, rfl, _, _, rfl, rfl, ⟨by decide, by decide +kernel⟩, m / 4, rfl, by omega, by omega, fun o ho v H7 S7 hv => ⟨two_le, fun t ht => ?_⟩⟩
        have S8 := Same.upd (o := .tup [.str "leaf", v]) ht
        have e8 : SqT K (upd H7 t (.tup [.str "leaf", v])) t [.str "leaf", v] := SqT.of upd_same
        generalize upd H7 t (.tup [.str "leaf", v]) = H8 at S8 e8
        have hv8 := hv.same S8
        replace pa := pa.same (S7.trans S8)
        refine ⟨A, us, _, rfl, rfl, pa.a, Nat.lt_of_le_of_lt (show us.length ≤ 200 by omega) (by decide), ?_⟩
        have S0 : Same H (upd H8 A (.lst (us ++ [.ref t]))) := fun b o eb => by
          rw [upd_ne (ne_of_none eb hA)]
          exact S8 _ _ (S7 _ _ (S09 _ _ eb))
        have done : ∀ p : Prt, PrtAt K A H8 (.ref t) p → (∀ k ch, p ≠ .ask k ch) → Same H (upd H8 A (.lst (us ++ [.ref t]))) ∧ ∃ (us' : List V) (parts' : List Prt), PrsAt K (upd H8 A (.lst (us ++ [.ref t]))) A us' parts' ∧ Gw ws parts' ∧ parts'.length = j + 1 := fun p hp np => ⟨S0, _, _, pa.push hp, gp.snoc fun k ch z => absurd z (np k ch), by rw [List.length_append, lp]; rfl⟩
        have fin : ∃ p : Prt, PrtAt K A H8 (.ref t) p ∧ ∀ k ch, p ≠ .ask k ch := by
          cases ho with
          | non =>
            have := hv8.non_eq
            subst this
            exact ⟨.no, .no t e8, fun _ _ z => nomatch z⟩
          | int n =>
            have := hv8.int_eq
            subst this
            exact ⟨.lf, .lf t (.int n) (fun z => nomatch z) ⟨_, .int n, hv8⟩ e8, fun _ _ z => nomatch z⟩
          | recd fs =>
            obtain ⟨r, vs, rfl, _, _⟩ := hv8.un
            exact ⟨.lf, .lf t (.ref r) (fun z => nomatch z) ⟨_, .recd fs, hv8⟩ e8, fun _ _ z => nomatch z⟩
        obtain ⟨p, hp, np⟩ := fin
        obtain ⟨z1, us', parts', z2, z3, z4⟩ := done p hp np
        exact ⟨z1, us', parts', _, _, _, _, _, z2, z3, z4, rfl⟩
      -- the question
      have zs_len : 0 < zs.length := by
        have h1 : ¬ ((zs.length : Int) = 0) := fun z => of_decide_eq_false hc (congrArg V.int z)
        omega
      obtain ⟨wd, hwd⟩ := get_ex hsl
      have wb := wo.w wd (List.mem_of_getElem? hwd)
      have hatW : atI (ws.map nI) (sn : Int) = some (nI wd) := atI_nat (by rw [List.getElem?_map, hwd]; rfl)
      refine ⟨_, rfl, _, rfl, Wd, _, _, nI wd, rfl, rfl, SqL.of (S09 _ _ hW), hatW, (wd : Int), rfl, by omega, by omega, fun D2 hD2 => ?_⟩
      refine comp_range (lo := 0) (n := (wd : Int).toNat) (D := D2) (fun i σ cs H' => (∃ o1, σ = [o1, some (.ref D), some (.int m)]) ∧ Same H6 H' ∧ H' D2 = some (.lst cs) ∧ ∃ ch : List Nat, cs = ch.map nI ∧ ch.length = i ∧ ∀ c ∈ ch, ∃ p', parts[c]? = some p' ∧ sn < site ws.length p')
        ⟨⟨none, rfl⟩, .upd hD2, upd_same, [], rfl, rfl, (fun _ h => nomatch h)⟩ ?_ ?_ ?_
      · rintro i σ cs H10 hi ⟨_, S10, eD2, ch, rfl, lc, _⟩
        exact ⟨eD2, Nat.lt_of_le_of_lt (show (ch.map nI).length ≤ 100 by rw [List.length_map]; omega) (by decide)⟩
      · rintro i σ cs H10 hi ⟨⟨o1, rfl⟩, S10, eD2, ch, rfl, lc, hch⟩ N hN
        refine iteT (B := True) ?_
        refine ⟨_, rfl, _, rfl, _, rfl, _, _, rfl, rfl, m, _, rfl, by omega, by omega, fun m2 m20 _ => ⟨_, rfl, D, _, rfl, .inl (SqL.of (S10 _ _ e9)), _, _, rfl, rfl, (by show (0 : Int) < (zs.length : Nat); omega), ?_⟩⟩
        have z0 := Int.emod_nonneg m2 (show ((zs.length : Nat) : Int) ≠ 0 by omega)
        have z1 := Int.emod_lt_of_pos m2 (show (0 : Int) < ((zs.length : Nat) : Int) by omega)
        obtain ⟨x, hx⟩ := get_ex (l := zs) (i := (m2 % (zs.length : Nat)).toNat) (by omega)
        obtain ⟨c2, rfl, p', hp', hs'⟩ := zs_ok x (List.mem_of_getElem? hx)
        have hat : atI zs (m2 % (zs.length : Nat)) = some (nI c2) := by
          have := atI_nat hx
          rw [show (((m2 % (zs.length : Nat)).toNat : Nat) : Int) = m2 % (zs.length : Nat) by omega] at this
          exact this
        refine ⟨D, zs, _, nI c2, rfl, rfl, SqL.of (S10 _ _ e9), hat, eD2, hN _ _ _ ⟨⟨_, rfl⟩, fun b o eb => ?_, upd_same, ch ++ [c2], by rw [List.map_append]; rfl, by rw [List.length_append, lc]; rfl, fun c hc => ?_⟩⟩
        · rw [upd_ne (ne_of_none eb hD2)]
          exact S10 _ _ eb
        · rcases List.mem_append.mp hc with z | z
          · exact hch c z
          · cases List.mem_singleton.mp z
            exact ⟨p', hp', hs'⟩
      rintro σ cs H10 ⟨_, S10, eD2, ch, rfl, lc, hch⟩
      replace pa := pa.same S10
      refine ⟨_, rfl, .inl ⟨rfl, _, SqL.of pa.a⟩, _, rfl, _, rfl, t3, fun t ht => ?_⟩
      have S11 := Same.upd (o := .tup [.str "ask", nI sn, .ref D2]) ht
      have e11 : SqT K (upd H10 t (.tup [.str "ask", nI sn, .ref D2])) t [.str "ask", nI sn, .ref D2] := SqT.of upd_same
      generalize upd H10 t (.tup [.str "ask", nI sn, .ref D2]) = H11 at S11 e11
      replace pa := pa.same S11
      have nDA : D2 ≠ A := fun z => by
        rw [z] at hD2
        exact absurd (ea9.symm.trans hD2) (fun y => nomatch y)
      refine ⟨A, us, _, rfl, rfl, pa.a, Nat.lt_of_le_of_lt (show us.length ≤ 200 by omega) (by decide), ?_⟩
      refine ⟨fun b o eb => ?_, _, _, _, _, _, _, _, pa.push (.ask t D2 sn ch e11 (S11 _ _ eD2) nDA), gp.snoc (fun k ch2 z => ?_), by rw [List.length_append, lp]; rfl, rfl⟩
      · rw [upd_ne (ne_of_none eb hA)]
        exact S11 _ _ (S10 _ _ (S09 _ _ eb))
      · cases z
        exact ⟨wd, hwd, by omega, hch⟩
    · rintro σ H' ⟨S, us, parts, o3, o4, o5, o6, o7, pa, gp, lp, rfl⟩
      exact ⟨_, rfl, k A H' us parts S pa gp (by omega)⟩
end
end K43
namespace K43
open PySem L2 FW PyProof.Rows M44
def longer (rows : List (List Nat)) (w : Nat) : List (List Nat) := rows.flatMap fun r => (List.range w).map fun t => r ++ [t]
def allRows (ws : List Nat) : List (List Nat) := ws.foldl longer [[]]
structure RvW (ws row : List Nat) : Prop where
  len : row.length = ws.length
  it : ∀ (k wd : Nat), ws[k]? = some wd → ∃ j, row[k]? = some j ∧ j < wd
theorem all_snoc (ws : List Nat) (w : Nat) : allRows (ws ++ [w]) = longer (allRows ws) w := by
  unfold allRows
  rw [List.foldl_append]
  rfl
theorem longer_len (rows : List (List Nat)) (w : Nat) : (longer rows w).length = rows.length * w := by
  unfold longer
  induction rows with
  | nil => simp
  | cons r rows ih => rw [List.flatMap_cons, List.length_append, ih, List.length_map, List.length_range, List.length_cons, Nat.add_mul]; omega
theorem all_len {ws : List Nat} (h : ∀ x ∈ ws, x ≤ 6) : (allRows ws).length ≤ 6 ^ ws.length := by
  have : ∀ (n : Nat), n ≤ ws.length → (allRows (ws.take n)).length ≤ 6 ^ n := fun n => by
    induction n with
    | zero => intro _; rw [List.take_zero]; exact Nat.le_refl _
    | succ n ih =>
      intro hn
      have hl : n < ws.length := by omega
      rw [take_snoc' (List.getElem?_eq_getElem hl), all_snoc, longer_len, Nat.pow_succ]
      exact Nat.mul_le_mul (ih (by omega)) (h _ (List.getElem_mem hl))
  have := this ws.length (Nat.le_refl _)
  rwa [List.take_of_length_le (Nat.le_refl _)] at this
theorem all_mem : ∀ (n : Nat) (ws : List Nat), ws.length = n → ∀ row, row ∈ allRows ws ↔ RvW ws row
  | 0, ws, hn, row => by
    have e : ws = [] := List.eq_nil_of_length_eq_zero hn
    subst e
    show row ∈ [[]] ↔ _
    rw [List.mem_singleton]
    exact ⟨fun z => by rw [z]; exact ⟨rfl, fun k wd h => by simp at h⟩, fun z => List.eq_nil_of_length_eq_zero z.len⟩
  | n + 1, ws, hn, row => by
    have ne : ws ≠ [] := fun z => by rw [z] at hn; simp at hn
    have e := List.dropLast_concat_getLast ne
    generalize ws.dropLast = vs at e
    generalize ws.getLast ne = w at e
    subst e
    have lv : vs.length = n := by
      rw [List.length_append] at hn
      simpa using hn
    rw [all_snoc]
    unfold longer
    rw [List.mem_flatMap]
    constructor
    · rintro ⟨r, hr, hrow⟩
      obtain ⟨t, ht, rfl⟩ := List.mem_map.mp hrow
      have rv := (all_mem n vs lv r).mp hr
      have lt := List.mem_range.mp ht
      refine ⟨by rw [List.length_append, List.length_append, rv.len]; rfl, fun k wd h => ?_⟩
      by_cases hk : k < vs.length
      · rw [List.getElem?_append_left hk] at h
        obtain ⟨j, h1, h2⟩ := rv.it k wd h
        exact ⟨j, by rw [List.getElem?_append_left (by rw [rv.len]; exact hk)]; exact h1, h2⟩
      · rw [List.getElem?_append_right (by omega)] at h
        have hz : k - vs.length = 0 := by
          have := (List.getElem?_eq_some_iff.mp h).1
          simp at this
          omega
        rw [hz] at h
        cases h
        refine ⟨t, ?_, lt⟩
        rw [List.getElem?_append_right (by rw [rv.len]; omega), rv.len, hz]
        rfl
    · intro rv
      have ll := rv.len
      rw [List.length_append] at ll
      have ll' : row.length = vs.length + 1 := ll
      have nr : row ≠ [] := fun z => by rw [z] at ll'; simp at ll'
      have er := List.dropLast_concat_getLast nr
      generalize row.dropLast = r at er
      generalize row.getLast nr = t at er
      subst er
      have lr : r.length = vs.length := by
        rw [List.length_append] at ll'
        simpa using ll'
      refine ⟨r, (all_mem n vs lv r).mpr ⟨lr, fun k wd h => ?_⟩, List.mem_map.mpr ⟨t, List.mem_range.mpr ?_, rfl⟩⟩
      · have hk := (List.getElem?_eq_some_iff.mp h).1
        obtain ⟨j, h1, h2⟩ := rv.it k wd (by rw [List.getElem?_append_left hk]; exact h)
        rw [List.getElem?_append_left (by omega)] at h1
        exact ⟨j, h1, h2⟩
      · obtain ⟨j, h1, h2⟩ := rv.it vs.length w (by rw [List.getElem?_append_right (Nat.le_refl _), Nat.sub_self]; rfl)
        rw [List.getElem?_append_right (by omega), lr, Nat.sub_self] at h1
        cases h1
        exact h2
/-- rows, each a list of its own -/
structure RwsAt (H : Hp) (Rr : Addr) (rs : List Addr) (rows : List (List Nat)) : Prop where
  a : H Rr = some (.lst (rs.map V.ref))
  l : rs.length = rows.length
  it : ∀ (i : Nat) (r : Addr) (row : List Nat), rs[i]? = some r → rows[i]? = some row → H r = some (.lst (row.map nI)) ∧ r ≠ Rr
theorem RwsAt.same {H H' : Hp} {Rr : Addr} {rs : List Addr} {rows : List (List Nat)} (h : RwsAt H Rr rs rows) (e : Same H H') : RwsAt H' Rr rs rows := ⟨e _ _ h.a, h.l, fun i r row h1 h2 => ⟨e _ _ (h.it i r row h1 h2).1, (h.it i r row h1 h2).2⟩⟩
theorem RwsAt.odd {H H' : Hp} {Rr a : Addr} {rs : List Addr} {rows : List (List Nat)} (h : RwsAt H Rr rs rows) (o : Odd H a) (e : BtA a H H') : RwsAt H' Rr rs rows := ⟨e _ _ (o.ne h.a) h.a, h.l, fun i r row h1 h2 => ⟨e _ _ (o.ne (h.it i r row h1 h2).1) (h.it i r row h1 h2).1, (h.it i r row h1 h2).2⟩⟩
theorem RwsAt.at {H : Hp} {Rr : Addr} {rs : List Addr} {rows : List (List Nat)} (h : RwsAt H Rr rs rows) {i : Nat} {v : V} (e : (rs.map V.ref)[i]? = some v) : ∃ r row, v = .ref r ∧ rs[i]? = some r ∧ rows[i]? = some row ∧ H r = some (.lst (row.map nI)) := by
  obtain ⟨r, h1, h2⟩ := map_get e
  have hi := (List.getElem?_eq_some_iff.mp h1).1
  have l := h.l
  have h3 : rows[i]? = some (rows[i]'(by omega)) := List.getElem?_eq_getElem (by omega)
  exact ⟨r, _, h2.symm, h1, h3, (h.it i r _ h1 h3).1⟩
theorem RwsAt.push {H : Hp} {Rr r : Addr} {rs : List Addr} {rows : List (List Nat)} {row : List Nat} (h : RwsAt H Rr rs rows) (e : H r = some (.lst (row.map nI))) (n : r ≠ Rr) : RwsAt (upd H Rr (.lst (rs.map V.ref ++ [.ref r]))) Rr (rs ++ [r]) (rows ++ [row]) := by
  refine ⟨by rw [upd_same, List.map_append]; rfl, by rw [List.length_append, List.length_append, h.l]; rfl, fun i x y e1 e2 => ?_⟩
  have l := h.l
  by_cases hi : i < rs.length
  · rw [List.getElem?_append_left hi] at e1
    rw [List.getElem?_append_left (by omega)] at e2
    have := h.it i x y e1 e2
    exact ⟨by rw [upd_ne this.2]; exact this.1, this.2⟩
  · rw [List.getElem?_append_right (by omega)] at e1 e2
    have hz : i - rs.length = 0 := by
      have := (List.getElem?_eq_some_iff.mp e1).1
      simp at this
      omega
    rw [hz] at e1
    rw [show i - rows.length = 0 by omega] at e2
    cases e1
    cases e2
    exact ⟨by rw [upd_ne n]; exact e, n⟩
def sp_rows (K : PySem.W.Frag) : Sp := fun vs H Q _ => ∃ (Wd : Addr) (ws : List Nat), vs = [.ref Wd] ∧ H Wd = some (.lst (ws.map nI)) ∧ WdOk ws ∧ ∀ (Rr : Addr) (H' : Hp) (rs : List Addr), Same H H' → RwsAt H' Rr rs (allRows ws) → Q (.ref Rr) H'
def sp_lead (K : PySem.W.Frag) : Sp := fun vs H Q _ => ∃ (A Ra : Addr) (us : List V) (parts : List Prt) (ws row : List Nat) (i : Nat), vs = [.ref A, nI i, .ref Ra] ∧ PrsAt K H A us parts ∧ H Ra = some (.lst (row.map nI)) ∧ Gw ws parts ∧ RvW ws row ∧ i < parts.length ∧ ∀ (u : V) (b : Bool), Ld parts row i b → (u = .non ↔ b = false) → Q u H
section
variable {P : Program} {w : World} {K : PySem.W.Frag} {mg : Str → Option Value} {base : Heap}
set_option maxHeartbeats 2000000 in
theorem ok_law_lead {f : Addr} {fd : FuncData} (A : FnAt K mg "_law_lead" s_law_lead ["_law_parts", "_law_place", "_law_row"] f fd) : FnOk P w K mg base CX0 1 f fd ["_law_parts", "_law_place", "_law_row"] (sp_lead K) := by
  refine A.F.ok sc_law_lead (fun vs H Q E h => ?_) (fun cdv Ar outer s H vs Q E hr h => ?_)
  · obtain ⟨A, Ra, us, parts, ws, row, i, rfl, _⟩ := h
    rfl
  · obtain ⟨A, Ra, us, parts, ws, row, i, rfl, pa, hR, gw, rv, hi, k⟩ := h
    refine ⟨_, (pss_cons (ps_set (i := 3) sc_law_lead.nd rfl (Or.inl rfl) (pe_ix ix_list (pv 0) (pv 1) (fun _ _ => rfl)))
      (pss_cons (ps_while PassesOwn.never (pt_cmpR op_eq (pe_ix ix_tup (pv 3) pe_int (fun _ _ => rfl)) pe_str (nomark _)) (pss_one (ps_set (i := 3) sc_law_lead.nd rfl (Or.inl rfl) (pe_ix ix_list (pv 0) (pe_ix ix_list (pe_ix ix_tup (pv 3) pe_int (fun _ _ => rfl)) (pe_ix ix_list (pv 2) (pe_ix ix_tup (pv 3) pe_int (fun _ _ => rfl)) (fun _ _ => rfl)) (fun _ _ => rfl)) (fun _ _ => rfl)))))
      (pss_one (ps_ret (pe_ix ix_tup (pv 3) pe_int (fun _ _ => rfl)))))), ?_⟩
    have lus := pa.l
    obtain ⟨v0, hv0⟩ := get_ex (l := us) (i := i) (by omega)
    refine ⟨_, rfl, _, rfl, A, us, _, v0, rfl, rfl, SqL.of pa.a, atI_nat hv0, ?_⟩
    refine ⟨fun m σ H' => H' = H ∧ ∃ v, us[m]? = some v ∧ σ = [some (.ref A), some (nI i), some (.ref Ra), some v] ∧ ∀ b, Ld parts row m b → Ld parts row i b, ⟨i, rfl, v0, hv0, rfl, fun _ z => z⟩, ?_⟩
    rintro c σ H' ⟨rfl, v, hv, rfl, ld⟩
    obtain ⟨p, hp, px⟩ := pa.at hv
    cases px with
    | no r sv =>
      refine ⟨_, rfl, r, _, 0, .str "leaf", rfl, rfl, sv, rfl, rfl, _, rfl, iteBB (fun hc => absurd hc (by decide +kernel)) (fun _ => ?_)⟩
      exact ⟨_, rfl, r, _, 1, .non, rfl, rfl, sv, rfl, k .non false (ld _ (.no c hp)) ⟨fun _ => rfl, fun _ => rfl⟩⟩
    | lf r u hu hd sv =>
      refine ⟨_, rfl, r, _, 0, .str "leaf", rfl, rfl, sv, rfl, rfl, _, rfl, iteBB (fun hc => absurd hc (by decide +kernel)) (fun _ => ?_)⟩
      exact ⟨_, rfl, r, _, 1, u, rfl, rfl, sv, rfl, k u true (ld _ (.lf c hp)) ⟨fun z => absurd z hu, fun z => nomatch z⟩⟩
    | ask r l kk ch sv hlc ne =>
      refine ⟨_, rfl, r, _, 0, .str "ask", rfl, rfl, sv, rfl, rfl, _, rfl, iteBB (fun _ => ?_) (fun hc => absurd hc (by decide +kernel))⟩
      obtain ⟨wd, hwd, lch, hch⟩ := gw c kk ch hp
      obtain ⟨j, hj, lj⟩ := rv.it kk wd hwd
      obtain ⟨c2, hc2⟩ := get_ex (l := ch) (i := j) (by omega)
      obtain ⟨lt, p', hp', _⟩ := hch c2 (List.mem_of_getElem? hc2)
      have lc2 := (List.getElem?_eq_some_iff.mp hp').1
      obtain ⟨v2, hv2⟩ := get_ex (l := us) (i := c2) (by omega)
      refine ⟨_, fun _ _ z => z, ?_⟩
      refine ⟨_, rfl, _, rfl, r, _, 2, .ref l, rfl, rfl, sv, rfl, _, rfl, _, rfl, r, _, 1, nI kk, rfl, rfl, sv, rfl, Ra, _, _, nI j, rfl, rfl, SqL.of hR, atI_nat (by rw [List.getElem?_map, hj]; rfl), l, _, _, nI c2, rfl, rfl, SqL.of hlc, atI_nat (by rw [List.getElem?_map, hc2]; rfl), A, us, _, v2, rfl, rfl, SqL.of pa.a, atI_nat hv2, ?_⟩
      exact ⟨c2, lt, rfl, v2, hv2, rfl, fun b z => ld b (.ask c kk j c2 ch b hp hj hc2 z)⟩
set_option maxHeartbeats 4000000 in
theorem ok_law_rows {f : Addr} {fd : FuncData} (A : FnAt K mg "_law_rows" s_law_rows ["_law_widths_here"] f fd) (T : Tb mg) : FnOk P w K mg base CX0 1 f fd ["_law_widths_here"] (sp_rows K) := by
  refine A.F.ok sc_law_rows (fun vs H Q E h => ?_) (fun cdv Ar outer s H vs Q E hr h => ?_)
  · obtain ⟨Wd, ws, rfl, _⟩ := h
    rfl
  · obtain ⟨Wd, ws, rfl, hW, wo, k⟩ := h
    refine ⟨_, (pss_cons (ps_set (i := 1) sc_law_rows.nd rfl (Or.inl rfl) (pe_lst (pa_cons (pe_lst pa_nil) pa_nil)))
      (pss_cons (ps_for PassesOwn.never rfl (pi_list (pv 0)) (pg_name (i := 2) sc_law_rows.nd rfl (Or.inl rfl)) (pss_cons (ps_set (i := 3) sc_law_rows.nd rfl (Or.inl rfl) (pe_lst pa_nil))
      (pss_cons (ps_for PassesOwn.never rfl (pi_list (pv 1)) (pg_name (i := 4) sc_law_rows.nd rfl (Or.inl rfl)) (pss_one (ps_for PassesOwn.never rfl (pi_range1 rfl T.range_ (pa_cons (pv 2) pa_nil)) (pg_name (i := 5) sc_law_rows.nd rfl (Or.inl rfl)) (pss_one (ps_expr (pe_bm PySem.F.plainAttrs_list PySem.F.slot_list_append PySem.F.type_list_append mt_append (pv 3) (pa_cons (pe_op op_cat (pv 4) (pe_lst (pa_cons (pv 5) pa_nil))) pa_nil)))))))
      (pss_one (ps_set (i := 1) sc_law_rows.nd rfl (Or.inl rfl) (pv 3))))))
      (pss_one (ps_ret (pv 1))))), ?_⟩
    have wl4 := wo.l4
    have lW : (ws.map nI).length = ws.length := List.length_map ..
    refine ⟨Nat.zero_le _, fun L0 hL0 => ⟨t1, fun R0 hR0 => ?_⟩⟩
    have S1 := (Same.upd (o := .lst []) hL0).trans (Same.upd (o := .lst [.ref L0]) hR0)
    have rw0 : RwsAt (upd (upd H L0 (.lst [])) R0 (.lst [.ref L0])) R0 [L0] (allRows []) := ⟨upd_same, rfl, fun i r row h1 h2 => by
      cases i with
      | zero =>
        cases h1
        cases h2
        exact ⟨(Same.upd hR0) _ _ upd_same, ne_of_none upd_same hR0⟩
      | succ i => cases h1⟩
    generalize upd (upd H L0 (.lst [])) R0 (.lst [.ref L0]) = H1 at S1 rw0
    refine ⟨_, rfl, Wd, rfl, ⟨_, SqL.of (S1 _ _ hW)⟩, for_list (K := K) (a := Wd) (xs := ws.map nI) (fun i σ H' => Same H H' ∧ ∃ (Rr : Addr) (rs : List Addr) (o2 o3 o4 o5 : Option V), RwsAt H' Rr rs (allRows (ws.take i)) ∧ σ = [some (.ref Wd), some (.ref Rr), o2, o3, o4, o5])
      ⟨S1, R0, [L0], none, none, none, none, rw0, rfl⟩ (fun i σ H' _ z => SqL.of (z.1 _ _ hW)) ?_ ?_⟩
    · rintro i x σ H2 hx ⟨S2, Rr, rs, o2, o3, o4, o5, rw2, rfl⟩
      obtain ⟨wd, hwd, rfl⟩ := map_get hx
      have wb := wo.w wd (List.mem_of_getElem? hwd)
      have hi := (List.getElem?_eq_some_iff.mp hwd).1
      have len2 : rs.length ≤ 216 := by
        rw [rw2.l]
        have h1 := all_len (ws := ws.take i) fun x hx => (wo.w x (List.mem_of_mem_take hx)).2
        rw [List.length_take] at h1
        have h2 : 6 ^ min i ws.length ≤ 6 ^ 3 := Nat.pow_le_pow_right (by decide) (by omega)
        exact Nat.le_trans h1 h2
      have rl : ∀ row ∈ allRows (ws.take i), row.length ≤ 100 := fun row hr => by
        have := ((all_mem _ (ws.take i) rfl row).mp hr).len
        rw [List.length_take] at this
        omega
      have hnext : allRows (ws.take (i + 1)) = longer (allRows (ws.take i)) wd := by rw [take_snoc' hwd, all_snoc]
      generalize allRows (ws.take i) = rows at rw2 rl hnext
      have lrs := rw2.l
      refine ⟨Nat.zero_le _, fun D hD => ?_⟩
      have S3 := Same.upd (o := .lst []) hD
      have rwD : RwsAt (upd H2 D (.lst [])) D [] (longer (rows.take 0) wd) := ⟨upd_same, rfl, fun i r row h1 => by simp at h1⟩
      generalize upd H2 D (.lst []) = H3 at S3 rwD
      have nD : ∀ {b : Addr} {o : HO}, H2 b = some o → b ≠ D := fun {b o} e => ne_of_none e hD
      refine ⟨_, rfl, Rr, rfl, ⟨_, SqL.of (S3 _ _ rw2.a)⟩, for_list (K := K) (a := Rr) (xs := rs.map V.ref) (fun j σ H' => Same H2 H' ∧ ∃ (ds : List Addr) (o4 o5 : Option V), RwsAt H' D ds (longer (rows.take j) wd) ∧ σ = [some (.ref Wd), some (.ref Rr), some (nI wd), some (.ref D), o4, o5])
        ⟨S3, [], _, _, rwD, rfl⟩ (fun j σ H' _ z => SqL.of (z.1 _ _ rw2.a)) ?_ ?_⟩
      · rintro j y σ H4 hy ⟨S4, ds, o4, o5, rwd, rfl⟩
        obtain ⟨r, row, rfl, hr2, hrow, er⟩ := (rw2.same S4).at hy
        have lj := (List.getElem?_eq_some_iff.mp hr2).1
        have ld := rwd.l
        rw [longer_len, List.length_take] at ld
        have ldb : ds.length ≤ 216 * 6 := by
          rw [ld]
          exact Nat.mul_le_mul (by omega) wb.2
        refine ⟨_, rfl, (wd : Int), rfl, by omega, by omega, for_range (lo := 0) (n := (wd : Int).toNat) (fun t σ H' => Same H2 H' ∧ ∃ (ds : List Addr) (o5 : Option V), ds.length ≤ 216 * 6 + t ∧ RwsAt H' D ds (longer (rows.take j) wd ++ (List.range t).map fun t => row ++ [t]) ∧ σ = [some (.ref Wd), some (.ref Rr), some (nI wd), some (.ref D), some (.ref r), o5])
          ⟨S4, ds, _, by omega, by rw [List.range_zero, List.map_nil, List.append_nil]; exact rwd, rfl⟩ ?_ ?_⟩
        · rintro t σ H5 ht ⟨S5, es, o5, le, rwe, rfl⟩
          have er5 := S5 _ _ (rw2.it j r row hr2 hrow).1
          refine ⟨_, rfl, .inl ⟨rfl, _, SqL.of rwe.a⟩, _, rfl, _, rfl, t1, fun b hb => ?_⟩
          have S6 := Same.upd (o := .lst [.int (0 + (t : Int))]) hb
          have e6 : (upd H5 b (.lst [.int (0 + (t : Int))])) b = some (.lst [.int (0 + (t : Int))]) := upd_same
          generalize upd H5 b (.lst [.int (0 + (t : Int))]) = H6 at S6 e6
          have lrow := rl row (List.mem_of_getElem? hrow)
          refine ⟨r, b, _, _, rfl, rfl, S6 _ _ er5, e6, Nat.le_trans (show (row.map nI).length + 1 ≤ 200 by rw [List.length_map]; omega) (by decide), fun q hq => ?_⟩
          have S7 := Same.upd (o := .lst (row.map nI ++ [.int (0 + (t : Int))])) hq
          have e7 : (upd H6 q (.lst (row.map nI ++ [.int (0 + (t : Int))]))) q = some (.lst ((row ++ [t]).map nI)) := by rw [upd_same, List.map_append, Int.zero_add]; rfl
          generalize upd H6 q (.lst (row.map nI ++ [.int (0 + (t : Int))])) = H7 at S7 e7
          have S57 := S6.trans S7
          have rw7 := rwe.same S57
          refine ⟨D, _, _, rfl, rfl, rw7.a, Nat.lt_of_le_of_lt (show (es.map V.ref).length ≤ 2000 by rw [List.length_map]; omega) (by decide), fun c o ec => ?_, es ++ [q], _, by rw [List.length_append]; show es.length + 1 ≤ _; omega, ?_, rfl⟩
          · rw [upd_ne (nD ec)]
            exact S57 _ _ (S5 _ _ ec)
          · rw [List.range_succ, List.map_append, ← List.append_assoc]
            exact rw7.push e7 (ne_of_none (S6 _ _ rwe.a) hq).symm
        · rintro σ H5 ⟨S5, es, o5, le, rwe, rfl⟩
          refine ⟨S5, es, _, _, ?_, rfl⟩
          have e8 : longer (rows.take (j + 1)) wd = longer (rows.take j) wd ++ (List.range wd).map fun t => row ++ [t] := by
            unfold longer
            rw [take_snoc' hrow, List.flatMap_append]
            simp
          rw [e8]
          rw [Int.toNat_natCast] at rwe
          exact rwe
      · rintro σ H4 ⟨S4, ds, o4, o5, rwd, rfl⟩
        rw [List.length_map, List.take_of_length_le (by omega)] at rwd
        refine ⟨_, rfl, S2.trans S4, D, ds, _, _, _, _, ?_, rfl⟩
        rw [hnext]
        exact rwd
    · rintro σ H2 ⟨S2, Rr, rs, o2, o3, o4, o5, rw2, rfl⟩
      rw [lW, List.take_of_length_le (Nat.le_refl _)] at rw2
      exact ⟨_, rfl, k Rr H2 rs S2 rw2⟩
end
end K43
namespace L2
open PySem PySem.Spec PyProof.Rows
section
variable {X : Cx} {K : PySem.W.Frag}
theorem sl_tupK (hK : X.K = K) : SlR X (rSlT K) := by
  subst hK
  exact sl_tup
theorem op_catTK (hK : X.K = K) : OpR X (binaryOp .Add) (rCatT K) := by
  subst hK
  exact op_catT
theorem call_tuple_ofK (hK : X.K = K) : CallR X (.type "tuple") (fun xs H Q => ∃ p ys, xs = [.ref p] ∧ ((SqL K H p ys ∧ ∀ l, H l = none → Q (.ref l) (upd H l (.tup ys))) ∨ (SqT K H p ys ∧ Q (.ref p) H))) := by
  subst hK
  exact call_tuple_of
theorem pi_tupK {tg l : Expr} {tl : TE} (hK : X.K = K) (hl : PE X l tl) : PI X tg l (iTup K tl) := by
  subst hK
  exact pi_tup hl
end
end L2
namespace K43
open PySem L2 FW PyProof.Rows M44
/-- two leaves of one outcome, or two questions -/
inductive Cp (K : PySem.W.Frag) (H : Hp) : V → V → Prt → Prop
  | lf (r q : Addr) (u : V) (o : Dt) (p : Prt) (np : ∀ k ch, p ≠ .ask k ch) (ho : Oc o) (hu : DatAt K H u o) (sr : SqT K H r [.str "leaf", u]) (sq : SqT K H q [.str "leaf", u]) : Cp K H (.ref r) (.ref q) p
  | ask (x y : V) (k : Nat) (ch : List Nat) : Cp K H x y (.ask k ch)
theorem Cp.same {K : PySem.W.Frag} {H H' : Hp} {x y : V} {p : Prt} (h : Cp K H x y p) (e : Same H H') : Cp K H' x y p := by
  cases h with
  | lf r q u o p np ho hu sr sq => exact .lf r q u o p np ho (hu.same e) (e.tup sr) (e.tup sq)
  | ask x y k ch => exact .ask x y k ch
theorem Cp.push {K : PySem.W.Frag} {Z : Addr} {H : Hp} {x y : V} {p : Prt} {xs ys : List V} (h : Cp K H x y p) (e : H Z = some (.lst xs)) : Cp K (upd H Z (.lst ys)) x y p := by
  cases h with
  | lf r q u o p np ho hu sr sq => exact .lf r q u o p np ho (hu.updL e) (sqT_upd e sr) (sqT_upd e sq)
  | ask x y k ch => exact .ask x y k ch
theorem Cp.odd {K : PySem.W.Frag} {a : Addr} {H H' : Hp} {x y : V} {p : Prt} (h : Cp K H x y p) (o : Odd H a) (e : BtA a H H') : Cp K H' x y p := by
  cases h with
  | lf r q u d p np ho hu sr sq => exact .lf r q u d p np ho (hu.but o.nt e) (sqT_but o.nt e sr) (sqT_but o.nt e sq)
  | ask x y k ch => exact .ask x y k ch
theorem dats_nat {K : PySem.W.Frag} {H : Hp} : ∀ ch : List Nat, DatsAt K H (ch.map nI) (ch.map fun c : Nat => Dt.int (c : Int))
  | [] => .nil
  | c :: ch => .cons (.int _) (dats_nat ch)
theorem hgts_nat : ∀ ch : List Nat, Dt.hgts (ch.map fun c : Nat => Dt.int (c : Int)) ≤ 30
  | [] => by simp [Dt.hgts]
  | c :: ch => by
    have := hgts_nat ch
    simp only [List.map_cons, Dt.hgts, Dt.hgt]
    omega
theorem Cp.pq {K : PySem.W.Frag} {H : Hp} {A B : Addr} {x y : V} {p : Prt} (h : Cp K H x y p) (px : PrtAt K A H x p) (py : PrtAt K B H y p) : PqAt K H x y := by
  cases h with
  | lf r q u o p np ho hu sr sq =>
    refine ⟨r, q, _, _, rfl, rfl, sr, sq, rfl, fun i a b e1 e2 => ?_⟩
    match i, e1, e2 with
    | 0, e1, e2 => cases e1; cases e2; exact .dat (.str "leaf") (.str _) (.str _) (by decide)
    | 1, e1, e2 => cases e1; cases e2; exact .dat o hu hu (Nat.le_trans ho.hgt (by decide))
    | j + 2, e1, e2 => simp at e1
  | ask x y k ch =>
    cases px with
    | ask r l _ _ sr hl ne =>
      cases py with
      | ask q m _ _ sq hm ne2 =>
        refine ⟨r, q, _, _, rfl, rfl, sr, sq, rfl, fun i a b e1 e2 => ?_⟩
        match i, e1, e2 with
        | 0, e1, e2 => cases e1; cases e2; exact .dat (.str "ask") (.str _) (.str _) (by decide)
        | 1, e1, e2 => cases e1; cases e2; exact .dat (.int k) (.int _) (.int _) (by simp [Dt.hgt])
        | 2, e1, e2 => cases e1; cases e2; exact .lst l m (ch.map fun c : Nat => Dt.int (c : Int)) ⟨_, hl, dats_nat ch⟩ ⟨_, hm, dats_nat ch⟩ (hgts_nat ch)
        | j + 3, e1, e2 => simp at e1
def sp_copy (K : PySem.W.Frag) : Sp := fun vs H Q _ => ∃ (A : Addr) (us : List V) (parts : List Prt), vs = [.ref A] ∧ PrsAt K H A us parts ∧ parts.length ≤ 100 ∧ ∀ (B : Addr) (H' : Hp) (zs : List V), Same H H' → H B = none → PrsAt K H' B zs parts → (∀ (i : Nat) (v x : V) (p : Prt), zs[i]? = some v → us[i]? = some x → parts[i]? = some p → Cp K H' v x p) → Q (.ref B) H'
section
variable {P : Program} {w : World} {K : PySem.W.Frag} {mg : Str → Option Value} {base : Heap}
set_option maxHeartbeats 2000000 in
theorem ok_law_copy {f : Addr} {fd : FuncData} (A : FnAt K mg "_law_copy" s_law_copy ["_law_parts"] f fd) (T : Tb mg) : FnOk P w K mg base CX0 1 f fd ["_law_parts"] (sp_copy K) := by
  refine A.F.ok sc_law_copy (fun vs H Q E h => ?_) (fun cdv Ar outer s H vs Q E hr h => ?_)
  · obtain ⟨A, us, parts, rfl, _⟩ := h
    rfl
  · obtain ⟨A, us, parts, rfl, pa, hl, k⟩ := h
    refine ⟨_, (pss_one (ps_ret (pe_comp rfl (Nc := ["_law_entry"]) (caps0 rfl (by decide +kernel) (by decide +kernel) (by decide +kernel)) (pi_list (pv 0)) (fun _ _ _ _ => (pg_name (i := 0) (show List.Nodup (["_law_entry"] : List Str) by decide +kernel) rfl (Or.inl rfl))) (fun _ _ _ _ => pts_nil) (fun _ _ _ _ => by exact (pe_op (op_catTK (K := K) rfl) (pe_tup (pa_cons (pe_ix (ix_tupK (K := K) rfl) (pv 0) pe_int (fun _ _ => rfl)) (pa_cons (pe_ix (ix_tupK (K := K) rfl) (pv 0) pe_int (fun _ _ => rfl)) pa_nil))) (pe_callTy (call_tuple_ofK (K := K) rfl) (by rfl) T.tuple_ Boot.«tuple» (pa_cons (pe_comp rfl (Nc := ["_law_children"]) (caps0 rfl (by decide +kernel) (by decide +kernel) (by decide +kernel)) (pi_tupK (K := K) rfl (pe_slice (sl_tupK (K := K) rfl) (pv 0) (po_some pe_int) po_none)) (fun _ _ _ _ => (pg_name (i := 0) (show List.Nodup (["_law_children"] : List Str) by decide +kernel) rfl (Or.inl rfl))) (fun _ _ _ _ => pts_nil) (fun _ _ _ _ => by exact (pe_callTy (call_list_ofK (K := K) rfl) (by rfl) T.list_ Boot.«list» (pa_cons (pv 0) pa_nil)))) pa_nil))))))), ?_⟩
    have lus := pa.l
    refine ⟨_, rfl, A, rfl, ⟨_, SqL.of pa.a⟩, fun B hB => ?_⟩
    refine comp_list (K := K) (a := A) (D := B) (xs := us) (fun i σ ys H' => (∃ o1, σ = [o1]) ∧ Same H H' ∧ H' B = some (.lst ys) ∧ ys.length = i ∧ (∀ (j : Nat) (v : V) (p : Prt), ys[j]? = some v → parts[j]? = some p → PrtAt K B H' v p) ∧ ∀ (j : Nat) (v x : V) (p : Prt), ys[j]? = some v → us[j]? = some x → parts[j]? = some p → Cp K H' v x p)
      ⟨⟨none, rfl⟩, .upd hB, upd_same, rfl, (fun j v p h => by simp at h), (fun j v x p h => by simp at h)⟩ ?_ ?_ ?_
    · rintro i σ ys H' hi ⟨_, S, eB, ly, _, _⟩
      exact ⟨SqL.of (S _ _ pa.a), eB, Nat.lt_of_le_of_lt (show ys.length ≤ 100 by omega) (by decide)⟩
    · rintro i x σ ys H' hx ⟨⟨o1, rfl⟩, S, eB, ly, hy, hcp⟩ N hN
      obtain ⟨p, hp, px⟩ := (pa.same S).at hx
      refine iteT (B := True) ?_
      have fin : ∀ {v : V} {H2 : Hp}, Same H' H2 → PrtAt K B H2 v p → Cp K H2 v x p → H2 B = some (.lst ys) ∧ N [some x] (ys ++ [v]) (upd H2 B (.lst (ys ++ [v]))) := fun {v H2} S2 pv cpv => by
        have eB2 := S2 _ _ eB
        refine ⟨eB2, hN _ _ _ ⟨⟨_, rfl⟩, fun b o eb => ?_, upd_same, by rw [List.length_append, ly]; rfl, fun j v' p' h1 h2 => ?_, fun j v' x' p' h1 h3 h2 => ?_⟩⟩
        · rw [upd_ne (ne_of_none eb hB)]
          exact S2 _ _ (S _ _ eb)
        · by_cases hj : j < ys.length
          · rw [List.getElem?_append_left hj] at h1
            exact ((hy j v' p' h1 h2).same S2).push eB2
          · rw [List.getElem?_append_right (by omega)] at h1
            have hj2 : j - ys.length = 0 := by
              have := (List.getElem?_eq_some_iff.mp h1).1
              simp at this
              omega
            rw [hj2] at h1
            cases h1
            have : j = i := by omega
            subst this
            rw [hp] at h2
            cases h2
            exact pv.push eB2
        · by_cases hj : j < ys.length
          · rw [List.getElem?_append_left hj] at h1
            exact ((hcp j v' x' p' h1 h3 h2).same S2).push eB2
          · rw [List.getElem?_append_right (by omega)] at h1
            have hj2 : j - ys.length = 0 := by
              have := (List.getElem?_eq_some_iff.mp h1).1
              simp at this
              omega
            rw [hj2] at h1
            cases h1
            have : j = i := by omega
            subst this
            rw [hp] at h2
            cases h2
            rw [hx] at h3
            cases h3
            exact cpv.push eB2
      have key : (∃ (r : Addr) (u : V), x = .ref r ∧ SqT K H' r [.str "leaf", u] ∧ ∀ (t : Addr) (H2 : Hp), Same H' H2 → SqT K H2 t [.str "leaf", u] → PrtAt K B H2 (.ref t) p ∧ Cp K H2 (.ref t) x p) ∨ (∃ (r l : Addr) (kk : Nat) (ch : List Nat), x = .ref r ∧ p = .ask kk ch ∧ SqT K H' r [.str "ask", nI kk, .ref l] ∧ H' l = some (.lst (ch.map nI))) := by
        cases px with
        | no r sv => exact .inl ⟨r, _, rfl, sv, fun t _ e s => ⟨.no _ s, .lf t r .non .non _ (fun _ _ z => nomatch z) .non .non s (e.tup sv)⟩⟩
        | lf r u hu hd sv => exact .inl ⟨r, u, rfl, sv, fun t _ e s => ⟨.lf _ u hu (hd.imp fun o h => ⟨h.1, h.2.same e⟩) s, let ⟨o, h1, h2⟩ := hd; .lf t r u o _ (fun _ _ z => nomatch z) h1 (h2.same e) s (e.tup sv)⟩⟩
        | ask r l kk ch sv hlc ne => exact .inr ⟨r, l, kk, ch, rfl, rfl, sv, hlc⟩
      rcases key with ⟨r, u, rfl, sv, mk⟩ | ⟨r, l, kk, ch, rfl, rfl, sv, hlc⟩
      · clear px
        refine ⟨_, rfl, r, _, 0, .str "leaf", rfl, rfl, sv, rfl, _, rfl, r, _, 1, u, rfl, rfl, sv, rfl, two_le, fun t ht => ?_⟩
        have S1 := Same.upd (o := .tup [.str "leaf", u]) ht
        have e1 : (upd H' t (.tup [.str "leaf", u])) t = some (.tup [.str "leaf", u]) := upd_same
        generalize upd H' t (.tup [.str "leaf", u]) = H1 at S1 e1
        refine ⟨_, rfl, _, rfl, r, _, rfl, S1.tup sv, (fun z => absurd z.1 (by show ¬ (HT.sIx 2 0 (some 2) = 0); decide)), fun q hq => ?_⟩
        have S2 := Same.upd (o := .tup (cutV [.str "leaf", u] (some 2) none)) hq
        have e2 : (upd H1 q (.tup (cutV [.str "leaf", u] (some 2) none))) q = some (.tup []) := upd_same
        generalize upd H1 q (.tup (cutV [.str "leaf", u] (some 2) none)) = H2 at S2 e2
        refine ⟨q, rfl, ⟨_, SqT.of e2⟩, fun D hD => ?_⟩
        refine comp_tup (K := K) (a := q) (D := D) (xs := []) (fun i σ zs H3 => zs = [] ∧ Same H2 H3 ∧ H3 D = some (.lst zs)) ⟨rfl, .upd hD, upd_same⟩ ?_ ?_ ?_
        · rintro i σ zs H3 _ ⟨rfl, S3, eD⟩
          exact ⟨S3.tup (SqT.of e2), eD, by decide⟩
        · rintro i x σ zs H3 hx
          simp at hx
        · rintro σ zs H3 ⟨rfl, S3, eD⟩
          refine ⟨D, [], rfl, .inl ⟨SqL.of eD, fun q2 hq2 => ?_⟩⟩
          have S4 := Same.upd (o := .tup []) hq2
          have S14 := S2.trans (S3.trans S4)
          refine ⟨t, q2, _, _, rfl, rfl, SqT.of (S14 _ _ e1), SqT.of upd_same, (by simp), (by show 2 ≤ sizeLine; decide), fun _ => ?_, fun z => absurd rfl z⟩
          exact fin (S1.trans S14) (mk _ _ (S1.trans S14) (SqT.of (S14 _ _ e1))).1 (mk _ _ (S1.trans S14) (SqT.of (S14 _ _ e1))).2
      · clear px
        refine ⟨_, rfl, r, _, 0, .str "ask", rfl, rfl, sv, rfl, _, rfl, r, _, 1, nI kk, rfl, rfl, sv, rfl, two_le, fun t ht => ?_⟩
        have S1 := Same.upd (o := .tup [.str "ask", nI kk]) ht
        have e1 : (upd H' t (.tup [.str "ask", nI kk])) t = some (.tup [.str "ask", nI kk]) := upd_same
        generalize upd H' t (.tup [.str "ask", nI kk]) = H1 at S1 e1
        refine ⟨_, rfl, _, rfl, r, _, rfl, S1.tup sv, (fun z => absurd z.1 (by show ¬ (HT.sIx 3 0 (some 2) = 0); decide)), fun q hq => ?_⟩
        have S2 := Same.upd (o := .tup (cutV [.str "ask", nI kk, .ref l] (some 2) none)) hq
        have e2 : (upd H1 q (.tup (cutV [.str "ask", nI kk, .ref l] (some 2) none))) q = some (.tup [.ref l]) := upd_same
        generalize upd H1 q (.tup (cutV [.str "ask", nI kk, .ref l] (some 2) none)) = H2 at S2 e2
        have S02 := S1.trans S2
        refine ⟨q, rfl, ⟨_, SqT.of e2⟩, fun D hD => ?_⟩
        refine comp_tup (K := K) (a := q) (D := D) (xs := [.ref l]) (fun i σ zs H3 => (∃ o1, σ = [o1]) ∧ Same H2 H3 ∧ H3 D = some (.lst zs) ∧ (i = 0 → zs = []) ∧ (i = 1 → ∃ l', zs = [.ref l'] ∧ H3 l' = some (.lst (ch.map nI)) ∧ H2 l' = none)) ⟨⟨none, rfl⟩, .upd hD, upd_same, (fun _ => rfl), (fun z => nomatch z)⟩ ?_ ?_ ?_
        · rintro i σ zs H3 hi ⟨_, S3, eD, z0, z1⟩
          refine ⟨S3.tup (SqT.of e2), eD, Nat.lt_of_le_of_lt (show zs.length ≤ 1 from ?_) (by decide)⟩
          rcases (show i = 0 ∨ i = 1 by have : [V.ref l].length = 1 := rfl; omega) with rfl | rfl
          · rw [z0 rfl]; decide
          · obtain ⟨l', e, _⟩ := z1 rfl
            rw [e]; exact Nat.le_refl 1
        · rintro i x σ zs H3 hx ⟨⟨o1, rfl⟩, S3, eD, z0, z1⟩ N2 hN2
          have hi0 : i = 0 := by
            have := (List.getElem?_eq_some_iff.mp hx).1
            have e : [V.ref l].length = 1 := rfl
            omega
          subst hi0
          cases hx
          cases z0 rfl
          refine iteT (B := True) ?_
          refine ⟨_, rfl, l, _, rfl, .inl (SqL.of (S3 _ _ (S02 _ _ hlc))), fun l' hl' => ?_⟩
          have S4 := Same.upd (o := .lst (ch.map nI)) hl'
          have e4 : (upd H3 l' (.lst (ch.map nI))) l' = some (.lst (ch.map nI)) := upd_same
          generalize upd H3 l' (.lst (ch.map nI)) = H4 at S4 e4
          have nD : l' ≠ D := (ne_of_none eD hl').symm
          refine ⟨S4 _ _ eD, hN2 _ _ _ ⟨⟨_, rfl⟩, fun b o eb => ?_, upd_same, (fun z => nomatch z), fun _ => ⟨l', rfl, by rw [upd_ne nD]; exact e4, S3.free hl'⟩⟩⟩
          rw [upd_ne (ne_of_none eb hD)]
          exact S4 _ _ (S3 _ _ eb)
        · rintro σ zs H3 ⟨_, S3, eD, _, z1⟩
          obtain ⟨l', rfl, el', fl'⟩ := z1 rfl
          refine ⟨D, _, rfl, .inl ⟨SqL.of eD, fun q2 hq2 => ?_⟩⟩
          have S4 := Same.upd (o := .tup [.ref l']) hq2
          have e4 : (upd H3 q2 (.tup [.ref l'])) q2 = some (.tup [.ref l']) := upd_same
          generalize upd H3 q2 (.tup [.ref l']) = H4 at S4 e4
          have S14 := S2.trans (S3.trans S4)
          refine ⟨t, q2, _, _, rfl, rfl, SqT.of (S14 _ _ e1), SqT.of e4, (by simp), (by show 2 + 1 ≤ sizeLine; decide), (fun z => nomatch z), fun _ z hz => ?_⟩
          have S5 := Same.upd (o := .tup ([.str "ask", nI kk] ++ [.ref l'])) hz
          exact fin (S1.trans (S14.trans S5)) (.ask z l' kk ch (SqT.of upd_same) (S5 _ _ (S4 _ _ el')) (ne_of_none (S02 _ _ eB) fl').symm) (.ask _ _ kk ch)
    · rintro σ ys H' ⟨_, S, eB, ly, hy, hcp⟩
      exact k B H' ys S hB ⟨eB, by omega, hy⟩ hcp
end
end K43
namespace K43
open PySem L2 FW PyProof.Rows M44
theorem rv_of {ws row : List Nat} {P : List (List (Int × Int))} (e : P.map List.length = ws) : RvW ws row ↔ Rv (Dw P) row := by
  have lP : P.length = ws.length := by rw [← e, List.length_map]
  constructor
  · intro h
    refine ⟨by rw [h.len, dw_len, lP], fun k d hd => ?_⟩
    obtain ⟨p, hp, rfl⟩ := map_get hd
    obtain ⟨j, h1, h2⟩ := h.it k p.length (by rw [← e, List.getElem?_map, hp]; rfl)
    exact ⟨j, h1, by rw [List.length_map]; exact h2⟩
  · intro h
    refine ⟨by rw [h.len, dw_len, lP], fun k wd hk => ?_⟩
    rw [← e] at hk
    obtain ⟨p, hp, rfl⟩ := map_get hk
    obtain ⟨j, h1, h2⟩ := h.it k (wts p) (by rw [List.getElem?_map, hp]; rfl)
    exact ⟨j, h1, by rw [List.length_map] at h2; exact h2⟩
theorem Bst.nil (D : List (List Int)) (ps : List Prt) (i s : Nat) : Bst D ps [] i s 0 := ⟨Int.le_refl _, (fun _ h => nomatch h), .inl rfl⟩
theorem Bst.no {D : List (List Int)} {ps : List Prt} {rows : List (List Nat)} {i s : Nat} {g : Int} {row : List Nat} (h : Bst D ps rows i s g) (l : Ld ps row i false) : Bst D ps (rows ++ [row]) i s g := by
  refine ⟨h.nn, fun r hr lr => ?_, ?_⟩
  · rcases List.mem_append.mp hr with z | z
    · exact h.up r z lr
    · cases List.mem_singleton.mp z
      exact absurd (lr.det l) (by decide)
  · rcases h.at_ with z | ⟨r, h1, h2⟩
    · exact .inl z
    · exact .inr ⟨r, List.mem_append_left _ h1, h2⟩
theorem Bst.yes {D : List (List Int)} {ps : List Prt} {rows : List (List Nat)} {i s : Nat} {g : Int} {row : List Nat} (h : Bst D ps rows i s g) (l : Ld ps row i true) : Bst D ps (rows ++ [row]) i s (if Wt D row s > g then Wt D row s else g) := by
  have nn := h.nn
  by_cases z : Wt D row s > g
  · rw [if_pos z]
    refine ⟨by omega, fun r hr lr => ?_, .inr ⟨row, List.mem_append_right _ (List.mem_singleton.mpr rfl), l, rfl⟩⟩
    rcases List.mem_append.mp hr with y | y
    · have := h.up r y lr
      omega
    · cases List.mem_singleton.mp y
      exact Int.le_refl _
  · rw [if_neg z]
    refine ⟨nn, fun r hr lr => ?_, ?_⟩
    · rcases List.mem_append.mp hr with y | y
      · exact h.up r y lr
      · cases List.mem_singleton.mp y
        omega
    · rcases h.at_ with y | ⟨r, h1, h2⟩
      · exact .inl y
      · exact .inr ⟨r, List.mem_append_left _ h1, h2⟩
theorem prodI_snoc (l : List Int) (x : Int) : prodI (l ++ [x]) = prodI l * x := by
  rw [prodI_append]
  simp [prodI]
def Tw (D : List (List Int)) (s n : Nat) : Int := prodI (((D.drop s).take n).map List.sum)
theorem Tw_succ {D : List (List Int)} {s n : Nat} {d : List Int} (h : D[s + n]? = some d) : Tw D s (n + 1) = Tw D s n * d.sum := by
  unfold Tw
  rw [List.take_add_one, List.getElem?_drop, h, List.map_append]
  show prodI (_ ++ [d.sum]) = _
  rw [prodI_snoc]
theorem Tw_end {D : List (List Int)} {s : Nat} : Tw D s (D.length - s) = Ts D s := by
  unfold Tw Ts
  rw [List.take_of_length_le (by rw [List.length_drop]; exact Nat.le_refl _)]
def sp_due (K : PySem.W.Frag) : Sp := fun vs H Q _ => ∃ (A Rr DA : Addr) (us : List V) (parts : List Prt) (ws : List Nat) (rs : List Addr) (ps : List (Addr × List Dt)) (P : List (List (Int × Int))) (i : Nat) (p : Prt), vs = [.ref A, nI i, .ref Rr, .ref DA] ∧ PrsAt K H A us parts ∧ Gw ws parts ∧ WdOk ws ∧ RwsAt H Rr rs (allRows ws) ∧ DrsAt K H DA ps P ∧ P.map List.length = ws ∧ parts[i]? = some p ∧
  ∀ best : Int, Bst (Dw P) parts (allRows ws) i (site (Dw P).length p) best → ∀ (t : Addr) (H' : Hp), Same H H' → H' t = some (.tup [.int best, .int (Ts (Dw P) (site (Dw P).length p))]) → Q (.ref t) H'
section
variable {P : Program} {w : World} {K : PySem.W.Frag} {mg : Str → Option Value} {base : Heap}
set_option maxHeartbeats 8000000 in
theorem ok_law_due {f fS fL : Addr} {fd dS dL : FuncData} (A : FnAt K mg "_law_due" s_law_due ["_law_parts", "_law_place", "_law_rows_here", "_law_draws_here"] f fd) (A_law_site : FnAt K mg "_law_site" s_law_site ["_law_entry"] fS dS) (A_law_lead : FnAt K mg "_law_lead" s_law_lead ["_law_parts", "_law_place", "_law_row"] fL dL) (T : Tb mg) : FnOk P w K mg base CX0 2 f fd ["_law_parts", "_law_place", "_law_rows_here", "_law_draws_here"] (sp_due K) := by
  have G_law_site : FnOk P w K mg base CX0 1 fS dS _ (sp_site K) := ok_law_site A_law_site
  have G_law_lead : FnOk P w K mg base CX0 1 fL dL _ (sp_lead K) := ok_law_lead A_law_lead
  refine A.F.ok (k := 1) sc_law_due (fun vs H Q E h => ?_) (fun cdv Ar outer s H vs Q E hr h => ?_)
  · obtain ⟨A, Rr, DA, us, parts, ws, rs, ps, P, i, p, rfl, _⟩ := h
    rfl
  · obtain ⟨A, Rr, DA, us, parts, ws, rs, ps, Pd, i, p, rfl, pa, gw, wo, rw_, da, eP, hp, k⟩ := h
    refine ⟨_, (pss_cons (ps_set (i := 4) sc_law_due.nd rfl (Or.inl rfl) (pe_callB (call_min2 rfl) (by rfl) T.min_ Boot.«min» (pa_cons (pe_call G_law_site (hr.mono (by decide)) rfl A_law_site.m A_law_site.F.kp A_law_site.b .nil pass0 (pa_cons (pe_ix ix_list (pv 0) (pv 1) (fun _ _ => rfl)) pa_nil)) (pa_cons (pe_callB call_len_seq (by rfl) T.len_ Boot.«len» (pa_cons (pv 3) pa_nil)) pa_nil))))
      (pss_cons (ps_set (i := 5) sc_law_due.nd rfl (Or.inl rfl) pe_int)
      (pss_cons (ps_for PassesOwn.never rfl (pi_list (pv 2)) (pg_name (i := 6) sc_law_due.nd rfl (Or.inl rfl)) (pss_cons (ps_set (i := 7) sc_law_due.nd rfl (Or.inl rfl) pe_int)
      (pss_cons (ps_for PassesOwn.never rfl (pi_range2 rfl T.range_ (pa_cons (pv 4) (pa_cons (pe_callB call_len_seq (by rfl) T.len_ Boot.«len» (pa_cons (pv 3) pa_nil)) pa_nil))) (pg_name (i := 8) sc_law_due.nd rfl (Or.inl rfl)) (pss_one (ps_set (i := 7) sc_law_due.nd rfl (Or.inl rfl) (pe_op op_mulB (pv 7) (pe_ix ix_tup (pe_ix ix_list (pe_ix ix_list (pv 3) (pv 8) (fun _ _ => rfl)) (pe_ix ix_list (pv 6) (pv 8) (fun _ _ => rfl)) (fun _ _ => rfl)) pe_int (fun _ _ => rfl))))))
      (pss_one (ps_if (pt_cmpR op_notN (pe_call G_law_lead (hr.mono (by decide)) rfl A_law_lead.m A_law_lead.F.kp A_law_lead.b .nil pass0 (pa_cons (pv 0) (pa_cons (pv 1) (pa_cons (pv 6) pa_nil)))) pe_non (nomark _)) (pss_one (ps_set (i := 5) sc_law_due.nd rfl (Or.inl rfl) (pe_callB (call_max2 rfl) (by rfl) T.max_ Boot.«max» (pa_cons (pv 5) (pa_cons (pv 7) pa_nil))))) pss_nil)))))
      (pss_cons (ps_set (i := 9) sc_law_due.nd rfl (Or.inl rfl) pe_int)
      (pss_cons (ps_for PassesOwn.never rfl (pi_range2 rfl T.range_ (pa_cons (pv 4) (pa_cons (pe_callB call_len_seq (by rfl) T.len_ Boot.«len» (pa_cons (pv 3) pa_nil)) pa_nil))) (pg_name (i := 8) sc_law_due.nd rfl (Or.inl rfl)) (pss_one (ps_set (i := 9) sc_law_due.nd rfl (Or.inl rfl) (pe_op op_mulB (pv 9) (pe_callB (call_sum rfl) (by rfl) T.sum_ Boot.«sum» (pa_cons (pe_comp rfl (Nc := ["_law_pair"]) (caps0 rfl (by decide +kernel) (by decide +kernel) (by decide +kernel)) (pi_list (pe_ix ix_list (pv 3) (pv 8) (fun _ _ => rfl))) (fun _ _ _ _ => (pg_name (i := 0) (show List.Nodup (["_law_pair"] : List Str) by decide +kernel) rfl (Or.inl rfl))) (fun _ _ _ _ => pts_nil) (fun _ _ _ _ => by exact (pe_ix (ix_tupK (K := K) rfl) (pv 0) pe_int (fun _ _ => rfl)))) pa_nil))))))
      (pss_one (ps_ret (pe_tup (pa_cons (pv 5) (pa_cons (pv 9) pa_nil)))))))))), ?_⟩
    have lus := pa.l
    have ld := da.len
    have lP : Pd.length = ws.length := by rw [← eP, List.length_map]
    have wl4 := wo.l4
    have lD : (Dw Pd).length = ws.length := by rw [dw_len, lP]
    have hi := (List.getElem?_eq_some_iff.mp hp).1
    obtain ⟨v, hv⟩ := get_ex (l := us) (i := i) (by omega)
    have px := pa.p i v p hv hp
    have hsL : site (Dw Pd).length p ≤ (Dw Pd).length := by
      cases p with
      | no => exact Nat.le_refl _
      | lf => exact Nat.le_refl _
      | ask kk ch =>
        obtain ⟨wd, hwd, _⟩ := gw i kk ch hp
        have := (List.getElem?_eq_some_iff.mp hwd).1
        show kk ≤ _
        omega
    have hmin : (if ((ps.map fun p => V.ref p.1).length : Int) < ((site 100 p : Nat) : Int) then ((ps.map fun p => V.ref p.1).length : Int) else ((site 100 p : Nat) : Int)) = ((site (Dw Pd).length p : Nat) : Int) := by
      rw [ld, lP, ← lD]
      cases p with
      | no => exact if_pos (show (((Dw Pd).length : Nat) : Int) < ((100 : Nat) : Int) by omega)
      | lf => exact if_pos (show (((Dw Pd).length : Nat) : Int) < ((100 : Nat) : Int) by omega)
      | ask kk ch =>
        have h1 : kk ≤ (Dw Pd).length := hsL
        exact if_neg (show ¬ (((Dw Pd).length : Nat) : Int) < ((kk : Nat) : Int) by omega)
    refine ⟨_, rfl, _, rfl, A, us, _, v, rfl, rfl, SqL.of pa.a, atI_nat hv, v, A, p, rfl, px, _, rfl, DA, _, rfl, .inl (SqL.of da.ll.at_), _, _, rfl, ?_⟩
    dsimp only
    rw [hmin]
    generalize site (Dw Pd).length p = sn at hsL k
    -- the best row
    refine ⟨_, rfl, Rr, rfl, ⟨_, SqL.of rw_.a⟩, for_list (K := K) (a := Rr) (xs := rs.map V.ref) (fun j σ H' => H' = H ∧ ∃ (best : Int) (o6 o7 o8 : Option V), Bst (Dw Pd) parts ((allRows ws).take j) i sn best ∧ σ = [some (.ref A), some (nI i), some (.ref Rr), some (.ref DA), some (nI sn), some (.int best), o6, o7, o8, none])
      ⟨rfl, 0, none, none, none, Bst.nil _ _ _ _, rfl⟩ (fun j σ H' _ z => by rw [z.1]; exact SqL.of rw_.a) ?_ ?_⟩
    · rintro j y σ H' hy ⟨rfl, best, o6, o7, o8, bst, rfl⟩
      obtain ⟨r, row, rfl, hr2, hrow, er⟩ := rw_.at hy
      have rvw := (all_mem _ ws rfl row).mp (List.mem_of_getElem? hrow)
      have rv := (rv_of eP).mp rvw
      refine ⟨_, rfl, _, rfl, DA, _, rfl, .inl (SqL.of da.ll.at_), (sn : Int), ((ps.map fun p => V.ref p.1).length : Int), rfl, ⟨by omega, by omega, by omega, by omega⟩, for_range (lo := (sn : Int)) (n := ((((ps.map fun p => V.ref p.1).length : Nat) : Int) - (sn : Int)).toNat) (fun n σ H2 => H2 = H' ∧ ∃ (o8 : Option V), σ = [some (.ref A), some (nI i), some (.ref Rr), some (.ref DA), some (nI sn), some (.int best), some (.ref r), some (.int (Wp (Dw Pd) row sn n)), o8, none])
        ⟨rfl, _, rfl⟩ ?_ ?_⟩
      · rintro n σ H2 hn ⟨rfl, o8, rfl⟩
        have hkl : sn + n < Pd.length := by omega
        have hd : Pd[sn + n]? = some Pd[sn + n] := List.getElem?_eq_getElem hkl
        generalize Pd[sn + n] = d at hd
        obtain ⟨q, hq, lq, gd, hD⟩ := da.at hd
        obtain ⟨uw, eu, du⟩ := lq
        obtain ⟨jj, hj, lj, ew, wp, wle⟩ := wv_pos da.good rv hD
        have lud := du.length
        rw [List.length_map] at lud lj
        obtain ⟨pr, hpr⟩ := get_ex (l := d) (i := jj) lj
        obtain ⟨x, ex⟩ := get_ex (l := uw) (i := jj) (by omega)
        obtain ⟨dd, ed, hxd⟩ := du.get' ex
        rw [List.getElem?_map, hpr] at ed
        cases ed
        obtain ⟨r1, va, vb, rfl, g1, g2, g3⟩ := DatAt.pr (p := (.int pr.1, .int pr.2)) hxd
        rw [g3.int_eq] at g1
        have ewv : wv (Dw Pd) row (sn + n) = pr.2 := by
          rw [ew]
          exact M44.getD_of (by rw [List.getElem?_map, hpr]; rfl)
        have gm := gd.mx
        have idx : ((sn : Int) + (n : Int)) = ((sn + n : Nat) : Int) := by omega
        refine ⟨_, rfl, _, rfl, _, rfl, DA, _, _, .ref q.1, rfl, rfl, SqL.of da.ll.at_, (by rw [idx]; exact atI_nat (by rw [List.getElem?_map, hq]; rfl)), _, rfl, _, rfl, r, _, _, nI jj, rfl, rfl, SqL.of er, (by rw [idx]; exact atI_nat (by rw [List.getElem?_map, hj]; rfl)), q.1, uw, _, .ref r1, rfl, rfl, SqL.of eu, atI_nat ex, r1, _, 1, .int pr.2, rfl, rfl, g1, rfl, _, _, rfl, rfl, small_mul (by omega), rfl, some (.int ((sn : Int) + (n : Int))), ?_⟩
        rw [← ewv]
        rfl
      · rintro σ H2 ⟨rfl, o8, rfl⟩
        have en : ((((ps.map fun p => V.ref p.1).length : Nat) : Int) - (sn : Int)).toNat = (Dw Pd).length - sn := by omega
        rw [en]
        have er2 := er
        refine ⟨_, rfl, _, rfl, _, rfl, A, r, us, parts, ws, row, i, rfl, pa, er2, gw, rvw, hi, fun u b ldb hub => ⟨rfl, _, rfl, iteBB (fun hc => ?_) (fun hc => ?_)⟩⟩
        · have hb : b = true := by
            cases b with
            | true => rfl
            | false =>
              rw [hub.mpr rfl] at hc
              exact absurd hc (by decide)
          subst hb
          refine ⟨_, rfl, _, rfl, _, _, rfl, rfl, _, _, _, _, ?_, rfl⟩
          rw [take_snoc' hrow]
          exact Bst.yes bst ldb
        · have hb : b = false := by
            have hn : u = .non := by
              by_cases z : u = .non
              · exact z
              · rw [decide_eq_false z] at hc
                cases hc
            exact hub.mp hn
          subst hb
          refine ⟨rfl, best, _, _, _, ?_, rfl⟩
          rw [take_snoc' hrow]
          exact Bst.no bst ldb
    rintro σ H' ⟨rfl, best, o6, o7, o8, bst, rfl⟩
    rw [List.length_map, List.take_of_length_le (by rw [rw_.l]; exact Nat.le_refl _)] at bst
    -- the whole
    refine ⟨_, rfl, _, rfl, DA, _, rfl, .inl (SqL.of da.ll.at_), (sn : Int), ((ps.map fun p => V.ref p.1).length : Int), rfl, ⟨by omega, by omega, by omega, by omega⟩, for_range (lo := (sn : Int)) (n := ((((ps.map fun p => V.ref p.1).length : Nat) : Int) - (sn : Int)).toNat) (fun n σ H2 => Same H' H2 ∧ ∃ (o8 : Option V), σ = [some (.ref A), some (nI i), some (.ref Rr), some (.ref DA), some (nI sn), some (.int best), o6, o7, o8, some (.int (Tw (Dw Pd) sn n))])
      ⟨.refl _, _, rfl⟩ ?_ ?_⟩
    · rintro n σ H2 hn ⟨S2, o8, rfl⟩
      have hkl : sn + n < Pd.length := by omega
      have hd : Pd[sn + n]? = some Pd[sn + n] := List.getElem?_eq_getElem hkl
      generalize Pd[sn + n] = d at hd
      have da2 := da.same S2
      obtain ⟨q, hq, lq, gd, hD⟩ := da2.at hd
      obtain ⟨uw, eu, du⟩ := lq
      have lud := du.length
      rw [List.length_map] at lud
      have gl1 := gd.l1
      have gs := gd.sm
      have idx : ((sn : Int) + (n : Int)) = ((sn + n : Nat) : Int) := by omega
      refine ⟨_, rfl, _, rfl, _, rfl, DA, _, _, .ref q.1, rfl, rfl, SqL.of da2.ll.at_, (by rw [idx]; exact atI_nat (by rw [List.getElem?_map, hq]; rfl)), q.1, rfl, ⟨_, SqL.of eu⟩, fun D hD0 => ?_⟩
      refine comp_list (K := K) (a := q.1) (D := D) (xs := uw) (fun i σ ys H3 => (∃ o1, σ = [o1]) ∧ Same H2 H3 ∧ H3 D = some (.lst ys) ∧ ys = ((wts d).take i).map V.int)
        ⟨⟨none, rfl⟩, .upd hD0, upd_same, rfl⟩ ?_ ?_ ?_
      · rintro i σ ys H3 hi ⟨_, S, eD, rfl⟩
        exact ⟨SqL.of (S _ _ eu), eD, Nat.lt_of_le_of_lt (show (((wts d).take i).map V.int).length ≤ 100 by rw [List.length_map, List.length_take, List.length_map]; omega) (by decide)⟩
      · rintro i x σ ys H3 hx ⟨⟨o1, rfl⟩, S, eD, rfl⟩ N hN
        obtain ⟨dd, ed, hxd⟩ := (du.same S).get' hx
        obtain ⟨p, ep, rfl⟩ := map_get ed
        obtain ⟨r1, va, vb, rfl, g1, g2, g3⟩ := DatAt.pr (p := (.int p.1, .int p.2)) hxd
        rw [g3.int_eq] at g1
        refine iteT (B := True) ?_
        refine ⟨_, rfl, r1, _, 1, .int p.2, rfl, rfl, g1, rfl, eD, hN _ _ _ ⟨⟨_, rfl⟩, fun b o eb => ?_, upd_same, ?_⟩⟩
        · rw [upd_ne (ne_of_none eb hD0)]
          exact S _ _ eb
        · rw [take_snoc' (show (wts d)[i]? = some p.2 by rw [List.getElem?_map, ep]; rfl), List.map_append]
          rfl
      rintro σ ys H3 ⟨_, S3, eD, rfl⟩
      rw [List.take_of_length_le (by rw [List.length_map]; omega)] at eD
      refine ⟨D, wts d, rfl, SqL.of eD, _, _, rfl, rfl, small_mul (by omega), S2.trans S3, some (.int ((sn : Int) + (n : Int))), ?_⟩
      rw [Tw_succ hD]
      rfl
    · rintro σ H2 ⟨S2, o8, rfl⟩
      have en : ((((ps.map fun p => V.ref p.1).length : Nat) : Int) - (sn : Int)).toNat = (Dw Pd).length - sn := by omega
      rw [en, Tw_end]
      exact ⟨_, rfl, _, rfl, two_le, fun t ht => k best bst t _ (S2.trans (.upd ht)) upd_same⟩
end
end K43
namespace K43
open PySem L2 FW PyProof.Rows M44
theorem not_dec {p : Prop} [i : Decidable p] (h : (!@decide p i) = true) (q : p) : False := by
  rw [@decide_eq_true p i q] at h
  cases h
theorem kit_ll {K : PySem.W.Frag} : PySem.W.kitOne K (.type "list") (.type "list") = some true := by rfl
theorem kit_lt {K : PySem.W.Frag} : PySem.W.kitOne K (.type "list") (.type "tuple") = some false := by
  show PySem.W.kitCls K (.type "list") (.type "tuple") = some false
  show (if PySem.W.kitMeta "tuple" = true then PySem.W.subIn K (.type "list") (.type "tuple") else none) = some false
  rw [if_pos (by decide +kernel)]
  show (fastBuiltinMro "list").map (·.contains (.type "tuple")) = some false
  decide +kernel
def sp_sameL (K : PySem.W.Frag) : Sp := fun vs H Q _ => ∃ (a b : Addr) (zs ys : List V) (xs : List (Int × Int)), vs = [.ref a, .ref b] ∧ H a = some (.lst zs) ∧ H b = some (.lst ys) ∧ DatsAt K H zs (xs.map pI) ∧ DatsAt K H ys (xs.map pI) ∧ xs.length ≤ 100 ∧ Q (.bl true) H
def sp_law (K : PySem.W.Frag) (Pt : Addr) : Sp := fun vs H Q _ => ∃ (a : Addr) (ns : List Int), vs = [.ref a] ∧ H Pt = some (.tbl #[]) ∧ SqL K H a (ns.map V.int) ∧ ns.length ≤ 63 ∧ (∀ n ∈ ns, Builtin.Int.intBits n ≤ 2 ^ 20) ∧ ∀ H', Q (.bl true) H'
theorem Gw.po {ws : List Nat} {ps : List Prt} {P : List (List (Int × Int))} (h : Gw ws ps) (e : P.map List.length = ws) : Po (Dw P) ps := fun i k ch hi => by
  obtain ⟨d, h1, h2, h3⟩ := h.gp e i k ch hi
  refine ⟨wts d, by rw [List.getElem?_map, h1]; rfl, by rw [List.length_map]; exact h2, fun c hc => ?_⟩
  rw [dw_len]
  exact h3 c hc
theorem hgts_mI : ∀ d : List (Int × Int), Dt.hgts (mI d) ≤ 30
  | [] => by simp [Dt.hgts]
  | p :: d => by
    have : Dt.hgts (List.map pI d) ≤ 30 := hgts_mI d
    simp only [List.map_cons, Dt.hgts, Dt.hgt]
    omega
/-- prices are told by their parts alone -/
theorem pr_one {D : List (List Int)} (gD : Good D) {p : Prt} {g : Int} {x y : Int × Int} (h : Pr D p g x) (k : Pr D p g y) : x = y := by
  have t := Ts_pos gD (site D.length p)
  have a := low_of h.low t h.e
  have b := low_of k.low t k.e
  exact a.trans b.symm
section
variable {P : Program} {w : World} {K : PySem.W.Frag} {mg : Str → Option Value} {base : Heap}
set_option maxHeartbeats 2000000 in
theorem ok_law_sameL {f fW : Addr} {fd dW : FuncData} (A_law_same : FnAt K mg "_law_same" s_law_same ["_law_found", "_law_due_here"] f fd) (A_law_whole : FnAt K mg "_law_whole" s_law_whole ["_law_found"] fW dW) (T : Tb mg) : FnOk P w K mg base CX0 4 f fd ["_law_found", "_law_due_here"] (sp_sameL K) := by
  have G_law_whole : FnOk P w K mg base CX0 1 fW dW _ sp_whole := ok_law_whole A_law_whole T
  have G_law_same : FnOk P w K mg base CX0 3 f fd ["_law_found", "_law_due_here"] (sp_same K) := ok_law_same A_law_same A_law_whole T
  refine A_law_same.F.ok (k := 3) sc_law_same (fun vs H Q E hh => ?_) (fun cdv Ar outer s H vs Q E hr hh => ?_)
  · obtain ⟨a, b, zs, ys, xs, rfl, _⟩ := hh
    rfl
  · obtain ⟨a, b, zs, ys, xs, rfl, ea, eb, dz, dy, lx, k⟩ := hh
    refine ⟨_, (pss_cons (ps_if (PW.pt (pw_or (pt_val (pe_callB call_isiA (by rfl) T.isinstance_ Boot.«isinstance» (pa_cons (pv 1) (pa_cons (pe_bltn rfl T.tuple_ Boot.«tuple» (v := .ty "tuple") rfl) pa_nil)))) (pw_or1 (pt_val (pe_callB call_isiA (by rfl) T.isinstance_ Boot.«isinstance» (pa_cons (pv 1) (pa_cons (pe_bltn rfl T.list_ Boot.«list» (v := .ty "list") rfl) pa_nil))))))) (pss_cons (ps_if (PW.pt (pw_or (pt_cmpR op_ne (pe_callB call_isiA (by rfl) T.isinstance_ Boot.«isinstance» (pa_cons (pv 0) (pa_cons (pe_bltn rfl T.tuple_ Boot.«tuple» (v := .ty "tuple") rfl) pa_nil))) (pe_callB call_isiA (by rfl) T.isinstance_ Boot.«isinstance» (pa_cons (pv 1) (pa_cons (pe_bltn rfl T.tuple_ Boot.«tuple» (v := .ty "tuple") rfl) pa_nil))) (nomark _)) (pw_or1 (pt_cmpR op_ne (pe_callB call_isiA (by rfl) T.isinstance_ Boot.«isinstance» (pa_cons (pv 0) (pa_cons (pe_bltn rfl T.list_ Boot.«list» (v := .ty "list") rfl) pa_nil))) (pe_callB call_isiA (by rfl) T.isinstance_ Boot.«isinstance» (pa_cons (pv 1) (pa_cons (pe_bltn rfl T.list_ Boot.«list» (v := .ty "list") rfl) pa_nil))) (nomark _))))) (pss_one (ps_ret pe_bl)) pss_nil)
      (pss_cons (ps_if (pt_cmpR op_ne (pe_callB call_len_seq (by rfl) T.len_ Boot.«len» (pa_cons (pv 0) pa_nil)) (pe_callB call_len_seq (by rfl) T.len_ Boot.«len» (pa_cons (pv 1) pa_nil)) (nomark _)) (pss_one (ps_ret pe_bl)) pss_nil)
      (pss_cons (ps_for PassesOwn.never rfl (pi_range1 rfl T.range_ (pa_cons (pe_callB call_len_seq (by rfl) T.len_ Boot.«len» (pa_cons (pv 1) pa_nil)) pa_nil)) (pg_name (i := 2) sc_law_same.nd rfl (Or.inl rfl)) (pss_one (ps_if (pt_not (pt_val (pe_call G_law_same (hr.mono (by decide)) rfl A_law_same.m A_law_same.F.kp A_law_same.b .nil pass0 (pa_cons (pe_ix ix_list (pv 0) (pv 2) (fun _ _ => rfl)) (pa_cons (pe_ix ix_list (pv 1) (pv 2) (fun _ _ => rfl)) pa_nil))))) (pss_one (ps_ret pe_bl)) pss_nil)))
      (pss_one (ps_ret pe_bl))))) pss_nil)
      (pss_cons (ps_if (pt_cmpR op_isN (pv 1) pe_non (nomark _)) (pss_one (ps_ret (pe_cmpR op_isN (pv 0) pe_non (nomark _)))) pss_nil)
      (pss_cons (ps_if (pt_val (pe_callB call_isiA (by rfl) T.isinstance_ Boot.«isinstance» (pa_cons (pv 1) (pa_cons (pe_bltn rfl T.int_ Boot.«int» (v := .ty "int") rfl) pa_nil)))) (pss_one (ps_ret (pe_and (pe_call G_law_whole (hr.mono (by decide)) rfl A_law_whole.m A_law_whole.F.kp A_law_whole.b .nil pass0 (pa_cons (pv 0) pa_nil)) (pe_one (pe_cmpR op_eq (pv 0) (pv 1) (nomark _)))))) pss_nil)
      (pss_one (ps_ret (pe_and (pe_callB call_isi (by rfl) T.isinstance_ Boot.«isinstance» (pa_cons (pv 0) (pa_cons (pe_bltn rfl T.str_ Boot.«str» (v := .ty "str") rfl) pa_nil))) (pe_one (pe_cmpR op_eq (pv 0) (pv 1) (nomark _))))))))), ?_⟩
    have lz := dz.length
    have ly := dy.length
    rw [List.length_map] at lz ly
    refine ⟨_, rfl, _, _, _, _, rfl, .inl ⟨.lst eb, kit_lt⟩, _, rfl, iteF ?_⟩
    refine ⟨_, rfl, _, _, _, _, rfl, .inl ⟨.lst eb, kit_ll⟩, _, rfl, iteT ?_⟩
    refine ⟨_, rfl, _, _, _, _, rfl, .inl ⟨.lst ea, kit_lt⟩, _, rfl, _, _, _, _, rfl, .inl ⟨.lst eb, kit_lt⟩, rfl, _, rfl, iteF ?_⟩
    refine ⟨_, rfl, _, _, _, _, rfl, .inl ⟨.lst ea, kit_ll⟩, _, rfl, _, _, _, _, rfl, .inl ⟨.lst eb, kit_ll⟩, rfl, _, rfl, iteF ?_⟩
    refine ⟨_, rfl, a, _, rfl, .inl (SqL.of ea), _, rfl, b, _, rfl, .inl (SqL.of eb), rfl, _, rfl, ?_⟩
    rw [show zs.length = ys.length by omega]
    refine iteBB (fun hc => by simp at hc) (fun _ => ?_)
    refine ⟨_, rfl, b, _, rfl, .inl (SqL.of eb), (ys.length : Int), rfl, by omega, by omega, for_range (lo := 0) (n := (ys.length : Int).toNat) (fun i σ H' => H' = H ∧ ∃ o2, σ = [some (.ref a), some (.ref b), o2]) ⟨rfl, none, rfl⟩ ?_ (fun σ H' z => by rw [z.1]; exact k)⟩
    rintro i σ H' hi ⟨rfl, o2, rfl⟩
    obtain ⟨x, hx⟩ := get_ex (l := xs) (i := i) (by omega)
    obtain ⟨v1, e1⟩ := get_ex (l := zs) (i := i) (by omega)
    obtain ⟨v2, e2⟩ := get_ex (l := ys) (i := i) (by omega)
    obtain ⟨d1, g1, h1⟩ := dz.get' e1
    obtain ⟨d2, g2, h2⟩ := dy.get' e2
    rw [List.getElem?_map, hx] at g1 g2
    cases g1
    cases g2
    obtain ⟨r1, rfl, s1⟩ := DatAt.fr (p := x) h1
    obtain ⟨r2, rfl, s2⟩ := DatAt.fr (p := x) h2
    exact ⟨_, rfl, _, rfl, a, _, _, _, rfl, rfl, SqL.of ea, atI0 e1, _, rfl, _, rfl, b, _, _, _, rfl, rfl, SqL.of eb, atI0 e2, r1, r2, x.1, x.2, rfl, s1, s2, _, rfl, iteF ⟨rfl, _, rfl⟩⟩
set_option maxHeartbeats 16000000 in
theorem ok_law {f f1 f2 f3 f4 f5 f6 f7 f8 f9 Pt : Addr} {fd d1 d2 d3 d4 d5 d6 d7 d8 d9 : FuncData} (A : FnAt K mg "law" s_law ["_law_script"] f fd)
    (A_law_widths : FnAt K mg "_law_widths" s_law_widths ["_law_script"] f1 d1) (G_law_widths : FnOk P w K mg base CX0 2 f1 d1 ["_law_script"] (sp_widths K))
    (A_law_draws : FnAt K mg "_law_draws" s_law_draws ["_law_script", "_law_widths_here"] f2 d2) (G_law_draws : FnOk P w K mg base CX0 2 f2 d2 ["_law_script", "_law_widths_here"] (sp_draws K))
    (A_law_lists : FnAt K mg "_law_lists" s_law_lists ["_law_script", "_law_widths_here"] f3 d3) (G_law_lists : FnOk P w K mg base CX0 3 f3 d3 ["_law_script", "_law_widths_here"] (sp_lists K))
    (A_law_rows : FnAt K mg "_law_rows" s_law_rows ["_law_widths_here"] f4 d4) (G_law_rows : FnOk P w K mg base CX0 1 f4 d4 ["_law_widths_here"] (sp_rows K))
    (A_law_copy : FnAt K mg "_law_copy" s_law_copy ["_law_parts"] f5 d5) (G_law_copy : FnOk P w K mg base CX0 1 f5 d5 ["_law_parts"] (sp_copy K))
    (A_prices : FnAt K mg "prices" s_prices ["parts", "draws"] f6 d6) (G_prices : FnOk P w K mg base CX0 6 f6 d6 ["parts", "draws"] (sp_pr K Pt))
    (A_law_due : FnAt K mg "_law_due" s_law_due ["_law_parts", "_law_place", "_law_rows_here", "_law_draws_here"] f7 d7) (G_law_due : FnOk P w K mg base CX0 2 f7 d7 ["_law_parts", "_law_place", "_law_rows_here", "_law_draws_here"] (sp_due K))
    (A_law_is_share : FnAt K mg "_law_is_share" s_law_is_share ["_law_found"] f8 d8) (G_law_is_share : FnOk P w K mg base CX0 2 f8 d8 ["_law_found"] (sp_share K))
    (A_law_same : FnAt K mg "_law_same" s_law_same ["_law_found", "_law_due_here"] f9 d9) (G_law_same : FnOk P w K mg base CX0 4 f9 d9 ["_law_found", "_law_due_here"] (sp_sameL K))
    (T : Tb mg) : FnOk P w K mg base CX0 7 f fd ["_law_script"] (sp_law K Pt) := by
  refine A.F.ok (k := 6) sc_law (fun vs H Q E h => ?_) (fun cdv Ar outer s0 H vs Q E hr h => ?_)
  · obtain ⟨a, ns, rfl, _⟩ := h
    rfl
  · obtain ⟨a, ns, rfl, hPt, hS, hl63, hbits, k⟩ := h
    refine ⟨_, (pss_cons (ps_set (i := 1) sc_law.nd rfl (Or.inl rfl) (pe_call G_law_widths (hr.mono (by decide)) rfl A_law_widths.m A_law_widths.F.kp A_law_widths.b .nil pass0 (pa_cons (pv 0) pa_nil)))
      (pss_cons (ps_set (i := 2) sc_law.nd rfl (Or.inl rfl) (pe_call G_law_draws (hr.mono (by decide)) rfl A_law_draws.m A_law_draws.F.kp A_law_draws.b .nil pass0 (pa_cons (pv 0) (pa_cons (pv 1) pa_nil))))
      (pss_cons (ps_set (i := 3) sc_law.nd rfl (Or.inl rfl) (pe_call G_law_lists (hr.mono (by decide)) rfl A_law_lists.m A_law_lists.F.kp A_law_lists.b .nil pass0 (pa_cons (pv 0) (pa_cons (pv 1) pa_nil))))
      (pss_cons (ps_set (i := 4) sc_law.nd rfl (Or.inl rfl) (pe_call G_law_rows (hr.mono (by decide)) rfl A_law_rows.m A_law_rows.F.kp A_law_rows.b .nil pass0 (pa_cons (pv 1) pa_nil)))
      (pss_cons (ps_set (i := 5) sc_law.nd rfl (Or.inl rfl) (pe_call G_law_copy (hr.mono (by decide)) rfl A_law_copy.m A_law_copy.F.kp A_law_copy.b .nil pass0 (pa_cons (pv 3) pa_nil)))
      (pss_cons (ps_comp (i := 6) rfl sc_law.nd rfl (Or.inl rfl) (Nc := ["_law_draw"]) (caps0 rfl (by decide +kernel) (by decide +kernel) (by decide +kernel)) (pi_list (pv 2)) (fun _ _ _ _ => (pg_name (i := 0) (show List.Nodup (["_law_draw"] : List Str) by decide +kernel) rfl (Or.inl rfl))) (fun _ _ _ _ => pts_nil) (fun _ _ _ _ => by exact (pe_callTy (call_list_ofK (K := K) rfl) (by rfl) T.list_ Boot.«list» (pa_cons (pv 0) pa_nil))))
      (pss_cons (ps_set (i := 7) sc_law.nd rfl (Or.inl rfl) (pe_call G_prices (hr.mono (by decide)) rfl A_prices.m A_prices.F.kp A_prices.b .nil pass0 (pa_cons (pv 5) (pa_cons (pv 6) pa_nil))))
      (pss_cons (ps_if (PW.pt (pw_or (pt_not (pt_val (pe_callB call_isiA (by rfl) T.isinstance_ Boot.«isinstance» (pa_cons (pv 7) (pa_cons (pe_bltn rfl T.list_ Boot.«list» (v := .ty "list") rfl) pa_nil))))) (pw_or (pt_cmpR op_ne (pe_callB call_len_seq (by rfl) T.len_ Boot.«len» (pa_cons (pv 7) pa_nil)) (pe_callB call_len_seq (by rfl) T.len_ Boot.«len» (pa_cons (pv 3) pa_nil)) (nomark _)) (pw_or (pt_cmpR (op_nePq hr.units) (pv 5) (pv 3) (nomark _)) (pw_or1 (pt_cmpR (op_neLL hr.units) (pv 6) (pv 2) (nomark _))))))) (pss_one (ps_ret pe_bl)) pss_nil)
      (pss_cons (ps_for PassesOwn.never rfl (pi_range1 rfl T.range_ (pa_cons (pe_callB call_len_seq (by rfl) T.len_ Boot.«len» (pa_cons (pv 3) pa_nil)) pa_nil)) (pg_name (i := 8) sc_law.nd rfl (Or.inl rfl)) (pss_cons (ps_asg (pe_call G_law_due (hr.mono (by decide)) rfl A_law_due.m A_law_due.F.kp A_law_due.b .nil pass0 (pa_cons (pv 3) (pa_cons (pv 8) (pa_cons (pv 4) (pa_cons (pv 2) pa_nil))))) (pg_tup rfl (pgs_cons (pg_name (i := 9) sc_law.nd rfl (Or.inl rfl)) (pgs_cons (pg_name (i := 10) sc_law.nd rfl (Or.inl rfl)) pgs_nil))))
      (pss_one (ps_if (PW.pt (pw_or (pt_not (pt_val (pe_call G_law_is_share (hr.mono (by decide)) rfl A_law_is_share.m A_law_is_share.F.kp A_law_is_share.b .nil pass0 (pa_cons (pe_ix ix_list (pv 7) (pv 8) (fun _ _ => rfl)) pa_nil)))) (pw_or1 (pt_cmpR op_ne (pe_op op_mulB (pe_ix ix_tup (pe_ix ix_list (pv 7) (pv 8) (fun _ _ => rfl)) pe_int (fun _ _ => rfl)) (pv 10)) (pe_op op_mulB (pv 9) (pe_ix ix_tup (pe_ix ix_list (pv 7) (pv 8) (fun _ _ => rfl)) pe_int (fun _ _ => rfl))) (nomark _))))) (pss_one (ps_ret pe_bl)) pss_nil))))
      (pss_cons (ps_set (i := 11) sc_law.nd rfl (Or.inl rfl) (pe_callTy call_list_of (by rfl) T.list_ Boot.«list» (pa_cons (pv 7) pa_nil)))
      (pss_cons (ps_expr (pe_bm0 PySem.F.plainAttrs_list PySem.F.slot_list_clear PySem.F.type_list_clear mt_clear (pv 7)))
      (pss_one (ps_ret (pe_call G_law_same (hr.mono (by decide)) rfl A_law_same.m A_law_same.F.kp A_law_same.b .nil pass0 (pa_cons (pe_call G_prices (hr.mono (by decide)) rfl A_prices.m A_prices.F.kp A_prices.b .nil pass0 (pa_cons (pv 5) (pa_cons (pv 6) pa_nil))) (pa_cons (pv 11) pa_nil)))))))))))))))), ?_⟩
    refine ⟨_, rfl, a, ns, rfl, hS, fun Wd H1 ws S1 hW wo => ?_⟩
    refine ⟨_, rfl, _, rfl, a, Wd, ns, ws, rfl, S1.seq hS, hW, wo, fun DA H2 ps P S2 da eP => ?_⟩
    replace hW := S2 _ _ hW
    refine ⟨_, rfl, _, rfl, a, Wd, ns, ws, rfl, (S1.trans S2).seq hS, hW, wo, fun A H3 us parts S3 pa gw hl => ?_⟩
    replace hW := S3 _ _ hW
    replace da := da.same S3
    refine ⟨_, rfl, Wd, ws, rfl, hW, wo, fun Rr H4 rs S4 rws => ?_⟩
    replace da := da.same S4
    replace pa := pa.same S4
    refine ⟨_, rfl, A, us, parts, rfl, pa, hl, fun B H5 zb S5 hB pb cp => ?_⟩
    replace da := da.same S5
    replace pa := pa.same S5
    replace rws := rws.same S5
    have hP5 := S5 _ _ (S4 _ _ (S3 _ _ (S2 _ _ (S1 _ _ hPt))))
    clear S1 S2 S3 S4 S5 hW hB hS hPt
    have ld := da.len
    have l24 := da.l
    -- also
    refine ⟨_, rfl, DA, rfl, ⟨_, SqL.of da.ll.at_⟩, fun D hD => ?_⟩
    refine comp_list (K := K) (a := DA) (D := D) (xs := ps.map fun p => V.ref p.1) (fun i σ ys H' => (∃ o1, σ = [o1]) ∧ Same H5 H' ∧ H' D = some (.lst ys) ∧ ∃ qs : List (Addr × List Dt), ys = qs.map (fun p => V.ref p.1) ∧ qs.map (·.2) = (P.take i).map mI ∧ ∀ q ∈ qs, LsM K H' q.1 q.2 ∧ q.1 ≠ D)
      ⟨⟨none, rfl⟩, .upd hD, upd_same, [], rfl, rfl, (fun _ h => nomatch h)⟩ ?_ ?_ ?_
    · rintro i σ ys H' hi ⟨_, S, eD, qs, rfl, eq, _⟩
      have := congrArg List.length eq
      rw [List.length_map, List.length_map, List.length_take] at this
      exact ⟨SqL.of (S _ _ da.ll.at_), eD, Nat.lt_of_le_of_lt (show (qs.map fun p => V.ref p.1).length ≤ 100 by rw [List.length_map]; omega) (by decide)⟩
    · rintro i x σ ys H' hx ⟨⟨o1, rfl⟩, S, eD, qs, rfl, eq, hq⟩ N hN
      obtain ⟨q, d, rfl, hd, ⟨uw, eu, du⟩, gd, hDw⟩ := (da.same S).of hx
      refine iteT (B := True) ?_
      refine ⟨_, rfl, q, uw, rfl, .inl (SqL.of eu), fun l hl' => ?_⟩
      have S4 := Same.upd (o := .lst uw) hl'
      have e4 : (upd H' l (.lst uw)) l = some (.lst uw) := upd_same
      generalize upd H' l (.lst uw) = H4 at S4 e4
      have eD4 := S4 _ _ eD
      have nl : l ≠ D := (ne_of_none eD hl').symm
      refine ⟨eD4, hN _ _ _ ⟨⟨_, rfl⟩, fun b o eb => ?_, upd_same, qs ++ [(l, mI d)], by rw [List.map_append]; rfl, by rw [List.map_append, take_snoc' hd, List.map_append, eq]; rfl, fun z hz => ?_⟩⟩
      · rw [upd_ne (ne_of_none eb hD)]
        exact S4 _ _ (S _ _ eb)
      · rcases List.mem_append.mp hz with y | y
        · obtain ⟨h1, h2⟩ := hq z y
          exact ⟨(h1.same S4).updL eD4 h2, h2⟩
        · cases List.mem_singleton.mp y
          exact ⟨LsM.updL eD4 nl ⟨uw, e4, du.same S4⟩, nl⟩
    rintro σ ys H6 ⟨_, S6, eD, qs, rfl, eq, hq⟩
    rw [ld, List.take_of_length_le (Nat.le_refl _)] at eq
    have dd : DrsAt K H6 D qs P := ⟨⟨eD, fun q hq' => (hq q hq').1, fun q hq' => (hq q hq').2⟩, eq, da.g, da.l⟩
    replace da := da.same S6
    replace pa := pa.same S6
    replace pb := pb.same S6
    replace rws := rws.same S6
    have cp6 : ∀ (i : Nat) (v x : V) (p : Prt), zb[i]? = some v → us[i]? = some x → parts[i]? = some p → Cp K H6 v x p := fun i v x p e1 e2 e3 => (cp i v x p e1 e2 e3).same S6
    have tb6 : TabSt Pt pG qG H6 := .inl (S6 _ _ hP5)
    have t6 : Odd H6 Pt := TabSt.odd tb6
    clear S6 hP5 eD hq cp hD
    have gD := da.good
    have gp := gw.gp eP
    have po := gw.po eP
    have all : ∀ row, row ∈ allRows ws ↔ Rv (Dw P) row := fun row => (all_mem _ ws rfl row).trans (rv_of eP)
    refine ⟨_, rfl, _, rfl, B, D, zb, parts, qs, P, rfl, tb6, pb, dd, gp, hl, fun Fd H7 gs zs xs B7 tb7 hFd eF hg dz lx hpr => ?_⟩
    have da7 := da.odd t6 B7
    have pa7 := pa.odd t6 B7
    have pb7 := pb.odd t6 B7
    have dd7 := dd.odd t6 B7
    have rws7 := rws.odd t6 B7
    have lz := dz.length
    rw [List.length_map] at lz
    have lu := pa.l
    have lzb := pb.l
    refine ⟨_, rfl, _, _, _, _, rfl, .inl ⟨.lst eF, rfl⟩, _, rfl, iteF ?_⟩
    refine ⟨_, rfl, Fd, _, rfl, .inl (SqL.of eF), _, rfl, A, _, rfl, .inl (SqL.of pa7.a), rfl, _, rfl, ?_⟩
    rw [show zs.length = us.length by omega]
    refine iteBB (fun hc => by simp at hc) (fun _ => ?_)
    refine ⟨_, rfl, _, rfl, B, A, zb, us, rfl, rfl, SqL.of pb7.a, SqL.of pa7.a, by omega, fun i v x e1 e2 => ?_, _, rfl, iteF ?_⟩
    · obtain ⟨p, hp, px⟩ := pb7.at e1
      exact ((cp6 i v x p e1 e2 hp).odd t6 B7).pq px (pa7.p i x p e2 hp)
    refine ⟨_, rfl, _, rfl, D, DA, qs, ps, rfl, rfl, dd7.ll, da7.ll, eq.trans da.e.symm, fun q hq => ?_, _, rfl, iteF ?_⟩
    · have : q.2 ∈ P.map mI := by rw [← eq]; exact List.mem_map.mpr ⟨q, hq, rfl⟩
      obtain ⟨d, _, e⟩ := List.mem_map.mp this
      rw [← e]
      exact hgts_mI d
    refine ⟨_, rfl, A, _, rfl, .inl (SqL.of pa7.a), (us.length : Int), rfl, by omega, by omega, for_range (lo := 0) (n := (us.length : Int).toNat) (fun i σ H' => Same H7 H' ∧ ∃ o8 o9 o10, σ = [some (.ref a), some (.ref Wd), some (.ref DA), some (.ref A), some (.ref Rr), some (.ref B), some (.ref D), some (.ref Fd), o8, o9, o10, none])
      ⟨.refl _, none, none, none, rfl⟩ ?_ ?_⟩
    · rintro i σ H8 hi ⟨S8, o8, o9, o10, rfl⟩
      obtain ⟨v, hv⟩ := get_ex (l := us) (i := i) (by omega)
      obtain ⟨p, hp, pv'⟩ := pa7.at hv
      obtain ⟨g, hgi, gv, g0, g1⟩ := hg.at hp
      obtain ⟨x, hx⟩ := get_ex (l := xs) (i := i) (by have := (List.getElem?_eq_some_iff.mp hp).1; omega)
      obtain ⟨vz, hz⟩ := get_ex (l := zs) (i := i) (by omega)
      have pr := hpr i p g x hp hgi hx
      refine ⟨_, rfl, _, rfl, _, rfl, _, rfl, A, Rr, DA, us, parts, ws, rs, ps, P, i, p, by rw [Int.zero_add]; rfl, pa7.same S8, gw, wo, rws7.same S8, da7.same S8, eP, hp, fun best bst t H9 S9 et => ?_⟩
      have eb : best = g := bst.one (best_is gD hg po all (i + 1) i p g (Nat.lt_succ_self _) hp hgi)
      subst eb
      have S79 := S8.trans S9
      obtain ⟨d1, e1, h1⟩ := (dz.same S79).get' hz
      rw [List.getElem?_map, hx] at e1
      cases e1
      obtain ⟨r, rfl, sr⟩ := DatAt.fr (p := x) h1
      refine ⟨t, _, rfl, SqT.of et, rfl, _, _, rfl, _, _, rfl, rfl, ?_⟩
      refine ⟨_, rfl, _, rfl, Fd, zs, _, .ref r, rfl, rfl, SqL.of (S79 _ _ eF), atI0 hz, r, x.1, x.2, rfl, sr, pr.nn, pr.low, _, rfl, iteF ?_⟩
      have bT : 0 ≤ Ts (Dw P) (site (Dw P).length p) ∧ Ts (Dw P) (site (Dw P).length p) ≤ 6000000 ^ 48 := by
        refine ⟨Int.le_of_lt (Ts_pos gD _), ?_⟩
        have h2 := Ts_le (m := 6000000) (by decide) gD da.sums (site (Dw P).length p)
        exact Int.le_trans h2 (pow_mono (by decide) (by rw [dw_len]; omega))
      have bB : best ≤ 6000000 ^ 48 := by
        have pp := Pm_pos gD (site (Dw P).length p)
        have h3 : best ≤ Pm (Dw P) (site (Dw P).length p) * best := by
          have := Int.mul_le_mul_of_nonneg_right (show 1 ≤ Pm (Dw P) (site (Dw P).length p) by omega) g0
          rwa [Int.one_mul] at this
        have h2 := Pm_le (m := 6000000) (by decide) gD da.sums (Dw P).length
        exact Int.le_trans h3 (Int.le_trans g1 (Int.le_trans h2 (pow_mono (by decide) (by rw [dw_len]; omega))))
      have ok1 : IntMulOk x.1 (Ts (Dw P) (site (Dw P).length p)) := (sm_of pr.nn pr.b1).mul (sm_of bT.1 bT.2)
      have ok2 : IntMulOk best x.2 := (sm_of g0 bB).mul (sm_of (Int.le_of_lt pr.low.pos) pr.b2)
      refine ⟨_, rfl, _, rfl, Fd, zs, _, .ref r, rfl, rfl, SqL.of (S79 _ _ eF), atI0 hz, r, _, 0, .int x.1, rfl, rfl, sr, rfl, _, rfl, _, _, rfl, rfl, ok1, _, rfl, _, rfl, _, rfl, Fd, zs, _, .ref r, rfl, rfl, SqL.of (S79 _ _ eF), atI0 hz, r, _, 1, .int x.2, rfl, rfl, sr, rfl, _, _, rfl, rfl, ok2, rfl, _, rfl, ?_⟩
      refine iteBB (fun hc => (not_dec hc (congrArg V.int pr.e)).elim) (fun _ => ?_)
      exact ⟨S79, _, _, _, rfl⟩
    · rintro σ H8 ⟨S8, o8, o9, o10, rfl⟩
      have eF8 := S8 _ _ eF
      have dz8 := dz.same S8
      refine ⟨_, rfl, Fd, zs, rfl, .inl (SqL.of eF8), fun Kp hKp => ?_⟩
      have S9 := Same.upd (o := .lst zs) hKp
      have eK : (upd H8 Kp (.lst zs)) Kp = some (.lst zs) := upd_same
      have nK : Kp ≠ Fd := (ne_of_none eF8 hKp).symm
      generalize upd H8 Kp (.lst zs) = H9 at S9 eK
      have eF9 := S9 _ _ eF8
      refine ⟨_, rfl, .inl ⟨rfl, _, SqL.of eF9⟩, Fd, zs, rfl, rfl, eF9, ?_⟩
      have B10 : BtA Pt H6 (upd H9 Fd (.lst [])) := fun b o nb eb => by
        rw [upd_ne (ne_of_none eb hFd)]
        exact S9 _ _ (S8 _ _ (B7 _ _ nb eb))
      have tb10 : TabSt Pt pG qG (upd H9 Fd (.lst [])) := TabSt.lst ((tb7.same S8).same S9) eF9 .upd
      have eK10 : (upd H9 Fd (.lst [])) Kp = some (.lst zs) := by rw [upd_ne nK]; exact eK
      have dz10 : DatsAt K (upd H9 Fd (.lst [])) zs (xs.map pI) := (dz8.same S9).updL eF9
      generalize upd H9 Fd (.lst []) = H10 at B10 tb10 eK10 dz10
      refine ⟨_, rfl, _, rfl, B, D, zb, parts, qs, P, rfl, tb10, pb.odd t6 B10, dd.odd t6 B10, gp, hl, fun Fd2 H11 gs2 zs2 xs2 B11 tb11 hFd2 eF2 hg2 dz2 lx2 hpr2 => ?_⟩
      have t10 : Odd H10 Pt := TabSt.odd tb10
      have ex : xs2 = xs := by
        refine List.ext_getElem? fun i => ?_
        by_cases hi : i < parts.length
        · obtain ⟨p, hp⟩ := get_ex hi
          obtain ⟨x, hx⟩ := get_ex (l := xs) (i := i) (by omega)
          obtain ⟨y, hy⟩ := get_ex (l := xs2) (i := i) (by omega)
          obtain ⟨g, hgi, _⟩ := hg.at hp
          obtain ⟨g2, hgi2, _⟩ := hg2.at hp
          have e1 := best_is gD hg po all (i + 1) i p g (Nat.lt_succ_self _) hp hgi
          have e2 := best_is gD hg2 po all (i + 1) i p g2 (Nat.lt_succ_self _) hp hgi2
          have eg : g = g2 := e1.one e2
          subst eg
          rw [hx, hy, pr_one gD (hpr i p g x hp hgi hx) (hpr2 i p g y hp hgi2 hy)]
        · rw [List.getElem?_eq_none (by omega), List.getElem?_eq_none (by omega)]
      subst ex
      exact ⟨_, rfl, Fd2, Kp, zs2, zs, xs2, rfl, eF2, B11 _ _ (t10.ne eK10) eK10, dz2, dz10.but t10.nt B11, by omega, k _⟩
end
end K43
namespace K43
open PySem L2 FW PyProof.Rows
theorem mks_mk {K : PySem.W.Frag} {mg : Str → Option Value} {c Pt bm : Addr} {o ob : Obj} (l : K.lookup c = some o) (g : mg "__builtins__" = some (.ref bm)) (lb : K.lookup bm = some ob)
    (hs : ∃ vs file tf flags tg inF text tt, o.cls = .type "code" ∧ o.data = .fields vs ∧ vs[11]? = some (.ref Pt) ∧ vs.getD 11 .none = .ref Pt ∧ vs.getD 18 .none = .str file tf ∧ vs.getD 7 .none = .int flags tg ∧ vs.getD 9 .none = .bool inF ∧ vs.getD 10 .none = .int text tt ∧ c ≠ Pt)
    (hb : mainGlobals ≠ Pt ∧ bm ≠ builtinsNs ∧ bm ≠ mainGlobals ∧ bm ≠ Pt ∧ ob.cls = .type "module" ∧ ob.dict = some builtinsNs ∧ ob.data = .plain) : Mks K mg c Pt :=
  ⟨fun h KX => let ⟨vs, file, tf, flags, tg, inF, text, tt, h1, h2, h3, h4, h5, h6, h7, h8, h9⟩ := hs; ⟨o, vs, file, tf, flags, tg, inF, text, tt, KX _ _ l, h1, h2, h3, h4, h5, h6, h7, h8, h9⟩, hb.1,
    fun h KX => ⟨bm, ob, g, hb.2.1, hb.2.2.1, hb.2.2.2.1, KX _ _ lb, hb.2.2.2.2.1, hb.2.2.2.2.2.1, hb.2.2.2.2.2.2⟩⟩
theorem tail_in {K : PySem.W.Frag} {a : Addr} {o : Obj} {h : Heap} (x : PySem.W.Frag.In ((a, o) :: K) h) (n : K.lookup a = none) : K.In h := fun b u e => x b u (by
  rw [List.lookup_cons]
  have ne : (b == a) = false := by
    rw [beq_eq_false_iff_ne]
    intro z
    rw [z, n] at e
    cases e
  rw [ne]
  exact e)
theorem head_in {K : PySem.W.Frag} {a : Addr} {o : Obj} {h : Heap} (x : PySem.W.Frag.In ((a, o) :: K) h) : h.get? a = some o := x a o (by rw [List.lookup_cons, beq_self_eq_true])
noncomputable def KFr : Params → PySem.W.Frag := fun P =>
 (nat_lit 2, ⟨.none, none, (.dict #[] 0), #[]⟩) ::
 (nat_lit 3, ⟨(.type "dict"), none, (.dict #[⟨PyData.keyHash P "__name__", (.str "__name__" 165), (.str "law_flipwright_k43_prices_by_rows" 307)⟩, ⟨PyData.keyHash P "__doc__", (.str "__doc__" 166), .none⟩, ⟨PyData.keyHash P "__package__", (.str "__package__" 167), .none⟩, ⟨PyData.keyHash P "__loader__", (.str "__loader__" 168), (.builtin "__main__.__loader__#opaque")⟩, ⟨PyData.keyHash P "__spec__", (.str "__spec__" 169), .none⟩, ⟨PyData.keyHash P "__annotations__", (.str "__annotations__" 170), (.ref 6)⟩, ⟨PyData.keyHash P "__builtins__", (.str "__builtins__" 171), (.ref 4)⟩, ⟨PyData.keyHash P "__file__", (.str "__file__" 173), (.str "/claim/cut.py" 172)⟩, ⟨PyData.keyHash P "__cached__", (.str "__cached__" 174), .none⟩, ⟨PyData.keyHash P "FlipError", (.str "FlipError" 206), (.ref 24)⟩, ⟨PyData.keyHash P "NoShare", (.str "NoShare" 222), (.ref 37)⟩, ⟨PyData.keyHash P "greatest_divisor", (.str "greatest_divisor" 233), (.ref 46)⟩, ⟨PyData.keyHash P "fraction", (.str "fraction" 242), (.ref 53)⟩, ⟨PyData.keyHash P "weights_of", (.str "weights_of" 250), (.ref 58)⟩, ⟨PyData.keyHash P "from_below", (.str "from_below" 263), (.ref 65)⟩, ⟨PyData.keyHash P "index_weights", (.str "index_weights" 271), (.ref 70)⟩, ⟨PyData.keyHash P "row_weights", (.str "row_weights" 282), (.ref 77)⟩, ⟨PyData.keyHash P "bottoms", (.str "bottoms" 293), (.ref 84)⟩, ⟨PyData.keyHash P "prices", (.str "prices" 306), (.ref 91)⟩, ⟨PyData.keyHash P "_law_cell_at", (.str "_law_cell_at" 316), (.ref 98)⟩, ⟨PyData.keyHash P "_law_whole", (.str "_law_whole" 323), (.ref 105)⟩, ⟨PyData.keyHash P "_law_mix", (.str "_law_mix" 332), (.ref 112)⟩, ⟨PyData.keyHash P "_law_same", (.str "_law_same" 341), (.ref 119)⟩, ⟨PyData.keyHash P "_law_word", (.str "_law_word" 351), (.ref 126)⟩, ⟨PyData.keyHash P "_law_outcome", (.str "_law_outcome" 360), (.ref 133)⟩, ⟨PyData.keyHash P "_law_divisor", (.str "_law_divisor" 368), (.ref 140)⟩, ⟨PyData.keyHash P "_law_is_share", (.str "_law_is_share" 375), (.ref 147)⟩, ⟨PyData.keyHash P "_law_widths", (.str "_law_widths" 384), (.ref 154)⟩, ⟨PyData.keyHash P "_law_draws", (.str "_law_draws" 398), (.ref 161)⟩, ⟨PyData.keyHash P "_law_site", (.str "_law_site" 405), (.ref 168)⟩, ⟨PyData.keyHash P "_law_lists", (.str "_law_lists" 411), (.ref 173)⟩, ⟨PyData.keyHash P "_law_copy", (.str "_law_copy" 417), (.ref 178)⟩, ⟨PyData.keyHash P "_law_lead", (.str "_law_lead" 427), (.ref 185)⟩, ⟨PyData.keyHash P "_law_rows", (.str "_law_rows" 439), (.ref 192)⟩, ⟨PyData.keyHash P "_law_due", (.str "_law_due" 445), (.ref 197)⟩, ⟨PyData.keyHash P "law", (.str "law" 451), (.ref 202)⟩] 36), #[]⟩) ::
 (nat_lit 4, ⟨(.type "module"), (some 0), .plain, #[]⟩) ::
 (nat_lit 15, ⟨(.type "tuple"), none, (.seq #[(.type "ValueError")] 0), #[]⟩) ::
 (nat_lit 22, ⟨(.type "tuple"), none, (.seq #[] 0), #[]⟩) ::
 (nat_lit 23, ⟨(.type "dict"), none, (.dict #[⟨PyData.keyHash P "__module__", (.str "__module__" 196), (.str "flipwright.errors" 187)⟩, ⟨PyData.keyHash P "__firstlineno__", (.str "__firstlineno__" 200), (.int 2 199)⟩, ⟨PyData.keyHash P "__static_attributes__", (.str "__static_attributes__" 201), (.ref 22)⟩, ⟨PyData.keyHash P "__weakref__", (.str "__weakref__" 203), (.ref 25)⟩, ⟨PyData.keyHash P "__doc__", (.str "__doc__" 204), .none⟩] 3), #[]⟩) ::
 (nat_lit 24, ⟨(.type "type"), none, (.cls (.mk "FlipError" [(.type "ValueError")] [(.ref 24), (.type "ValueError"), (.type "Exception"), (.type "BaseException"), (.type "object")] 23 "FlipError" true [] [(.ref 37)] false none false)), #[(some (.ref 15)), none, (some (.str "FlipError" 189)), (some (.str "FlipError" 197)), (some (.builtin "ValueError.__new__")), (some (.bool true))]⟩) ::
 (nat_lit 25, ⟨(.type "getset_descriptor"), none, (.fields #[(.str "__weakref__" 202), (.ref 24), (.builtin "ExceptionGroup.__weakref__"), .none]), #[]⟩) ::
 (nat_lit 28, ⟨(.type "tuple"), none, (.seq #[(.ref 24)] 0), #[]⟩) ::
 (nat_lit 35, ⟨(.type "tuple"), none, (.seq #[] 0), #[]⟩) ::
 (nat_lit 36, ⟨(.type "dict"), none, (.dict #[⟨PyData.keyHash P "__module__", (.str "__module__" 214), (.str "flipwright.errors" 187)⟩, ⟨PyData.keyHash P "__firstlineno__", (.str "__firstlineno__" 218), (.int 4 217)⟩, ⟨PyData.keyHash P "__static_attributes__", (.str "__static_attributes__" 219), (.ref 35)⟩, ⟨PyData.keyHash P "__doc__", (.str "__doc__" 220), .none⟩] 2), #[]⟩) ::
 (nat_lit 37, ⟨(.type "type"), none, (.cls (.mk "NoShare" [(.ref 24)] [(.ref 37), (.ref 24), (.type "ValueError"), (.type "Exception"), (.type "BaseException"), (.type "object")] 36 "NoShare" true [] [] false none false)), #[(some (.ref 28)), none, (some (.str "NoShare" 207)), (some (.str "NoShare" 215)), (some (.builtin "ValueError.__new__")), (some (.bool true))]⟩) ::
 (nat_lit 40, ⟨(.type "tuple"), none, (.seq #[] 0), #[]⟩) ::
 (nat_lit 42, ⟨(.type "tuple"), none, (.seq #[(.str "one" 228), (.str "other" 229), (.str "rest" 230)] 0), #[]⟩) ::
 (nat_lit 43, ⟨(.type "tuple"), none, (.seq #[] 0), #[]⟩) ::
 (nat_lit 45, ⟨(.type "code"), none, (.fields #[(.str "greatest_divisor" 225), (.str "greatest_divisor" 226), (.str "/claim/cut.py" 227), (.int 7 0), (.int 2 0), (.int 0 0), (.int 0 0), (.int 3 0), (.ref 40), (.bool true), (.int 181 0), (.ref 41), .none, (.ref 42), (.ref 43), (.ref 44), (.int 231 0), (.int 7 0), (.str "/claim/cut.py" 232)]), #[]⟩) ::
 (nat_lit 46, ⟨(.type "function"), none, (.func ⟨"greatest_divisor", "greatest_divisor", defArgs s_greatest_divisor, .stmts (defBody s_greatest_divisor), defScope s_greatest_divisor, 3, [], .none, .none, .none, (.str "flipwright.ratios" 223), none, (.ref 45), .none, 0⟩), #[]⟩) ::
 (nat_lit 47, ⟨(.type "tuple"), none, (.seq #[] 0), #[]⟩) ::
 (nat_lit 49, ⟨(.type "tuple"), none, (.seq #[(.str "top" 237), (.str "bottom" 238), (.str "divisor" 239)] 0), #[]⟩) ::
 (nat_lit 50, ⟨(.type "tuple"), none, (.seq #[] 0), #[]⟩) ::
 (nat_lit 52, ⟨(.type "code"), none, (.fields #[(.str "fraction" 234), (.str "fraction" 235), (.str "/claim/cut.py" 236), (.int 15 0), (.int 2 0), (.int 0 0), (.int 0 0), (.int 3 0), (.ref 47), (.bool true), (.int 181 0), (.ref 48), .none, (.ref 49), (.ref 50), (.ref 51), (.int 240 0), (.int 15 0), (.str "/claim/cut.py" 241)]), #[]⟩) ::
 (nat_lit 53, ⟨(.type "function"), none, (.func ⟨"fraction", "fraction", defArgs s_fraction, .stmts (defBody s_fraction), defScope s_fraction, 3, [], .none, .none, .none, (.str "flipwright.ratios" 223), none, (.ref 52), .none, 0⟩), #[]⟩) ::
 (nat_lit 54, ⟨(.type "tuple"), none, (.seq #[] 0), #[]⟩) ::
 (nat_lit 57, ⟨(.type "code"), none, (.fields #[(.str "weights_of" 245), (.str "weights_of" 246), (.str "/claim/cut.py" 247), (.int 23 0), (.int 1 0), (.int 0 0), (.int 0 0), (.int 3 0), (.ref 54), (.bool true), (.int 181 0), (.ref 55), .none, .none, .none, (.ref 56), (.int 248 0), (.int 23 0), (.str "/claim/cut.py" 249)]), #[]⟩) ::
 (nat_lit 58, ⟨(.type "function"), none, (.func ⟨"weights_of", "weights_of", defArgs s_weights_of, .stmts (defBody s_weights_of), defScope s_weights_of, 3, [], .none, .none, .none, (.str "flipwright.tables" 243), none, (.ref 57), .none, 0⟩), #[]⟩) ::
 (nat_lit 59, ⟨(.type "tuple"), none, (.seq #[] 0), #[]⟩) ::
 (nat_lit 61, ⟨(.type "tuple"), none, (.seq #[(.str "parts" 256), (.str "at_leaf" 257), (.str "how" 258), (.str "found" 259), (.str "part" 260)] 0), #[]⟩) ::
 (nat_lit 62, ⟨(.type "tuple"), none, (.seq #[] 0), #[]⟩) ::
 (nat_lit 64, ⟨(.type "code"), none, (.fields #[(.str "from_below" 253), (.str "from_below" 254), (.str "/claim/cut.py" 255), (.int 26 0), (.int 3 0), (.int 0 0), (.int 0 0), (.int 3 0), (.ref 59), (.bool true), (.int 181 0), (.ref 60), .none, (.ref 61), (.ref 62), (.ref 63), (.int 261 0), (.int 26 0), (.str "/claim/cut.py" 262)]), #[]⟩) ::
 (nat_lit 65, ⟨(.type "function"), none, (.func ⟨"from_below", "from_below", defArgs s_from_below, .stmts (defBody s_from_below), defScope s_from_below, 3, [], .none, .none, .none, (.str "flipwright.weighing" 251), none, (.ref 64), .none, 0⟩), #[]⟩) ::
 (nat_lit 66, ⟨(.type "tuple"), none, (.seq #[] 0), #[]⟩) ::
 (nat_lit 69, ⟨(.type "code"), none, (.fields #[(.str "index_weights" 266), (.str "index_weights" 267), (.str "/claim/cut.py" 268), (.int 35 0), (.int 3 0), (.int 0 0), (.int 0 0), (.int 3 0), (.ref 66), (.bool true), (.int 181 0), (.ref 67), .none, .none, .none, (.ref 68), (.int 269 0), (.int 35 0), (.str "/claim/cut.py" 270)]), #[]⟩) ::
 (nat_lit 70, ⟨(.type "function"), none, (.func ⟨"index_weights", "index_weights", defArgs s_index_weights, .stmts (defBody s_index_weights), defScope s_index_weights, 3, [], .none, .none, .none, (.str "flipwright.likely" 264), none, (.ref 69), .none, 0⟩), #[]⟩) ::
 (nat_lit 71, ⟨(.type "tuple"), none, (.seq #[] 0), #[]⟩) ::
 (nat_lit 73, ⟨(.type "tuple"), none, (.seq #[(.str "parts" 275), (.str "draws" 276), (.str "free" 277), (.str "draw" 278)] 0), #[]⟩) ::
 (nat_lit 74, ⟨(.type "tuple"), none, (.seq #[(.str "draws" 279)] 0), #[]⟩) ::
 (nat_lit 76, ⟨(.type "code"), none, (.fields #[(.str "row_weights" 272), (.str "row_weights" 273), (.str "/claim/cut.py" 274), (.int 38 0), (.int 2 0), (.int 0 0), (.int 0 0), (.int 3 0), (.ref 71), (.bool true), (.int 181 0), (.ref 72), .none, (.ref 73), (.ref 74), (.ref 75), (.int 280 0), (.int 38 0), (.str "/claim/cut.py" 281)]), #[]⟩) ::
 (nat_lit 77, ⟨(.type "function"), none, (.func ⟨"row_weights", "row_weights", defArgs s_row_weights, .stmts (defBody s_row_weights), defScope s_row_weights, 3, [], .none, .none, .none, (.str "flipwright.likely" 264), none, (.ref 76), .none, 0⟩), #[]⟩) ::
 (nat_lit 78, ⟨(.type "tuple"), none, (.seq #[] 0), #[]⟩) ::
 (nat_lit 80, ⟨(.type "tuple"), none, (.seq #[(.str "draws" 286), (.str "bottom" 287), (.str "draw" 288), (.str "found" 289), (.str "weights" 290)] 0), #[]⟩) ::
 (nat_lit 81, ⟨(.type "tuple"), none, (.seq #[] 0), #[]⟩) ::
 (nat_lit 83, ⟨(.type "code"), none, (.fields #[(.str "bottoms" 283), (.str "bottoms" 284), (.str "/claim/cut.py" 285), (.int 43 0), (.int 1 0), (.int 0 0), (.int 0 0), (.int 3 0), (.ref 78), (.bool true), (.int 181 0), (.ref 79), .none, (.ref 80), (.ref 81), (.ref 82), (.int 291 0), (.int 43 0), (.str "/claim/cut.py" 292)]), #[]⟩) ::
 (nat_lit 84, ⟨(.type "function"), none, (.func ⟨"bottoms", "bottoms", defArgs s_bottoms, .stmts (defBody s_bottoms), defScope s_bottoms, 3, [], .none, .none, .none, (.str "flipwright.likely" 264), none, (.ref 83), .none, 0⟩), #[]⟩) ::
 (nat_lit 85, ⟨(.type "tuple"), none, (.seq #[] 0), #[]⟩) ::
 (nat_lit 87, ⟨(.type "tuple"), none, (.seq #[(.str "parts" 297), (.str "draws" 298), (.str "by_site" 299), (.str "found" 300), (.str "part" 301), (.str "weight" 302), (.str "site" 303)] 0), #[]⟩) ::
 (nat_lit 88, ⟨(.type "tuple"), none, (.seq #[] 0), #[]⟩) ::
 (nat_lit 90, ⟨(.type "code"), none, (.fields #[(.str "prices" 294), (.str "prices" 295), (.str "/claim/cut.py" 296), (.int 53 0), (.int 2 0), (.int 0 0), (.int 0 0), (.int 3 0), (.ref 85), (.bool true), (.int 181 0), (.ref 86), .none, (.ref 87), (.ref 88), (.ref 89), (.int 304 0), (.int 53 0), (.str "/claim/cut.py" 305)]), #[]⟩) ::
 (nat_lit 91, ⟨(.type "function"), none, (.func ⟨"prices", "prices", defArgs s_prices, .stmts (defBody s_prices), defScope s_prices, 3, [], .none, .none, .none, (.str "flipwright.likely" 264), none, (.ref 90), .none, 0⟩), #[]⟩) ::
 (nat_lit 92, ⟨(.type "tuple"), none, (.seq #[] 0), #[]⟩) ::
 (nat_lit 94, ⟨(.type "tuple"), none, (.seq #[(.str "_law_script" 312), (.str "_law_k" 313)] 0), #[]⟩) ::
 (nat_lit 95, ⟨(.type "tuple"), none, (.seq #[] 0), #[]⟩) ::
 (nat_lit 97, ⟨(.type "code"), none, (.fields #[(.str "_law_cell_at" 309), (.str "_law_cell_at" 310), (.str "/claim/cut.py" 311), (.int 61 0), (.int 2 0), (.int 0 0), (.int 0 0), (.int 3 0), (.ref 92), (.bool true), (.int 181 0), (.ref 93), .none, (.ref 94), (.ref 95), (.ref 96), (.int 314 0), (.int 61 0), (.str "/claim/cut.py" 315)]), #[]⟩) ::
 (nat_lit 98, ⟨(.type "function"), none, (.func ⟨"_law_cell_at", "_law_cell_at", defArgs s_law_cell_at, .stmts (defBody s_law_cell_at), defScope s_law_cell_at, 3, [], .none, .none, .none, (.str "law_flipwright_k43_prices_by_rows" 307), none, (.ref 97), .none, 0⟩), #[]⟩) ::
 (nat_lit 99, ⟨(.type "tuple"), none, (.seq #[] 0), #[]⟩) ::
 (nat_lit 101, ⟨(.type "tuple"), none, (.seq #[(.str "_law_found" 320)] 0), #[]⟩) ::
 (nat_lit 102, ⟨(.type "tuple"), none, (.seq #[] 0), #[]⟩) ::
 (nat_lit 104, ⟨(.type "code"), none, (.fields #[(.str "_law_whole" 317), (.str "_law_whole" 318), (.str "/claim/cut.py" 319), (.int 65 0), (.int 1 0), (.int 0 0), (.int 0 0), (.int 3 0), (.ref 99), (.bool true), (.int 181 0), (.ref 100), .none, (.ref 101), (.ref 102), (.ref 103), (.int 321 0), (.int 65 0), (.str "/claim/cut.py" 322)]), #[]⟩) ::
 (nat_lit 105, ⟨(.type "function"), none, (.func ⟨"_law_whole", "_law_whole", defArgs s_law_whole, .stmts (defBody s_law_whole), defScope s_law_whole, 3, [], .none, .none, .none, (.str "law_flipwright_k43_prices_by_rows" 307), none, (.ref 104), .none, 0⟩), #[]⟩) ::
 (nat_lit 106, ⟨(.type "tuple"), none, (.seq #[] 0), #[]⟩) ::
 (nat_lit 108, ⟨(.type "tuple"), none, (.seq #[(.str "_law_cell" 327), (.str "_law_k" 328), (.str "_law_figure" 329)] 0), #[]⟩) ::
 (nat_lit 109, ⟨(.type "tuple"), none, (.seq #[] 0), #[]⟩) ::
 (nat_lit 111, ⟨(.type "code"), none, (.fields #[(.str "_law_mix" 324), (.str "_law_mix" 325), (.str "/claim/cut.py" 326), (.int 67 0), (.int 2 0), (.int 0 0), (.int 0 0), (.int 3 0), (.ref 106), (.bool true), (.int 181 0), (.ref 107), .none, (.ref 108), (.ref 109), (.ref 110), (.int 330 0), (.int 67 0), (.str "/claim/cut.py" 331)]), #[]⟩) ::
 (nat_lit 112, ⟨(.type "function"), none, (.func ⟨"_law_mix", "_law_mix", defArgs s_law_mix, .stmts (defBody s_law_mix), defScope s_law_mix, 3, [], .none, .none, .none, (.str "law_flipwright_k43_prices_by_rows" 307), none, (.ref 111), .none, 0⟩), #[]⟩) ::
 (nat_lit 113, ⟨(.type "tuple"), none, (.seq #[] 0), #[]⟩) ::
 (nat_lit 115, ⟨(.type "tuple"), none, (.seq #[(.str "_law_found" 336), (.str "_law_due_here" 337), (.str "_law_k" 338)] 0), #[]⟩) ::
 (nat_lit 116, ⟨(.type "tuple"), none, (.seq #[] 0), #[]⟩) ::
 (nat_lit 118, ⟨(.type "code"), none, (.fields #[(.str "_law_same" 333), (.str "_law_same" 334), (.str "/claim/cut.py" 335), (.int 70 0), (.int 2 0), (.int 0 0), (.int 0 0), (.int 3 0), (.ref 113), (.bool true), (.int 181 0), (.ref 114), .none, (.ref 115), (.ref 116), (.ref 117), (.int 339 0), (.int 70 0), (.str "/claim/cut.py" 340)]), #[]⟩) ::
 (nat_lit 119, ⟨(.type "function"), none, (.func ⟨"_law_same", "_law_same", defArgs s_law_same, .stmts (defBody s_law_same), defScope s_law_same, 3, [], .none, .none, .none, (.str "law_flipwright_k43_prices_by_rows" 307), none, (.ref 118), .none, 0⟩), #[]⟩) ::
 (nat_lit 120, ⟨(.type "tuple"), none, (.seq #[] 0), #[]⟩) ::
 (nat_lit 122, ⟨(.type "tuple"), none, (.seq #[(.str "_law_figure" 345), (.str "_law_letters" 346), (.str "_law_word_here" 347), (.str "_law_k" 348)] 0), #[]⟩) ::
 (nat_lit 123, ⟨(.type "tuple"), none, (.seq #[] 0), #[]⟩) ::
 (nat_lit 125, ⟨(.type "code"), none, (.fields #[(.str "_law_word" 342), (.str "_law_word" 343), (.str "/claim/cut.py" 344), (.int 85 0), (.int 1 0), (.int 0 0), (.int 0 0), (.int 3 0), (.ref 120), (.bool true), (.int 181 0), (.ref 121), .none, (.ref 122), (.ref 123), (.ref 124), (.int 349 0), (.int 85 0), (.str "/claim/cut.py" 350)]), #[]⟩) ::
 (nat_lit 126, ⟨(.type "function"), none, (.func ⟨"_law_word", "_law_word", defArgs s_law_word, .stmts (defBody s_law_word), defScope s_law_word, 3, [], .none, .none, .none, (.str "law_flipwright_k43_prices_by_rows" 307), none, (.ref 125), .none, 0⟩), #[]⟩) ::
 (nat_lit 127, ⟨(.type "tuple"), none, (.seq #[] 0), #[]⟩) ::
 (nat_lit 129, ⟨(.type "tuple"), none, (.seq #[(.str "_law_cell" 355), (.str "_law_fields" 356), (.str "_law_k" 357)] 0), #[]⟩) ::
 (nat_lit 130, ⟨(.type "tuple"), none, (.seq #[] 0), #[]⟩) ::
 (nat_lit 132, ⟨(.type "code"), none, (.fields #[(.str "_law_outcome" 352), (.str "_law_outcome" 353), (.str "/claim/cut.py" 354), (.int 91 0), (.int 1 0), (.int 0 0), (.int 0 0), (.int 3 0), (.ref 127), (.bool true), (.int 181 0), (.ref 128), .none, (.ref 129), (.ref 130), (.ref 131), (.int 358 0), (.int 91 0), (.str "/claim/cut.py" 359)]), #[]⟩) ::
 (nat_lit 133, ⟨(.type "function"), none, (.func ⟨"_law_outcome", "_law_outcome", defArgs s_law_outcome, .stmts (defBody s_law_outcome), defScope s_law_outcome, 3, [], .none, .none, .none, (.str "law_flipwright_k43_prices_by_rows" 307), none, (.ref 132), .none, 0⟩), #[]⟩) ::
 (nat_lit 134, ⟨(.type "tuple"), none, (.seq #[] 0), #[]⟩) ::
 (nat_lit 136, ⟨(.type "tuple"), none, (.seq #[(.str "_law_one" 364), (.str "_law_other" 365)] 0), #[]⟩) ::
 (nat_lit 137, ⟨(.type "tuple"), none, (.seq #[] 0), #[]⟩) ::
 (nat_lit 139, ⟨(.type "code"), none, (.fields #[(.str "_law_divisor" 361), (.str "_law_divisor" 362), (.str "/claim/cut.py" 363), (.int 104 0), (.int 2 0), (.int 0 0), (.int 0 0), (.int 3 0), (.ref 134), (.bool true), (.int 181 0), (.ref 135), .none, (.ref 136), (.ref 137), (.ref 138), (.int 366 0), (.int 104 0), (.str "/claim/cut.py" 367)]), #[]⟩) ::
 (nat_lit 140, ⟨(.type "function"), none, (.func ⟨"_law_divisor", "_law_divisor", defArgs s_law_divisor, .stmts (defBody s_law_divisor), defScope s_law_divisor, 3, [], .none, .none, .none, (.str "law_flipwright_k43_prices_by_rows" 307), none, (.ref 139), .none, 0⟩), #[]⟩) ::
 (nat_lit 141, ⟨(.type "tuple"), none, (.seq #[] 0), #[]⟩) ::
 (nat_lit 143, ⟨(.type "tuple"), none, (.seq #[(.str "_law_found" 372)] 0), #[]⟩) ::
 (nat_lit 144, ⟨(.type "tuple"), none, (.seq #[] 0), #[]⟩) ::
 (nat_lit 146, ⟨(.type "code"), none, (.fields #[(.str "_law_is_share" 369), (.str "_law_is_share" 370), (.str "/claim/cut.py" 371), (.int 108 0), (.int 1 0), (.int 0 0), (.int 0 0), (.int 3 0), (.ref 141), (.bool true), (.int 181 0), (.ref 142), .none, (.ref 143), (.ref 144), (.ref 145), (.int 373 0), (.int 108 0), (.str "/claim/cut.py" 374)]), #[]⟩) ::
 (nat_lit 147, ⟨(.type "function"), none, (.func ⟨"_law_is_share", "_law_is_share", defArgs s_law_is_share, .stmts (defBody s_law_is_share), defScope s_law_is_share, 3, [], .none, .none, .none, (.str "law_flipwright_k43_prices_by_rows" 307), none, (.ref 146), .none, 0⟩), #[]⟩) ::
 (nat_lit 148, ⟨(.type "tuple"), none, (.seq #[] 0), #[]⟩) ::
 (nat_lit 150, ⟨(.type "tuple"), none, (.seq #[(.str "_law_script" 379), (.str "_law_cell" 380), (.str "_law_some" 381)] 0), #[]⟩) ::
 (nat_lit 151, ⟨(.type "tuple"), none, (.seq #[] 0), #[]⟩) ::
 (nat_lit 153, ⟨(.type "code"), none, (.fields #[(.str "_law_widths" 376), (.str "_law_widths" 377), (.str "/claim/cut.py" 378), (.int 112 0), (.int 1 0), (.int 0 0), (.int 0 0), (.int 3 0), (.ref 148), (.bool true), (.int 181 0), (.ref 149), .none, (.ref 150), (.ref 151), (.ref 152), (.int 382 0), (.int 112 0), (.str "/claim/cut.py" 383)]), #[]⟩) ::
 (nat_lit 154, ⟨(.type "function"), none, (.func ⟨"_law_widths", "_law_widths", defArgs s_law_widths, .stmts (defBody s_law_widths), defScope s_law_widths, 3, [], .none, .none, .none, (.str "law_flipwright_k43_prices_by_rows" 307), none, (.ref 153), .none, 0⟩), #[]⟩) ::
 (nat_lit 155, ⟨(.type "tuple"), none, (.seq #[] 0), #[]⟩) ::
 (nat_lit 157, ⟨(.type "tuple"), none, (.seq #[(.str "_law_script" 388), (.str "_law_widths_here" 389), (.str "_law_draws_here" 390), (.str "_law_turn" 391), (.str "_law_cell" 392), (.str "_law_draw" 393), (.str "_law_k" 394), (.str "_law_figure" 395)] 0), #[]⟩) ::
 (nat_lit 158, ⟨(.type "tuple"), none, (.seq #[] 0), #[]⟩) ::
 (nat_lit 160, ⟨(.type "code"), none, (.fields #[(.str "_law_draws" 385), (.str "_law_draws" 386), (.str "/claim/cut.py" 387), (.int 116 0), (.int 2 0), (.int 0 0), (.int 0 0), (.int 3 0), (.ref 155), (.bool true), (.int 181 0), (.ref 156), .none, (.ref 157), (.ref 158), (.ref 159), (.int 396 0), (.int 116 0), (.str "/claim/cut.py" 397)]), #[]⟩) ::
 (nat_lit 161, ⟨(.type "function"), none, (.func ⟨"_law_draws", "_law_draws", defArgs s_law_draws, .stmts (defBody s_law_draws), defScope s_law_draws, 3, [], .none, .none, .none, (.str "law_flipwright_k43_prices_by_rows" 307), none, (.ref 160), .none, 0⟩), #[]⟩) ::
 (nat_lit 162, ⟨(.type "tuple"), none, (.seq #[] 0), #[]⟩) ::
 (nat_lit 164, ⟨(.type "tuple"), none, (.seq #[(.str "_law_entry" 402)] 0), #[]⟩) ::
 (nat_lit 165, ⟨(.type "tuple"), none, (.seq #[] 0), #[]⟩) ::
 (nat_lit 167, ⟨(.type "code"), none, (.fields #[(.str "_law_site" 399), (.str "_law_site" 400), (.str "/claim/cut.py" 401), (.int 126 0), (.int 1 0), (.int 0 0), (.int 0 0), (.int 3 0), (.ref 162), (.bool true), (.int 181 0), (.ref 163), .none, (.ref 164), (.ref 165), (.ref 166), (.int 403 0), (.int 126 0), (.str "/claim/cut.py" 404)]), #[]⟩) ::
 (nat_lit 168, ⟨(.type "function"), none, (.func ⟨"_law_site", "_law_site", defArgs s_law_site, .stmts (defBody s_law_site), defScope s_law_site, 3, [], .none, .none, .none, (.str "law_flipwright_k43_prices_by_rows" 307), none, (.ref 167), .none, 0⟩), #[]⟩) ::
 (nat_lit 169, ⟨(.type "tuple"), none, (.seq #[] 0), #[]⟩) ::
 (nat_lit 172, ⟨(.type "code"), none, (.fields #[(.str "_law_lists" 406), (.str "_law_lists" 407), (.str "/claim/cut.py" 408), (.int 130 0), (.int 2 0), (.int 0 0), (.int 0 0), (.int 3 0), (.ref 169), (.bool true), (.int 181 0), (.ref 170), .none, .none, .none, (.ref 171), (.int 409 0), (.int 130 0), (.str "/claim/cut.py" 410)]), #[]⟩) ::
 (nat_lit 173, ⟨(.type "function"), none, (.func ⟨"_law_lists", "_law_lists", defArgs s_law_lists, .stmts (defBody s_law_lists), defScope s_law_lists, 3, [], .none, .none, .none, (.str "law_flipwright_k43_prices_by_rows" 307), none, (.ref 172), .none, 0⟩), #[]⟩) ::
 (nat_lit 174, ⟨(.type "tuple"), none, (.seq #[] 0), #[]⟩) ::
 (nat_lit 177, ⟨(.type "code"), none, (.fields #[(.str "_law_copy" 412), (.str "_law_copy" 413), (.str "/claim/cut.py" 414), (.int 142 0), (.int 1 0), (.int 0 0), (.int 0 0), (.int 3 0), (.ref 174), (.bool true), (.int 181 0), (.ref 175), .none, .none, .none, (.ref 176), (.int 415 0), (.int 142 0), (.str "/claim/cut.py" 416)]), #[]⟩) ::
 (nat_lit 178, ⟨(.type "function"), none, (.func ⟨"_law_copy", "_law_copy", defArgs s_law_copy, .stmts (defBody s_law_copy), defScope s_law_copy, 3, [], .none, .none, .none, (.str "law_flipwright_k43_prices_by_rows" 307), none, (.ref 177), .none, 0⟩), #[]⟩) ::
 (nat_lit 179, ⟨(.type "tuple"), none, (.seq #[] 0), #[]⟩) ::
 (nat_lit 181, ⟨(.type "tuple"), none, (.seq #[(.str "_law_parts" 421), (.str "_law_place" 422), (.str "_law_row" 423), (.str "_law_entry" 424)] 0), #[]⟩) ::
 (nat_lit 182, ⟨(.type "tuple"), none, (.seq #[] 0), #[]⟩) ::
 (nat_lit 184, ⟨(.type "code"), none, (.fields #[(.str "_law_lead" 418), (.str "_law_lead" 419), (.str "/claim/cut.py" 420), (.int 144 0), (.int 3 0), (.int 0 0), (.int 0 0), (.int 3 0), (.ref 179), (.bool true), (.int 181 0), (.ref 180), .none, (.ref 181), (.ref 182), (.ref 183), (.int 425 0), (.int 144 0), (.str "/claim/cut.py" 426)]), #[]⟩) ::
 (nat_lit 185, ⟨(.type "function"), none, (.func ⟨"_law_lead", "_law_lead", defArgs s_law_lead, .stmts (defBody s_law_lead), defScope s_law_lead, 3, [], .none, .none, .none, (.str "law_flipwright_k43_prices_by_rows" 307), none, (.ref 184), .none, 0⟩), #[]⟩) ::
 (nat_lit 186, ⟨(.type "tuple"), none, (.seq #[] 0), #[]⟩) ::
 (nat_lit 188, ⟨(.type "tuple"), none, (.seq #[(.str "_law_widths_here" 431), (.str "_law_rows_here" 432), (.str "_law_many" 433), (.str "_law_longer" 434), (.str "_law_row" 435), (.str "_law_turn" 436)] 0), #[]⟩) ::
 (nat_lit 189, ⟨(.type "tuple"), none, (.seq #[] 0), #[]⟩) ::
 (nat_lit 191, ⟨(.type "code"), none, (.fields #[(.str "_law_rows" 428), (.str "_law_rows" 429), (.str "/claim/cut.py" 430), (.int 149 0), (.int 1 0), (.int 0 0), (.int 0 0), (.int 3 0), (.ref 186), (.bool true), (.int 181 0), (.ref 187), .none, (.ref 188), (.ref 189), (.ref 190), (.int 437 0), (.int 149 0), (.str "/claim/cut.py" 438)]), #[]⟩) ::
 (nat_lit 192, ⟨(.type "function"), none, (.func ⟨"_law_rows", "_law_rows", defArgs s_law_rows, .stmts (defBody s_law_rows), defScope s_law_rows, 3, [], .none, .none, .none, (.str "law_flipwright_k43_prices_by_rows" 307), none, (.ref 191), .none, 0⟩), #[]⟩) ::
 (nat_lit 193, ⟨(.type "tuple"), none, (.seq #[] 0), #[]⟩) ::
 (nat_lit 196, ⟨(.type "code"), none, (.fields #[(.str "_law_due" 440), (.str "_law_due" 441), (.str "/claim/cut.py" 442), (.int 158 0), (.int 4 0), (.int 0 0), (.int 0 0), (.int 3 0), (.ref 193), (.bool true), (.int 181 0), (.ref 194), .none, .none, .none, (.ref 195), (.int 443 0), (.int 158 0), (.str "/claim/cut.py" 444)]), #[]⟩) ::
 (nat_lit 197, ⟨(.type "function"), none, (.func ⟨"_law_due", "_law_due", defArgs s_law_due, .stmts (defBody s_law_due), defScope s_law_due, 3, [], .none, .none, .none, (.str "law_flipwright_k43_prices_by_rows" 307), none, (.ref 196), .none, 0⟩), #[]⟩) ::
 (nat_lit 198, ⟨(.type "tuple"), none, (.seq #[] 0), #[]⟩) ::
 (nat_lit 201, ⟨(.type "code"), none, (.fields #[(.str "law" 446), (.str "law" 447), (.str "/claim/cut.py" 448), (.int 171 0), (.int 1 0), (.int 0 0), (.int 0 0), (.int 3 0), (.ref 198), (.bool true), (.int 181 0), (.ref 199), .none, .none, .none, (.ref 200), (.int 449 0), (.int 171 0), (.str "/claim/cut.py" 450)]), #[]⟩) ::
 (nat_lit 202, ⟨(.type "function"), none, (.func ⟨"law", "law", defArgs s_law, .stmts (defBody s_law), defScope s_law, 3, [], .none, .none, .none, (.str "law_flipwright_k43_prices_by_rows" 307), none, (.ref 201), .none, 0⟩), #[]⟩) :: []
noncomputable def KF : Params → PySem.W.Frag := fun P => (nat_lit 72, ⟨.none, none, (.fields #[]), #[]⟩) :: KFr P
def KA : List Addr := [72, 2, 3, 4, 15, 22, 23, 24, 25, 28, 35, 36, 37, 40, 42, 43, 45, 46, 47, 49, 50, 52, 53, 54, 57, 58, 59, 61, 62, 64, 65, 66, 69, 70, 71, 73, 74, 76, 77, 78, 80, 81, 83, 84, 85, 87, 88, 90, 91, 92, 94, 95, 97, 98, 99, 101, 102, 104, 105, 106, 108, 109, 111, 112, 113, 115, 116, 118, 119, 120, 122, 123, 125, 126, 127, 129, 130, 132, 133, 134, 136, 137, 139, 140, 141, 143, 144, 146, 147, 148, 150, 151, 153, 154, 155, 157, 158, 160, 161, 162, 164, 165, 167, 168, 169, 172, 173, 174, 177, 178, 179, 181, 182, 184, 185, 186, 188, 189, 191, 192, 193, 196, 197, 198, 201, 202]
theorem KAs (P : Params) : KA = List.map (fun x => x.fst) (KF P) := by kernel_rfl
noncomputable def vw : Program := { PySem.Challenge.rw_flipwright_k43_prices_by_rows.row.toRowW.1 with main := { PySem.Challenge.rw_flipwright_k43_prices_by_rows.row.toRowW.1.main with body := ((PySem.Challenge.rw_flipwright_k43_prices_by_rows.row.toRowW.1.main.body.drop 1).take 2 ++ ((PySem.Challenge.rw_flipwright_k43_prices_by_rows.row.toRowW.1.main.body.drop 4).take 2 ++ ((PySem.Challenge.rw_flipwright_k43_prices_by_rows.row.toRowW.1.main.body.drop 7).take 1 ++ ((PySem.Challenge.rw_flipwright_k43_prices_by_rows.row.toRowW.1.main.body.drop 9).take 1 ++ ((PySem.Challenge.rw_flipwright_k43_prices_by_rows.row.toRowW.1.main.body.drop 11).take 4 ++ (PySem.Challenge.rw_flipwright_k43_prices_by_rows.row.toRowW.1.main.body.drop 16)))))) } }
end K43
namespace K43
open PySem L2 FW PyProof.Rows
theorem all_mk {l : PySem.W.OpenLaw} {w : World} {K : PySem.W.Frag} {mg : Str → Option Value} {fa   : Addr} {f0 f1 f2 f3 f4 f5 f6 f7 f8 f9 f10 f11 f12 f13 f14 f15 f16 f17 f18 f19 f20 f21 f22 f23 f24 : Addr} {d0 d1 d2 d3 d4 d5 d6 d7 d8 d9 d10 d11 d12 d13 d14 d15 d16 d17 d18 d19 d20 d21 d22 d23 d24 : FuncData} {cR Pt : Addr} (hfa : mg "law" = some (.ref fa))
    (A0 : FnAt K mg "law" s_law ["_law_script"] f0 d0)
    (A1 : FnAt K mg "greatest_divisor" s_greatest_divisor ["one", "other"] f1 d1)
    (A2 : FnAt K mg "fraction" s_fraction ["top", "bottom"] f2 d2)
    (A3 : FnAt K mg "weights_of" s_weights_of ["draw"] f3 d3)
    (A4 : FnAt K mg "index_weights" s_index_weights ["part", "draws", "heaviest"] f4 d4)
    (A5 : FnAt K mg "row_weights" s_row_weights ["parts", "draws"] f5 d5)
    (A6 : FnAt K mg "bottoms" s_bottoms ["draws"] f6 d6)
    (A7 : FnAt K mg "prices" s_prices ["parts", "draws"] f7 d7)
    (A8 : FnAt K mg "from_below" s_from_below ["parts", "at_leaf", "how"] f8 d8)
    (A9 : FnAt K mg "_law_cell_at" s_law_cell_at ["_law_script", "_law_k"] f9 d9)
    (A10 : FnAt K mg "_law_whole" s_law_whole ["_law_found"] f10 d10)
    (A11 : FnAt K mg "_law_mix" s_law_mix ["_law_cell", "_law_k"] f11 d11)
    (A12 : FnAt K mg "_law_same" s_law_same ["_law_found", "_law_due_here"] f12 d12)
    (A13 : FnAt K mg "_law_word" s_law_word ["_law_figure"] f13 d13)
    (A14 : FnAt K mg "_law_outcome" s_law_outcome ["_law_cell"] f14 d14)
    (A15 : FnAt K mg "_law_divisor" s_law_divisor ["_law_one", "_law_other"] f15 d15)
    (A16 : FnAt K mg "_law_is_share" s_law_is_share ["_law_found"] f16 d16)
    (A17 : FnAt K mg "_law_widths" s_law_widths ["_law_script"] f17 d17)
    (A18 : FnAt K mg "_law_draws" s_law_draws ["_law_script", "_law_widths_here"] f18 d18)
    (A19 : FnAt K mg "_law_site" s_law_site ["_law_entry"] f19 d19)
    (A20 : FnAt K mg "_law_lists" s_law_lists ["_law_script", "_law_widths_here"] f20 d20)
    (A21 : FnAt K mg "_law_copy" s_law_copy ["_law_parts"] f21 d21)
    (A22 : FnAt K mg "_law_lead" s_law_lead ["_law_parts", "_law_place", "_law_row"] f22 d22)
    (A23 : FnAt K mg "_law_rows" s_law_rows ["_law_widths_here"] f23 d23)
    (A24 : FnAt K mg "_law_due" s_law_due ["_law_parts", "_law_place", "_law_rows_here", "_law_draws_here"] f24 d24)
    (Tl : Tb mg)
    (FC : FunC K "row_weights" s_row_weights f5 d5 cR)
    (M : Mks K mg cR Pt)
    (hb : ∀ (s : Shared) (v : Value), BindsTo s d0 ⟨[v], []⟩ [("_law_script", v)]) :
    ∃ fd : FuncData, (∀ (s : Shared) (v : Value), BindsTo s fd ⟨[v], []⟩ [("_law_script", v)]) ∧ ∀ base : Heap, K.In base → base.Ns mainGlobals mg → FnOk l.prog w K mg base CX0 7 fa fd ["_law_script"] (sp_law K Pt) := by
  have e := hfa.symm.trans A0.m
  cases e
  refine ⟨d0, hb, fun base _ _ => ?_⟩
  have Go : FnOk l.prog w K mg base CX0 2 _ _ _ (sp_outcome K) := ok_law_outcome A14 A13 A11 Tl
  exact ok_law A0 A17 (ok_law_widths A17 A9 A11 Tl) A18 (ok_law_draws A18 A9 A11 Tl) A20 (ok_law_lists A20 A11 A19 A14 Go Tl) A23 (ok_law_rows A23 Tl) A21 (ok_law_copy A21 Tl) A7 (ok_prices A7 FC M A8 A3 A4 A5 A6 A2 A1 Tl) A24 (ok_law_due A24 A19 A22 Tl) A16 (ok_law_is_share A16 A10 A15 Tl) A12 (ok_law_sameL A12 A10 Tl) Tl
theorem walk {l : PySem.W.OpenLaw} {q : Program} {loose : List Str} {XP : (Str → Option Value) → Heap → Prop} {YP : World → Heap → Prop} {d : DefRec} {K : Params → PySem.W.Frag} {c Pt : Addr} (hn : l.most = some 63) (hdf : d.params.defaults = [])
    (hY : ∀ (w : World) (h : Heap), YP w h → (K w.params).In h ∧ h.TableAt c Pt #[]) (hKP : ∀ w : World, (K w.params).lookup Pt = none) (hne : Pt ≠ cStatics)
    (F : ∀ (w : World) (mg : Str → Option Value) (fa : Addr) (h : Heap), (K w.params).In h → h.Ns mainGlobals mg → mg d.name = some (.ref fa) →
      ∃ fd : FuncData, (∀ (s : Shared) (u : Value), BindsTo s fd ⟨[u], []⟩ [("_law_script", u)]) ∧ ∀ base : Heap, (K w.params).In base → base.Ns mainGlobals mg → FnOk l.prog w (K w.params) mg base CX0 7 fa fd ["_law_script"] (sp_law (K w.params) Pt)) :
    PySem.W.WalkO q loose XP YP l.row.toRowW d [] (fun f vs => PySem.call f vs) :=
  L2.walk_ofT (n := 63) (k := 7) (x := "_law_script") (sp := fun w => sp_law (K w.params) Pt) hn (by decide) hdf ⟨rfl, by decide, by decide⟩ hY hKP hne F (fun _ _ a ns hl hb hO hS => ⟨a, ns, rfl, hO.1, hS, hl, hb, fun _ => rfl⟩)
end K43
open PySem PySem.W PyProof.Rows L2
set_option maxRecDepth 100000 in
set_option maxHeartbeats 0 in
theorem PySem.Challenge.cw_flipwright_k43_prices_by_rows_holds : PySem.Challenge.rw_flipwright_k43_prices_by_rows.Holds := by
  w_on; o_law
  refine holds_open (q := K43.vw) (loose := []) (Xt := fun s => xlAt K43.vw [] s && recOk (RowW.records (OpenRow.toRowW PySem.Challenge.rw_flipwright_k43_prices_by_rows.row)) s) (XP := XL K43.vw []) (Yf := Hook.obs (kHook K43.KF K43.KA K43.KAs)) (Ya := Hook.val (kHook K43.KF K43.KA K43.KAs)) (YP := Hook.says (kHook K43.KF K43.KA K43.KAs)) (N := 2546) ?hl (Hook.of _) (Hook.keeps _) (fun s e => xl_of s (Bool.and_eq_true_iff.mp e).1) XL.keeps (by rfl) (by rfl) (by rfl) (fun s e => recFacts_of (Bool.and_eq_true_iff.mp e).2) (by rfl) (by first | assumption | decide +kernel) (by decide +kernel) ⟨rfl, rfl, rfl, rfl, rfl, by decide +kernel⟩ ?hw ?hc
  (case hw => w_witness2)
  (case hl => intro w; kernel_rfl)
  refine K43.walk (l := PySem.Challenge.rw_flipwright_k43_prices_by_rows) (K := K43.KFr) (c := 76) (Pt := 72) rfl rfl (fun w h Y => ?Y) (fun w => by rfl) (by decide) ?F
  case Y =>
    have X : (K43.KF w.params).In h := PySem.W.kIn_of Y
    have X2 : (K43.KFr w.params).In h := K43.tail_in X (by rfl)
    exact ⟨X2, ⟨_, _, X2 76 _ (by rfl), rfl, rfl, rfl⟩, K43.head_in X⟩
  case F =>
    k_fill
    intro w mg fa h KX G hmg
    refine' K43.all_mk hmg (fnAt_mk KX G ?a0 ?l0 ?c0 ?k0 (fun _ _ _ _ _ _ us hl => match us, hl with | [_], _ => rfl))
      (fnAt_mk KX G ?a1 ?l1 ?c1 ?k1 (fun _ _ _ _ _ _ us hl => match us, hl with | [_, _], _ => rfl))
      (fnAt_mk KX G ?a2 ?l2 ?c2 ?k2 (fun _ _ _ _ _ _ us hl => match us, hl with | [_, _], _ => rfl))
      (fnAt_mk KX G ?a3 ?l3 ?c3 ?k3 (fun _ _ _ _ _ _ us hl => match us, hl with | [_], _ => rfl))
      (fnAt_mk KX G ?a4 ?l4 ?c4 ?k4 (fun _ _ _ _ _ _ us hl => match us, hl with | [_, _, _], _ => rfl))
      (fnAt_mk KX G ?a5 ?l5 ?c5 ?k5 (fun _ _ _ _ _ _ us hl => match us, hl with | [_, _], _ => rfl))
      (fnAt_mk KX G ?a6 ?l6 ?c6 ?k6 (fun _ _ _ _ _ _ us hl => match us, hl with | [_], _ => rfl))
      (fnAt_mk KX G ?a7 ?l7 ?c7 ?k7 (fun _ _ _ _ _ _ us hl => match us, hl with | [_, _], _ => rfl))
      (fnAt_mk KX G ?a8 ?l8 ?c8 ?k8 (fun _ _ _ _ _ _ us hl => match us, hl with | [_, _, _], _ => rfl))
      (fnAt_mk KX G ?a9 ?l9 ?c9 ?k9 (fun _ _ _ _ _ _ us hl => match us, hl with | [_, _], _ => rfl))
      (fnAt_mk KX G ?a10 ?l10 ?c10 ?k10 (fun _ _ _ _ _ _ us hl => match us, hl with | [_], _ => rfl))
      (fnAt_mk KX G ?a11 ?l11 ?c11 ?k11 (fun _ _ _ _ _ _ us hl => match us, hl with | [_, _], _ => rfl))
      (fnAt_mk KX G ?a12 ?l12 ?c12 ?k12 (fun _ _ _ _ _ _ us hl => match us, hl with | [_, _], _ => rfl))
      (fnAt_mk KX G ?a13 ?l13 ?c13 ?k13 (fun _ _ _ _ _ _ us hl => match us, hl with | [_], _ => rfl))
      (fnAt_mk KX G ?a14 ?l14 ?c14 ?k14 (fun _ _ _ _ _ _ us hl => match us, hl with | [_], _ => rfl))
      (fnAt_mk KX G ?a15 ?l15 ?c15 ?k15 (fun _ _ _ _ _ _ us hl => match us, hl with | [_, _], _ => rfl))
      (fnAt_mk KX G ?a16 ?l16 ?c16 ?k16 (fun _ _ _ _ _ _ us hl => match us, hl with | [_], _ => rfl))
      (fnAt_mk KX G ?a17 ?l17 ?c17 ?k17 (fun _ _ _ _ _ _ us hl => match us, hl with | [_], _ => rfl))
      (fnAt_mk KX G ?a18 ?l18 ?c18 ?k18 (fun _ _ _ _ _ _ us hl => match us, hl with | [_, _], _ => rfl))
      (fnAt_mk KX G ?a19 ?l19 ?c19 ?k19 (fun _ _ _ _ _ _ us hl => match us, hl with | [_], _ => rfl))
      (fnAt_mk KX G ?a20 ?l20 ?c20 ?k20 (fun _ _ _ _ _ _ us hl => match us, hl with | [_, _], _ => rfl))
      (fnAt_mk KX G ?a21 ?l21 ?c21 ?k21 (fun _ _ _ _ _ _ us hl => match us, hl with | [_], _ => rfl))
      (fnAt_mk KX G ?a22 ?l22 ?c22 ?k22 (fun _ _ _ _ _ _ us hl => match us, hl with | [_, _, _], _ => rfl))
      (fnAt_mk KX G ?a23 ?l23 ?c23 ?k23 (fun _ _ _ _ _ _ us hl => match us, hl with | [_], _ => rfl))
      (fnAt_mk KX G ?a24 ?l24 ?c24 ?k24 (fun _ _ _ _ _ _ us hl => match us, hl with | [_, _, _, _], _ => rfl))
      ⟨PySem.W.mg_none_of KX G ?zl0, PySem.W.mg_none_of KX G ?zl1, PySem.W.mg_none_of KX G ?zl2, PySem.W.mg_none_of KX G ?zl3, PySem.W.mg_none_of KX G ?zl4, PySem.W.mg_none_of KX G ?zl5, PySem.W.mg_none_of KX G ?zl6, PySem.W.mg_none_of KX G ?zl7, PySem.W.mg_none_of KX G ?zl8, PySem.W.mg_none_of KX G ?zl9, PySem.W.mg_none_of KX G ?zl10, PySem.W.mg_none_of KX G ?zl11, PySem.W.mg_none_of KX G ?zl12, PySem.W.mg_none_of KX G ?zl13⟩
      ⟨⟨_, _, _, _, _, _, _, _, rfl, ?lF, ?cF⟩⟩
      (K43.mks_mk ?lM (PySem.W.mg_of KX G ?gB) ?lB ?sM ?sB)
      ?hb
    (case a0 => k_is); (case l0 => k_is); (case c0 => k_is); (case k0 => k_is)
    (case a1 => k_is); (case l1 => k_is); (case c1 => k_is); (case k1 => k_is)
    (case a2 => k_is); (case l2 => k_is); (case c2 => k_is); (case k2 => k_is)
    (case a3 => k_is); (case l3 => k_is); (case c3 => k_is); (case k3 => k_is)
    (case a4 => k_is); (case l4 => k_is); (case c4 => k_is); (case k4 => k_is)
    (case a5 => k_is); (case l5 => k_is); (case c5 => k_is); (case k5 => k_is)
    (case a6 => k_is); (case l6 => k_is); (case c6 => k_is); (case k6 => k_is)
    (case a7 => k_is); (case l7 => k_is); (case c7 => k_is); (case k7 => k_is)
    (case a8 => k_is); (case l8 => k_is); (case c8 => k_is); (case k8 => k_is)
    (case a9 => k_is); (case l9 => k_is); (case c9 => k_is); (case k9 => k_is)
    (case a10 => k_is); (case l10 => k_is); (case c10 => k_is); (case k10 => k_is)
    (case a11 => k_is); (case l11 => k_is); (case c11 => k_is); (case k11 => k_is)
    (case a12 => k_is); (case l12 => k_is); (case c12 => k_is); (case k12 => k_is)
    (case a13 => k_is); (case l13 => k_is); (case c13 => k_is); (case k13 => k_is)
    (case a14 => k_is); (case l14 => k_is); (case c14 => k_is); (case k14 => k_is)
    (case a15 => k_is); (case l15 => k_is); (case c15 => k_is); (case k15 => k_is)
    (case a16 => k_is); (case l16 => k_is); (case c16 => k_is); (case k16 => k_is)
    (case a17 => k_is); (case l17 => k_is); (case c17 => k_is); (case k17 => k_is)
    (case a18 => k_is); (case l18 => k_is); (case c18 => k_is); (case k18 => k_is)
    (case a19 => k_is); (case l19 => k_is); (case c19 => k_is); (case k19 => k_is)
    (case a20 => k_is); (case l20 => k_is); (case c20 => k_is); (case k20 => k_is)
    (case a21 => k_is); (case l21 => k_is); (case c21 => k_is); (case k21 => k_is)
    (case a22 => k_is); (case l22 => k_is); (case c22 => k_is); (case k22 => k_is)
    (case a23 => k_is); (case l23 => k_is); (case c23 => k_is); (case k23 => k_is)
    (case a24 => k_is); (case l24 => k_is); (case c24 => k_is); (case k24 => k_is)
    (case zl0 => k_is)
    (case zl1 => k_is)
    (case zl2 => k_is)
    (case zl3 => k_is)
    (case zl4 => k_is)
    (case zl5 => k_is)
    (case zl6 => k_is)
    (case zl7 => k_is)
    (case zl8 => k_is)
    (case zl9 => k_is)
    (case zl10 => k_is)
    (case zl11 => k_is)
    (case zl12 => k_is)
    (case zl13 => k_is)
    (case lF => rfl)
    (case cF => k_is)
    (case lM => k_is)
    (case gB => k_is)
    (case lB => k_is)
    (case sM => exact ⟨_, _, _, _, _, _, _, _, rfl, rfl, rfl, rfl, rfl, rfl, rfl, rfl, by decide⟩)
    (case sB => exact ⟨by decide, by decide, by decide, by decide, rfl, rfl, rfl⟩)
    (case hb => exact fun s u => .of_eq rfl)
