import PyProof.Rows.All
import Wide.All
import OpenK.AllK
import Wide.FinOn
import PyProof.EqAt
import PyProof.EqKinds
import PyProof.TupleCall
import Lean
import PySem.Challenge.RW_flipwright_k22_rows_opened
set_option Elab.async false
set_option linter.all false
set_option maxRecDepth 100000
namespace L2
open PySem PySem.Spec PyProof.Rows
/-- a key: an int or a str -/
abbrev Key := Sum Int Str
def keyIs : Key → Value → Bool
  | .inl k, v => Value.isInt k v
  | .inr x, v => Value.isStrOf x v
def keyH (w : World) : Key → Int
  | .inl k => hashInt k
  | .inr x => hashStr w x
theorem keyIs_shape : ∀ {k : Key} {v : Value}, keyIs k v = true → (∃ i t, k = Sum.inl i ∧ v = Value.int i t) ∨ (∃ x t, k = Sum.inr x ∧ v = Value.str x t)
  | .inl i, v, h => by
    obtain ⟨t, e⟩ := Value.isInt_shape (k := i) (v := v) h
    exact .inl ⟨i, t, rfl, e⟩
  | .inr x, v, h => by
    obtain ⟨t, e⟩ := Value.isStrOf_shape (x := x) (v := v) h
    exact .inr ⟨x, t, rfl, e⟩
theorem keyIs_int (i : Int) (t : Tok) : keyIs (.inl i) (.int i t) = true := by simp [keyIs, Value.isInt]
theorem keyIs_str (x : Str) (t : Tok) : keyIs (.inr x) (.str x t) = true := by simp [keyIs, Value.isStrOf]
theorem key_ll (a b : Int) : decide ((Sum.inl a : Key) = Sum.inl b) = (a == b) := by
  by_cases e : a = b
  · subst e; simp
  · have h : ¬ (Sum.inl a : Key) = Sum.inl b := fun q => e (Sum.inl.inj q)
    rw [decide_eq_false h]
    exact (beq_eq_false_iff_ne.mpr e).symm
theorem key_rr (a b : Str) : decide ((Sum.inr a : Key) = Sum.inr b) = decide (a = b) := by
  by_cases e : a = b
  · subst e; simp
  · have h : ¬ (Sum.inr a : Key) = Sum.inr b := fun q => e (Sum.inr.inj q)
    rw [decide_eq_false h, decide_eq_false e]
theorem key_lr (a : Int) (b : Str) : decide ((Sum.inl a : Key) = Sum.inr b) = false := decide_eq_false (fun q => nomatch q)
theorem key_rl (a : Str) (b : Int) : decide ((Sum.inr a : Key) = Sum.inl b) = false := decide_eq_false (fun q => nomatch q)
def mixKind (prog : Program) (w : World) : PySem.KeyKind prog w Key where
  is := keyIs
  hash := keyH w
  inj := fun v a b ha hb => by
    rcases keyIs_shape ha with ⟨i, t, rfl, rfl⟩ | ⟨x, t, rfl, rfl⟩
    · rcases keyIs_shape hb with ⟨j, u, rfl, e⟩ | ⟨y, u, rfl, e⟩
      · injection e with e1 _; rw [e1]
      · exact nomatch e
    · rcases keyIs_shape hb with ⟨j, u, rfl, e⟩ | ⟨y, u, rfl, e⟩
      · exact nomatch e
      · injection e with e1 _; rw [e1]
  byValue := fun k v h => by
    rcases keyIs_shape h with ⟨i, t, rfl, rfl⟩ | ⟨x, t, rfl, rfl⟩ <;> rfl
  pyHash := fun hv h => by
    rcases keyIs_shape hv with ⟨i, t, rfl, rfl⟩ | ⟨x, t, rfl, rfl⟩
    · exact wpAny_pyHash_int h
    · exact wpAny_pyHash_str h
  eqBool := fun hu hv h => by
    rcases keyIs_shape hu with ⟨i, t, rfl, rfl⟩ | ⟨x, t, rfl, rfl⟩
    · rcases keyIs_shape hv with ⟨j, u, rfl, rfl⟩ | ⟨y, u, rfl, rfl⟩
      · rw [key_ll] at h; exact wpAny_eqBool_int h
      · rw [key_lr] at h; exact SeqAt.EqAt.int_str i t y u _ _ _ _ h
    · rcases keyIs_shape hv with ⟨j, u, rfl, rfl⟩ | ⟨y, u, rfl, rfl⟩
      · rw [key_rl] at h; exact SeqAt.EqAt.str_int x t j u _ _ _ _ h
      · rw [key_rr] at h; exact wpAny_eqBool_str h
  «strs» := fun k x t v h => by
    rcases keyIs_shape h with ⟨i, u, rfl, e⟩ | ⟨y, u, rfl, e⟩
    · exact nomatch e
    · injection e with e1 _
      subst e1
      cases v <;> rfl
theorem mixKind_int (prog : Program) (w : World) (i : Int) (t : Tok) : (mixKind prog w).is (.inl i) (.int i t) = true := keyIs_int i t
theorem mixKind_str (prog : Program) (w : World) (x : Str) (t : Tok) : (mixKind prog w).is (.inr x) (.str x t) = true := keyIs_str x t
end L2
namespace L2
open PySem PySem.Spec PyProof.Rows
/-- a value, without the heap -/
inductive V where
  | non | bl (b : Bool) | int (i : Int) | str (x : Str) | byt (b : Array UInt8) | flt (b : UInt64) | ref (a : Addr) | ty (n : String)
  deriving DecidableEq
def RelV : V → Value → Prop
  | .non, u => u = Value.none
  | .bl b, u => u = Value.bool b
  | .int i, u => ∃ t, u = Value.int i t
  | .str x, u => ∃ t, u = Value.str x t
  | .byt b, u => ∃ t, u = Value.bytes b t
  | .flt b, u => ∃ t, u = Value.float b t
  | .ref a, u => u = Value.ref a
  | .ty n, u => u = Value.type n
abbrev Vals : List V → List Value → Prop := Paired RelV
theorem Vals.length {xs : List V} {us : List Value} (r : Vals xs us) : xs.length = us.length := Paired.length r
theorem Vals.get : ∀ {xs : List V} {us : List Value} {i : Nat} {x : V}, Vals xs us → xs[i]? = some x → ∃ u, us[i]? = some u ∧ RelV x u
  | _, _, _, _, .nil, e => by simp at e
  | _, _, 0, _, .cons r _, e => by simp at e; subst e; exact ⟨_, rfl, r⟩
  | _, _, i + 1, x, .cons _ t, e => by
    obtain ⟨u, h1, h2⟩ := Vals.get (i := i) (x := x) t (by simpa using e)
    exact ⟨u, by simpa using h1, h2⟩
theorem Vals.append : ∀ {xs ys : List V} {us ws : List Value}, Vals xs us → Vals ys ws → Vals (xs ++ ys) (us ++ ws)
  | _, _, _, _, .nil, s => s
  | _, _, _, _, .cons r t, s => .cons r (Vals.append t s)
theorem Vals.take : ∀ {xs : List V} {us : List Value} (n : Nat), Vals xs us → Vals (xs.take n) (us.take n)
  | _, _, 0, _ => .nil
  | _, _, _ + 1, .nil => .nil
  | _, _, n + 1, .cons r t => .cons r (Vals.take n t)
theorem Vals.drop : ∀ {xs : List V} {us : List Value} (n : Nat), Vals xs us → Vals (xs.drop n) (us.drop n)
  | _, _, 0, r => r
  | _, _, _ + 1, .nil => .nil
  | _, _, n + 1, .cons _ t => Vals.drop n t
def RelO : Option V → Option Value → Prop
  | some v, some u => RelV v u
  | none, none => True
  | _, _ => False
def KV {κ : Type} : List (κ × V) → List (κ × Value) → Prop := Paired fun (p : κ × V) (q : κ × Value) => p.1 = q.1 ∧ RelV p.2 q.2
/-- a key of a dict (00_mix): an int or a text -/
def kV : Key → V
  | .inl i => .int i
  | .inr x => .str x
/-- what stands at a tracked address -/
inductive HO where
  /-- a list -/
  | lst (xs : List V)
  /-- a tuple (never changes) -/
  | tup (xs : List V)
  /-- a dict whose keys are ints and texts; one whose keys are tuples of ints and texts (the empty one is both) -/
  | dK (kvs : List (Key × V)) | dT (kvs : List (List Key × V))
  /-- a set of ints: its members, its size -/
  | set (S : Int → Bool) (n : Nat)
  /-- an instance of the class at C, its dict at dx, its attributes -/
  | ins (C dx : Addr) (fs : List (Str × V))
  /-- the dict of the instance at x -/
  | own (x : Addr)
  /-- the dict of an exception -/
  | xd (fs : List (Str × V))
  /-- a bound method, f of x -/
  | met (f x : Addr)
  /-- a range object lo, lo + 1, .. below hi -/
  | rng (lo hi : Int)
  /-- a thing that is known to the object (the script; a dict while a loop walks it): read, never written while it is so -/
  | frz (o : Obj) (u : HO)
  /-- a code object's table -/
  | tbl (ps : Array Value)
  /-- any other thing, by what is true of its one object (a def of one's own: SetO a S n := HO.ext fun h => ..) -/
  | ext (φ : Heap → Prop)
abbrev Hp := Addr → Option HO
def upd (H : Hp) (a : Addr) (o : HO) : Hp := fun b => if b = a then some o else H b
theorem upd_same {H : Hp} {a : Addr} {o : HO} : upd H a o a = some o := by unfold upd; rw [if_pos rfl]
theorem upd_ne {H : Hp} {a b : Addr} {o : HO} (h : b ≠ a) : upd H a o b = H b := by unfold upd; rw [if_neg h]
/-- two objects of different content stand apart -/
theorem ne_of {H : Hp} {a b : Addr} {o u : HO} (h : H a = some o) (h' : H b = some u) (d : o ≠ u) : a ≠ b := by
  intro e; subst e; rw [h] at h'; exact d (Option.some.inj h')
theorem ne_of_none {H : Hp} {a b : Addr} {o : HO} (h : H a = some o) (h' : H b = none) : a ≠ b := by
  intro e; subst e; rw [h] at h'; cases h'
section
variable (P : Program) (w : World)
def ObjOk (H : Hp) (h : Heap) (a : Addr) : HO → Prop
  | .lst xs => xs.length ≤ sizeLine ∧ ∃ (its : List Value) (n : Nat), Vals xs its ∧ h.get? a = some { cls := .type "list", data := .seq its.toArray n }
  | .tup xs => xs.length ≤ sizeLine ∧ ∃ its : List Value, Vals xs its ∧ IsTup h a its.toArray
  | .dK kvs => kvs.length ≤ sizeLine ∧ (a == sysModules) = false ∧ ∃ vs, KV kvs vs ∧ h.DictOf (mixKind P w) a vs
  | .dT kvs => kvs.length ≤ sizeLine ∧ (a == sysModules) = false ∧ ∃ xs : List (List Key × Addr × Value),
      Paired (fun (p : List Key × V) (q : List Key × Addr × Value) => p.1 = q.1 ∧ H q.2.1 = some (.tup (p.1.map kV)) ∧ RelV p.2 q.2.2) kvs xs ∧
      ∃ o es ep, h.get? a = some o ∧ o.ExactDict ∧ o.data = .dict es ep ∧ es.toList = xs.map (entryOfKey (tupleKind (mixKind P w))) ∧ (xs.map (·.1)).Nodup
  | .set S n => h.SetOf (intKind P w) a S n
  | .ins C dx fs => H dx = some (.own a) ∧ fs.length ≤ 1000 ∧ dx ≠ a ∧ h.get? a = some (PySem.W.instObj C dx) ∧
      ∃ mA, h.Ns1 dx mA ∧ (∀ f, RelO (fs.lookup f) (mA f)) ∧ PySem.Within mA (fs.map (·.1))
  | .own _ => ∃ o, h.get? a = some o
  | .xd fs => ∃ mA, h.Ns1 a mA ∧ ∀ f, RelO (fs.lookup f) (mA f)
  | .rng lo hi => ∃ t u v, h.get? a = some { cls := .type "range", data := .fields #[.int lo t, .int hi u, .int 1 v] }
  | .frz o u => h.get? a = some o ∧ ObjOk H h a u
  | .tbl ps => h.get? a = some { cls := .none, data := .fields ps }
  | .met f x => h.get? a = some (PySem.W.methodObj (.ref f) (.ref x))
  | .ext φ => φ h ∧ (∃ o, h.get? a = some o) ∧ ∀ h1 h2 : Heap, φ h1 → (∀ o, h1.get? a = some o → h2.get? a = some o) → φ h2
/-- the abstract heap is held -/
def HOk (H : Hp) (h : Heap) : Prop := ∀ a o, H a = some o → ObjOk P w H h a o
end
section
variable {P : Program} {w : World} {H H' : Hp} {h h' : Heap} {a : Addr} {o : HO}
theorem ObjOk.lt (x : ObjOk P w H h a o) : a < h.objs.size := by
  cases o with
  | lst xs => obtain ⟨_, _, _, _, e⟩ := x; exact Heap.lt_size e
  | tup xs => obtain ⟨_, _, _, p⟩ := x; exact p.lt
  | dK kvs => obtain ⟨_, _, _, _, o, _, _, e, _⟩ := x; exact Heap.lt_size e
  | dT kvs => obtain ⟨_, _, _, _, o, _, _, e, _⟩ := x; exact Heap.lt_size e
  | set S n => obtain ⟨o, _, _, _, e, _⟩ := x; exact Heap.lt_size e
  | ins C dx fs => obtain ⟨_, _, _, e, _⟩ := x; exact Heap.lt_size e
  | own y => obtain ⟨_, e⟩ := x; exact Heap.lt_size e
  | xd fs => obtain ⟨_, ⟨_, _, _, e, _⟩, _⟩ := x; exact Heap.lt_size e
  | rng lo hi => obtain ⟨_, _, _, e⟩ := x; exact Heap.lt_size e
  | frz ob u => obtain ⟨e, _⟩ := x; exact Heap.lt_size e
  | tbl ps => exact Heap.lt_size (show h.get? a = some _ from x)
  | met f y => exact Heap.lt_size (show h.get? a = some _ from x)
  | ext φ => obtain ⟨_, ⟨_, e⟩, _⟩ := x; exact Heap.lt_size e
theorem Paired.mapP {α β : Type} {F G : α → β → Prop} : ∀ {l₁ : List α} {l₂ : List β}, Paired F l₁ l₂ → (∀ a b, F a b → G a b) → Paired G l₁ l₂
  | _, _, .nil, _ => .nil
  | _, _, .cons r t, f => .cons (f _ _ r) (Paired.mapP t f)
/-- what an object's description leans on: its own object, its own dict, the tuples -/
theorem ObjOk.stay (x : ObjOk P w H h a o) (k : ∀ b u, (b = a ∨ H b = some (.own a)) → h.get? b = some u → h'.get? b = some u)
    (ho : ∀ b, H b = some (.own a) → H' b = some (.own a)) (ht : ∀ b xs, H b = some (.tup xs) → H' b = some (.tup xs)) : ObjOk P w H' h' a o := by
  induction o with
  | lst xs => obtain ⟨z, its, n, r, e⟩ := x; exact ⟨z, its, n, r, k _ _ (.inl rfl) e⟩
  | tup xs => obtain ⟨z, its, r, ob, e, c⟩ := x; exact ⟨z, its, r, ob, k _ _ (.inl rfl) e, c⟩
  | dK kvs => obtain ⟨z, y, vs, r, ob, es, ep, e, c⟩ := x; exact ⟨z, y, vs, r, ob, es, ep, k _ _ (.inl rfl) e, c⟩
  | dT kvs =>
    obtain ⟨z, y, xs, r, ob, es, ep, e, c⟩ := x
    exact ⟨z, y, xs, Paired.mapP r fun p q z => ⟨z.1, ht _ _ z.2.1, z.2.2⟩, ob, es, ep, k _ _ (.inl rfl) e, c⟩
  | set S n => obtain ⟨ob, es, ep, t, e, c⟩ := x; exact ⟨ob, es, ep, t, k _ _ (.inl rfl) e, c⟩
  | ins C dx fs =>
    obtain ⟨d, z, ne, e, mA, ⟨od, es, ep, e2, c⟩, r⟩ := x
    exact ⟨ho _ d, z, ne, k _ _ (.inl rfl) e, mA, ⟨od, es, ep, k _ _ (.inr d) e2, c⟩, r⟩
  | own y => obtain ⟨ob, e⟩ := x; exact ⟨ob, k _ _ (.inl rfl) e⟩
  | xd fs => obtain ⟨mA, ⟨od, es, ep, e, c⟩, r⟩ := x; exact ⟨mA, ⟨od, es, ep, k _ _ (.inl rfl) e, c⟩, r⟩
  | rng lo hi => obtain ⟨t, u, v, e⟩ := x; exact ⟨t, u, v, k _ _ (.inl rfl) e⟩
  | frz ob u ih => obtain ⟨e, q⟩ := x; exact ⟨k _ _ (.inl rfl) e, ih q⟩
  | tbl ps =>
    have e : h.get? a = some { cls := .none, data := .fields ps } := x
    show h'.get? a = some { cls := .none, data := .fields ps }
    exact k a _ (.inl rfl) e
  | met f y =>
    have e : h.get? a = some (PySem.W.methodObj (.ref f) (.ref y)) := x
    show h'.get? a = some (PySem.W.methodObj (.ref f) (.ref y))
    exact k a _ (.inl rfl) e
  | ext φ => obtain ⟨p, ⟨o, e⟩, st⟩ := x; exact ⟨st _ _ p fun o q => k _ _ (.inl rfl) q, ⟨o, k _ _ (.inl rfl) e⟩, st⟩
theorem HOk.lt (x : HOk P w H h) (e : H a = some o) : a < h.objs.size := (x a o e).lt
theorem HOk.fresh (x : HOk P w H h) (e : h.objs.size ≤ a) : H a = none := by
  cases q : H a with
  | none => rfl
  | some u => exact absurd (Nat.lt_of_lt_of_le (x.lt q) e) (Nat.lt_irrefl _)
/-- every object of the heap is kept -/
theorem HOk.kept (x : HOk P w H h) (k : ∀ b u, h.get? b = some u → h'.get? b = some u) : HOk P w H h' := fun a o e =>
  (x a o e).stay (fun b u _ q => k b u q) (fun _ q => q) fun _ _ q => q
/-- a new object is laid and tracked -/
theorem HOk.laid (x : HOk P w H h) (k : ∀ b u, h.get? b = some u → h'.get? b = some u) (hp : h.objs.size ≤ a) (new : ObjOk P w (upd H a o) h' a o) : HOk P w (upd H a o) h' := fun b u e => by
  have hn := x.fresh hp
  by_cases hb : b = a
  · subst hb; rw [upd_same] at e; cases e; exact new
  · rw [upd_ne hb] at e
    exact (x b u e).stay (fun c v _ q => k c v q) (fun c q => by rw [upd_ne (ne_of_none q hn)]; exact q) fun c xs q => by rw [upd_ne (ne_of_none q hn)]; exact q
end
/-- what may be read as u: it is u, or a known u -/
def Rd (H : Hp) (a : Addr) (u : HO) : Prop := H a = some u ∨ ∃ o, H a = some (.frz o u)
theorem Rd.ok {P : Program} {w : World} {H : Hp} {h : Heap} {a : Addr} {u : HO} (r : Rd H a u) (x : HOk P w H h) : ObjOk P w H h a u := by
  rcases r with r | ⟨o, r⟩
  · exact x a u r
  · obtain ⟨_, q⟩ := x a _ r
    exact q
/-- what may be written -/
def Mut : Option HO → Prop
  | some (.lst _) => True
  | some (.dK _) => True
  | some (.dT _) => True
  | some (.set _ _) => True
  | some (.ins _ _ _) => True
  | some (.ext _) => True
  | _ => False
section
variable {P : Program} {w : World} {H : Hp} {h h' : Heap} {x e : Addr} {o' : HO}
/-- the object at e is changed: x itself, or the dict of the instance x -/
theorem HOk.write (ok : HOk P w H h) (mu : Mut (H x)) (he : e = x ∨ H e = some (.own x)) (k : ∀ b u, b ≠ e → h.get? b = some u → h'.get? b = some u) (heo : ∃ u, h'.get? e = some u)
    (new : ObjOk P w (upd H x o') h' x o') : HOk P w (upd H x o') h' := fun b u q => by
  have nown : ∀ c y, H c = some (.own y) → c ≠ x := fun c y r z => by subst z; rw [r] at mu; exact mu
  have ntup : ∀ c xs, H c = some (.tup xs) → c ≠ x := fun c xs r z => by subst z; rw [r] at mu; exact mu
  by_cases hb : b = x
  · subst hb; rw [upd_same] at q; cases q; exact new
  · rw [upd_ne hb] at q
    by_cases hbe : b = e
    · have q' : H b = some (.own x) := by
        rcases he with z | z
        · exact absurd (hbe.trans z) hb
        · rw [hbe]; exact z
      rw [q] at q'; cases q'
      obtain ⟨v, hv⟩ := heo
      exact ⟨v, by rw [hbe]; exact hv⟩
    · refine (ok b u q).stay (fun c v hc r => k c v ?_ r) (fun c r => by rw [upd_ne (nown c b r)]; exact r) fun c xs r => by rw [upd_ne (ntup c xs r)]; exact r
      rcases hc with rfl | hc
      · exact hbe
      · rintro rfl
        rcases he with z | z
        · exact nown c b hc z
        · rw [hc] at z; cases z; exact hb rfl
end
structure Un (fs ex : List Addr) (H H' : Hp) (h h' : Heap) : Prop where
  keep : ∀ b o, h.get? b = some o → H b = none → b ∉ fs → b ∉ ex → h'.get? b = some o
  slot : ∀ b o, h.get? b = some o → H b = none → b ∈ fs → b ∉ ex → ∃ sl, h'.get? b = some { o with slots := sl }
  free : ∀ b o, h.get? b = some o → H b = none → b ∉ ex → H' b = none
  there : ∀ b o, h.get? b = some o → b ∉ ex → ∃ o', h'.get? b = some o'
  tups : ∀ b xs, H b = some (.tup xs) → H' b = some (.tup xs)
  frzs : ∀ b o u, H b = some (.frz o u) → H' b = some (.frz o u)
  tbls : ∀ b ps, H b = some (.tbl ps) → ∃ more, H' b = some (.tbl (ps ++ more))
section
variable {fs fs' ex ex' : List Addr} {H H1 H2 : Hp} {h h1 h2 h' : Heap} {a x e : Addr} {o : HO}
theorem Un.any (u : Un fs ex H H1 h h1) {b : Addr} {ob : Obj} (q : h.get? b = some ob) (n : H b = none) (hx : b ∉ ex) : ∃ sl, h1.get? b = some { ob with slots := sl } := by
  by_cases hb : b ∈ fs
  · exact u.slot b ob q n hb hx
  · exact ⟨ob.slots, u.keep b ob q n hb hx⟩
theorem Un.kept (k : ∀ b u, h.get? b = some u → h'.get? b = some u) : Un fs ex H H h h' :=
  ⟨fun b ob q _ _ _ => k b ob q, fun b ob q _ _ _ => ⟨ob.slots, k b ob q⟩, fun _ _ _ n _ => n, fun b ob q _ => ⟨ob, k b ob q⟩, fun _ _ q => q, fun _ _ _ q => q, fun _ ps q => ⟨#[], by rw [q]; simp⟩⟩
theorem Un.refl : Un fs ex H H h h := Un.kept fun _ _ q => q
theorem Un.laid (k : ∀ b u, h.get? b = some u → h'.get? b = some u) (hp : h.objs.size ≤ a) (hn : H a = none) : Un fs ex H (upd H a o) h h' where
  keep := fun b u q _ _ _ => k b u q
  slot := fun b u q _ _ _ => ⟨u.slots, k b u q⟩
  free := fun b u q n _ => by rw [upd_ne (Nat.ne_of_lt (Nat.lt_of_lt_of_le (Heap.lt_size q) hp))]; exact n
  there := fun b u q _ => ⟨u, k b u q⟩
  tups := fun b xs q => by rw [upd_ne (ne_of_none q hn)]; exact q
  frzs := fun b u xs q => by rw [upd_ne (ne_of_none q hn)]; exact q
  tbls := fun b ps q => ⟨#[], by rw [upd_ne (ne_of_none q hn), q]; simp⟩
theorem Un.write (mu : Mut (H x)) (he : e = x ∨ H e = some (.own x)) (k : ∀ b u, b ≠ e → h.get? b = some u → h'.get? b = some u) (heo : ∃ u, h'.get? e = some u) : Un fs ex H (upd H x o) h h' := by
  have hx : ∀ b, H b = none → b ≠ x := fun b n z => by subst z; rw [n] at mu; exact mu
  have hb : ∀ b, H b = none → b ≠ e := fun b n z => by
    subst z
    rcases he with r | r
    · exact hx b n r
    · rw [n] at r; cases r
  have hm : ∀ b u, H b = some u → ¬ Mut (some u) → b ≠ x := fun b u q nm z => by subst z; rw [q] at mu; exact nm mu
  refine ⟨fun b u q n _ _ => k b u (hb b n) q, fun b u q n _ _ => ⟨u.slots, k b u (hb b n) q⟩, fun b u q n _ => by rw [upd_ne (hx b n)]; exact n, fun b u q _ => ?_,
    fun b xs q => by rw [upd_ne (hm b _ q fun z => z)]; exact q, fun b u xs q => by rw [upd_ne (hm b _ q fun z => z)]; exact q, fun b ps q => ⟨#[], by rw [upd_ne (hm b _ q fun z => z), q]; simp⟩⟩
  by_cases hbe : b = e
  · subst hbe; exact heo
  · exact ⟨u, k b u hbe q⟩
end
def trk (h : Heap) (H : Hp) : List Addr := (List.range h.objs.size).filter fun a => (H a).isSome
def hidT (h : Heap) (H : Hp) : Heap := PySem.W.hideAll h (trk h H)
theorem hidT_size (h : Heap) (H : Hp) : (hidT h H).objs.size = h.objs.size := PySem.W.hideAll_size _ _
theorem hidT_get {h : Heap} {H : Hp} {b : Addr} {o : Obj} (e : h.get? b = some o) (n : H b = none) : (hidT h H).get? b = some o :=
  PySem.W.hideAll_get _ e fun hm => by
    have q : (H b).isSome = true := (List.mem_filter.mp hm).2
    rw [n] at q; simp at q
theorem of_hidT {h : Heap} {H : Hp} {b : Addr} {o : Obj} (e : (hidT h H).get? b = some o) : h.get? b = some o ∧ H b = none := by
  have e' : h.get? b = some o := PySem.W.of_hideAll (trk h H) e
  refine ⟨e', ?_⟩
  cases q : H b with
  | none => rfl
  | some x =>
    have hm : b ∈ trk h H := List.mem_filter.mpr ⟨List.mem_range.mpr (Heap.lt_size e'), by simp [q]⟩
    have z : (hidT h H).get? b = none := PySem.W.hideAll_none (trk h H) hm
    rw [z] at e; cases e
def allNews (g h : Heap) (L : Addr) : List (Addr × Obj) := (List.range h.objs.size).filterMap fun a => if a = L ∨ (g.get? a).isSome = true then none else (h.get? a).map fun o => (a, o)
def rest (g h : Heap) (L d : Addr) : List (Addr × Obj) := (allNews g h L).filter fun p => decide (p.1 ≠ d)
end L2
namespace L2
open PySem PySem.Spec PyProof.Rows
/-- the module's facts, over the base: the heap at the law's entry without what is tracked there -/
structure Mod (K : PySem.W.Frag) (mg : Str → Option Value) (base : Heap) : Prop where
  kin : K.In base
  glob : base.Ns mainGlobals mg
  blt : ∃ mb, base.Ns builtinsNs mb ∧ ∀ x : Str, x ≠ "__name__" → mb x = bootBuiltins x
  nolimit : base.NoLimit
/-- the context: a def's body (or a comprehension's block) running. base: fixed through the whole law; s₀, H₀: the entry; outer: the frames whose slots others may change (a def's callers); stack: all frames that run;
   ex: iterators that were made ahead of the entry and are walked here (a comprehension's); fn: the names whose cells were made at the entry (a def: all; a comprehension's block: its own); calm: not within an except suite; pn: pins that every state bears; xe: what is wanted of an exception that leaves the code -/
structure Cx where
  prog : Program
  w : World
  K : PySem.W.Frag
  mg : Str → Option Value
  base : Heap
  A : Around
  N : List Str
  s₀ : Shared
  H₀ : Hp
  env : Env
  outer : List Env
  stack : List Env
  ex : List Addr
  fn : Str → Bool
  calm : Bool
  pn : List (Addr × Obj)
  xe : Value → Shared → Prop
/-- the callers' frames -/
def frs (l : List Env) : List Addr := l.filterMap (·.frame)
abbrev Cx.fs (X : Cx) : List Addr := frs X.outer
def Vis (sc : Scope) (x : Str) : Prop := sc.names.lookup x = some .local ∨ sc.names.lookup x = some .cell ∨ sc.names.lookup x = some .free
def Loc (sc : Scope) (x : Str) : Prop := sc.names.lookup x = some .local ∨ sc.names.lookup x = some .cell
def Look (env : Env) (h : Heap) (m : Str → Option Value) (x : Str) (u : Value) : Prop :=
  (env.kindOf x = some .local ∧ m x = some u) ∨ ((env.kindOf x = some .cell ∨ env.kindOf x = some .free) ∧ ∃ c, env.cells.lookup x = some c ∧ h.IsCell c (some u))
structure Cx.Ok (X : Cx) : Prop where
  mod : Mod X.K X.mg X.base
  kind : X.env.scope.kind = .function
  glob : X.env.globals = mainGlobals
  blt : X.env.builtins = builtinsNs
  above : X.s₀.heap.objs.size ≤ X.env.locals
  inj : ∀ x y c, X.env.cells.lookup x = some c → X.env.cells.lookup y = some c → x = y
  has : ∀ x, (X.env.kindOf x = some .cell ∨ X.env.kindOf x = some .free) → ∃ c, X.env.cells.lookup x = some c
  cab : ∀ x c, X.fn x = true → X.env.cells.lookup x = some c → X.s₀.heap.objs.size ≤ c
  hd : X.calm = true → X.A.handled = none
  frames : X.A.frames = some X.stack
  stk : X.stack = X.outer ∨ (X.stack = X.env :: X.outer ∧ X.env.frame = some X.env.locals)
  exf : ∀ b ∈ X.ex, b ≠ X.env.locals ∧ ∀ x c, X.env.cells.lookup x = some c → c ≠ b
  bs : ∀ b o, X.base.get? b = some o → X.s₀.heap.get? b = some o ∧ X.H₀ b = none
  bsz : X.base.objs.size ≤ X.s₀.heap.objs.size
  noex : ∀ b o, X.base.get? b = some o → b ∉ X.ex
  exfs : ∀ b ∈ X.ex, b ∉ X.fs
  funs : X.s₀.heap.FunFrames X.base X.outer
  frf : ∀ b ∈ X.fs, X.H₀ b = none
structure Inv (X : Cx) (pins : List (Addr × Obj)) (σ : List (Option V)) (H : Hp) (s : Shared) : Prop where
  ok : X.Ok
  os : s.os = X.s₀.os
  bare : AllBare s.gens
  base : Un X.fs X.ex X.H₀ H X.s₀.heap s.heap
  loc : ∃ m, s.heap.Ns X.env.locals m ∧ ∀ (i : Nat) (x : Str) (v : V), X.N[i]? = some x → σ[i]? = some (some v) → Vis X.env.scope x → ∃ u, RelV v u ∧ Look X.env s.heap m x u
  cell : ∀ x c, X.env.cells.lookup x = some c → ∃ v, s.heap.IsCell c v
  free : H X.env.locals = none
  freeC : ∀ x c, X.env.cells.lookup x = some c → H c = none
  pin : ∀ p ∈ X.pn ++ pins, s.heap.get? p.1 = some p.2 ∧ H p.1 = none ∧ p.1 ≠ X.env.locals ∧ p.1 ∉ X.fs ∧ ∀ v, p.2.data ≠ .cell v
  hok : HOk X.prog X.w H s.heap
  len : σ.length = X.N.length
section
variable {X : Cx} {pins : List (Addr × Obj)} {σ : List (Option V)} {H H' : Hp} {s : Shared} {h' : Heap}
theorem Cx.Ok.nofr (ok : X.Ok) {b : Addr} {o : Obj} (e : X.base.get? b = some o) : b ∉ X.fs := fun hb => by
  have := (ok.funs.mem hb).1
  rw [e] at this; cases this
theorem Inv.bs (I : Inv X pins σ H s) : ∀ b o, X.base.get? b = some o → s.heap.get? b = some o ∧ H b = none := fun b o e =>
  ⟨I.base.keep b o (I.ok.bs b o e).1 (I.ok.bs b o e).2 (I.ok.nofr e) (I.ok.noex b o e), I.base.free b o (I.ok.bs b o e).1 (I.ok.bs b o e).2 (I.ok.noex b o e)⟩
theorem Inv.bk (I : Inv X pins σ H s) : ∀ b o, X.base.get? b = some o → s.heap.get? b = some o := fun b o e => (I.bs b o e).1
theorem Inv.mod (I : Inv X pins σ H s) : Mod X.K X.mg X.base := I.ok.mod
theorem Inv.kIn (I : Inv X pins σ H s) : X.K.In s.heap := I.ok.mod.kin.keeps I.bk
theorem Inv.lt (I : Inv X pins σ H s) : X.env.locals < s.heap.objs.size := let ⟨_, hn, _⟩ := I.loc; hn.lt
theorem Inv.sz (I : Inv X pins σ H s) : X.s₀.heap.objs.size ≤ s.heap.objs.size := Nat.le_trans I.ok.above (Nat.le_of_lt I.lt)
theorem Inv.nofs (I : Inv X pins σ H s) {a : Addr} (h : s.heap.objs.size ≤ a) : a ∉ X.fs := fun hb => by
  obtain ⟨_, o, ho, _⟩ := I.ok.funs.mem hb
  exact absurd (Nat.lt_of_lt_of_le (Heap.lt_size ho) (Nat.le_trans I.sz h)) (Nat.lt_irrefl _)
theorem Inv.cne (I : Inv X pins σ H s) : ∀ x c, X.env.cells.lookup x = some c → c ≠ X.env.locals := fun x c e z => by
  obtain ⟨v, o, ho, hd⟩ := I.cell x c e
  obtain ⟨m, ⟨o', es, ep, ho', hd', _⟩, _⟩ := I.loc
  rw [z, ho'] at ho; cases ho; rw [hd'] at hd; cases hd
theorem Inv.funs (I : Inv X pins σ H s) : s.heap.FunFrames X.base X.outer := by
  have all : ∀ (l : List Env), (∀ b ∈ frs l, b ∈ X.fs) → X.s₀.heap.FunFrames X.base l → s.heap.FunFrames X.base l := by
    intro l
    induction l with
    | nil => intro _ _; trivial
    | cons env r ih =>
      intro hs hl
      obtain ⟨hk, ⟨L, o, hf, hn, ho, hd⟩, hr⟩ := hl
      have hL : L ∈ X.fs := hs L (by unfold frs; rw [List.filterMap_cons, hf]; exact List.mem_cons_self)
      obtain ⟨sl, e⟩ := I.base.slot L o ho (I.ok.frf L hL) hL fun z => I.ok.exfs L z hL
      exact ⟨hk, ⟨L, _, hf, hn, e, hd⟩, ih (fun b hb => hs b (by unfold frs; rw [List.filterMap_cons, hf]; exact List.mem_cons_of_mem _ hb)) hr⟩
  exact all X.outer (fun _ hb => hb) I.ok.funs
/-- the frames that run, for a call -/
theorem Inv.stack (I : Inv X pins σ H s) : s.heap.FunFrames X.base X.stack := by
  rcases I.ok.stk with e | ⟨e, hf⟩
  · rw [e]; exact I.funs
  · rw [e]
    obtain ⟨m, hn, _⟩ := I.loc
    refine .cons (by rw [I.ok.kind]; decide) hf hn ?_ I.funs
    exact Heap.get?_none_of_le (Nat.le_trans I.ok.bsz I.ok.above)
theorem Inv.stkSub (I : Inv X pins σ H s) : ∀ b ∈ frs X.stack, b ∈ X.env.locals :: X.fs := fun b hb => by
  rcases I.ok.stk with e | ⟨e, hf⟩
  · rw [e] at hb; exact List.mem_cons_of_mem _ hb
  · rw [e] at hb
    unfold frs at hb
    rw [List.filterMap_cons, hf] at hb
    exact hb
theorem Inv.stkFree (I : Inv X pins σ H s) : ∀ b ∈ frs X.stack, H b = none := fun b hb => by
  rcases List.mem_cons.mp (I.stkSub b hb) with e | hb
  · rw [e]; exact I.free
  · obtain ⟨_, o, ho, _⟩ := I.ok.funs.mem hb
    exact I.base.free b o ho (I.ok.frf b hb) fun z => I.ok.exfs b z hb
/-- THE STEP: the untracked objects but the frame and the records at ch are kept (the callers' frames up to slots), the frame's map is kept, the new abstract heap is held -/
theorem Inv.step {g' : Array GenState} {t' : Nat} {d' : Drawn} {ch : List Addr} (I : Inv X pins σ H s)
    (hch : ∀ b ∈ ch, (b ∈ X.ex ∨ X.s₀.heap.objs.size ≤ b) ∧ b ≠ X.env.locals ∧ (∀ x c, X.env.cells.lookup x = some c → c ≠ b) ∧ ∀ p ∈ X.pn ++ pins, p.1 ≠ b)
    (keep : ∀ b o, b ≠ X.env.locals → b ∉ X.fs → b ∉ ch → s.heap.get? b = some o → H b = none → h'.get? b = some o)
    (slot : ∀ b o, b ≠ X.env.locals → b ∈ X.fs → b ∉ ch → s.heap.get? b = some o → H b = none → ∃ sl, h'.get? b = some { o with slots := sl }) (free : ∀ b o, b ∉ ch → s.heap.get? b = some o → H b = none → H' b = none)
    (there : ∀ b o, b ∉ ch → s.heap.get? b = some o → ∃ o', h'.get? b = some o')
    (tups : ∀ b xs, H b = some (.tup xs) → H' b = some (.tup xs)) (frzs : ∀ b o u, H b = some (.frz o u) → H' b = some (.frz o u)) (tbls : ∀ b ps, H b = some (.tbl ps) → ∃ more, H' b = some (.tbl (ps ++ more)))
    (ns : ∀ m, s.heap.Ns X.env.locals m → h'.Ns X.env.locals m) (hok : HOk X.prog X.w H' h') (hg : AllBare g') :
    Inv X pins σ H' { s with heap := h', gens := g', drawn := d', toks := t' } := by
  have neL : ∀ b o, X.s₀.heap.get? b = some o → b ≠ X.env.locals := fun b o e => Nat.ne_of_lt (Nat.lt_of_lt_of_le (Heap.lt_size e) I.ok.above)
  have neC : ∀ b o, X.s₀.heap.get? b = some o → b ∉ X.ex → b ∉ ch := fun b o e hx hb => by
    rcases (hch b hb).1 with z | z
    · exact hx z
    · exact absurd (Nat.lt_of_lt_of_le (Heap.lt_size e) z) (Nat.lt_irrefl _)
  have cellK : ∀ x c, X.env.cells.lookup x = some c → ∀ v, s.heap.IsCell c v → h'.IsCell c v := fun x c e v ⟨o, ho, hd⟩ => by
    have nch : c ∉ ch := fun z => (hch c z).2.2.1 x c e rfl
    by_cases hc : c ∈ X.fs
    · obtain ⟨sl, q⟩ := slot c o (I.cne x c e) hc nch ho (I.freeC x c e)
      exact ⟨_, q, hd⟩
    · exact ⟨o, keep c o (I.cne x c e) hc nch ho (I.freeC x c e), hd⟩
  refine ⟨I.ok, I.os, hg, ⟨fun b o e n hb hx => ?_, fun b o e n hb hx => ?_, fun b o e n hx => ?_, fun b o e hx => ?_, fun b xs e => tups b xs (I.base.tups b xs e), fun b o xs e => frzs b o xs (I.base.frzs b o xs e), fun b ps e => ?_⟩, ?_, fun x c e => ?_, ?_, fun x c e => ?_, fun p hp => ?_, hok, I.len⟩
  · exact keep b o (neL b o e) hb (neC b o e hx) (I.base.keep b o e n hb hx) (I.base.free b o e n hx)
  · obtain ⟨sl, e1⟩ := I.base.slot b o e n hb hx
    obtain ⟨sl', e2⟩ := slot b _ (neL b o e) hb (neC b o e hx) e1 (I.base.free b o e n hx)
    exact ⟨sl', e2⟩
  · obtain ⟨o', e1⟩ := I.base.there b o e hx
    exact free b o' (neC b o e hx) e1 (I.base.free b o e n hx)
  · obtain ⟨o', e1⟩ := I.base.there b o e hx
    exact there b o' (neC b o e hx) e1
  · obtain ⟨m1, e1⟩ := I.base.tbls b ps e
    obtain ⟨m2, e2⟩ := tbls b _ e1
    exact ⟨m1 ++ m2, by rw [e2, Array.append_assoc]⟩
  · obtain ⟨m, hn, hl⟩ := I.loc
    refine ⟨m, ns m hn, fun i x v e1 e2 e3 => ?_⟩
    obtain ⟨u, r, l⟩ := hl i x v e1 e2 e3
    refine ⟨u, r, ?_⟩
    rcases l with l | ⟨k, c, e, z⟩
    · exact .inl l
    · exact .inr ⟨k, c, e, cellK x c e _ z⟩
  · obtain ⟨v, z⟩ := I.cell x c e
    exact ⟨v, cellK x c e v z⟩
  · obtain ⟨m, ⟨o, _, _, ho, _⟩, _⟩ := I.loc
    exact free _ o (fun z => (hch _ z).2.1 rfl) ho I.free
  · obtain ⟨v, o, ho, hd⟩ := I.cell x c e
    exact free c o (fun z => (hch c z).2.2.1 x c e rfl) ho (I.freeC x c e)
  · obtain ⟨e, n, ne, nf, d⟩ := I.pin p hp
    have nch : p.1 ∉ ch := fun z => (hch p.1 z).2.2.2 p hp rfl
    exact ⟨keep p.1 p.2 ne nf nch e n, free p.1 p.2 nch e n, ne, nf, d⟩
/-- .. where the frame's own object is kept too -/
theorem Inv.un {t' : Nat} (I : Inv X pins σ H s) (u : Un X.fs [] H H' s.heap h') (hok : HOk X.prog X.w H' h') : Inv X pins σ H' { s with heap := h', toks := t' } := by
  obtain ⟨m, ⟨o, es, ep, ho, r⟩, _⟩ := id I.loc
  obtain ⟨sl, hL⟩ := u.any ho I.free (by simp)
  exact I.step (g' := s.gens) (d' := s.drawn) (ch := []) (fun _ z => nomatch z) (fun b o _ hb _ e n => u.keep b o e n hb (by simp)) (fun b o _ hb _ e n => u.slot b o e n hb (by simp)) (fun b o _ e n => u.free b o e n (by simp)) (fun b o _ e => u.there b o e (by simp)) u.tups u.frzs u.tbls (fun m' hm => by
    obtain ⟨o', es', ep', ho', r'⟩ := hm
    rw [ho] at ho'; cases ho'
    exact ⟨_, es', ep', hL, r'⟩) hok I.bare
/-- behind a call (or a comprehension's block): the slots of this frame may have changed too, the records at ch may have turned -/
theorem Inv.call {g' : Array GenState} {t' : Nat} {d' : Drawn} {ch : List Addr} (I : Inv X pins σ H s) (u : Un (frs X.stack) ch H H' s.heap h') (hok : HOk X.prog X.w H' h') (hg : AllBare g')
    (hch : ∀ b ∈ ch, (b ∈ X.ex ∨ X.s₀.heap.objs.size ≤ b) ∧ b ≠ X.env.locals ∧ (∀ x c, X.env.cells.lookup x = some c → c ≠ b) ∧ ∀ p ∈ X.pn ++ pins, p.1 ≠ b) :
    Inv X pins σ H' { s with heap := h', gens := g', drawn := d', toks := t' } := by
  obtain ⟨m, ⟨o, es, ep, ho, r⟩, _⟩ := id I.loc
  obtain ⟨sl, hL⟩ := u.any ho I.free fun z => (hch _ z).2.1 rfl
  exact I.step (ch := ch) hch (fun b o hL hb hc e n => u.keep b o e n (fun z => (List.mem_cons.mp (I.stkSub b z)).elim hL hb) hc) (fun b o _ _ hc e n => u.any e n hc) (fun b o hc e n => u.free b o e n hc) (fun b o hc e => u.there b o e hc) u.tups u.frzs u.tbls (fun m' hm => by
    obtain ⟨o', es', ep', ho', r'⟩ := hm
    rw [ho] at ho'; cases ho'
    exact ⟨_, es', ep', hL, r'⟩) hok hg
/-- an untracked record of ours (an iterator) has turned -/
theorem Inv.turned {t' : Nat} {it : Addr} (I : Inv X pins σ H s) (k : ∀ b o, b ≠ it → s.heap.get? b = some o → h'.get? b = some o) (hn : H it = none) (hL : it ≠ X.env.locals)
    (h1 : it ∈ X.ex ∨ X.s₀.heap.objs.size ≤ it) (h2 : ∀ x c, X.env.cells.lookup x = some c → c ≠ it) (h3 : ∀ p ∈ X.pn ++ pins, p.1 ≠ it) : Inv X pins σ H { s with heap := h', toks := t' } := by
  have nit : ∀ b u, H b = some u → b ≠ it := fun b u e z => by rw [z, hn] at e; cases e
  refine I.step (g' := s.gens) (d' := s.drawn) (ch := [it]) (fun b hb => ?_) (fun b o _ _ hc e _ => k b o (fun z => hc (by simp [z])) e) (fun b o _ _ hc e _ => ⟨o.slots, k b o (fun z => hc (by simp [z])) e⟩) (fun _ _ _ _ n => n)
    (fun b o hc e => ⟨o, k b o (fun z => hc (by simp [z])) e⟩) (fun _ _ e => e) (fun _ _ _ e => e) (fun b ps e => ⟨#[], by rw [e]; simp⟩) (fun m hm => ?_) (fun b u e => ?_) I.bare
  · have e : b = it := by simpa using hb
    subst e
    exact ⟨h1, hL, h2, h3⟩
  · obtain ⟨o, es, ep, ho, r⟩ := hm
    exact ⟨o, es, ep, k _ o (Ne.symm hL) ho, r⟩
  · refine (I.hok b u e).stay (fun c v hc q => k c v ?_ q) (fun _ q => q) fun _ _ q => q
    rcases hc with z | z
    · rw [z]; exact nit b u e
    · exact nit c _ z
theorem Inv.tok (I : Inv X pins σ H s) (t : Nat) : Inv X pins σ H { s with toks := t } := I.un (h' := s.heap) (t' := t) Un.refl I.hok
/-- all objects kept -/
theorem Inv.kept {t' : Nat} (I : Inv X pins σ H s) (k : ∀ b u, s.heap.get? b = some u → h'.get? b = some u) : Inv X pins σ H { s with heap := h', toks := t' } := I.un (Un.kept k) (I.hok.kept k)
/-- a new object laid and tracked -/
theorem Inv.laid {a : Addr} {o : HO} {t' : Nat} (I : Inv X pins σ H s) (k : ∀ b u, s.heap.get? b = some u → h'.get? b = some u) (hp : s.heap.objs.size ≤ a) (new : ObjOk X.prog X.w (upd H a o) h' a o) :
    Inv X pins σ (upd H a o) { s with heap := h', toks := t' } := I.un (Un.laid k hp (I.hok.fresh hp)) (I.hok.laid k hp new)
/-- an object written -/
theorem Inv.write {x e : Addr} {o : HO} {t' : Nat} (I : Inv X pins σ H s) (mu : Mut (H x)) (he : e = x ∨ H e = some (.own x)) (k : ∀ b u, b ≠ e → s.heap.get? b = some u → h'.get? b = some u) (heo : ∃ u, h'.get? e = some u)
    (new : ObjOk X.prog X.w (upd H x o) h' x o) : Inv X pins σ (upd H x o) { s with heap := h', toks := t' } := I.un (Un.write mu he k heo) (I.hok.write mu he k heo new)
theorem Inv.pins_of {pins' : List (Addr × Obj)} (I : Inv X pins σ H s) (h : ∀ p ∈ pins', s.heap.get? p.1 = some p.2 ∧ H p.1 = none ∧ p.1 ≠ X.env.locals ∧ p.1 ∉ X.fs ∧ ∀ v, p.2.data ≠ .cell v) : Inv X pins' σ H s :=
  ⟨I.ok, I.os, I.bare, I.base, I.loc, I.cell, I.free, I.freeC, fun p hp => (List.mem_append.mp hp).elim (fun z => I.pin p (List.mem_append_left _ z)) (h p), I.hok, I.len⟩
theorem nodup_ix {N : List Str} (hN : N.Nodup) {i j : Nat} {x : Str} (a : N[i]? = some x) (b : N[j]? = some x) : i = j := by
  obtain ⟨h1, e1⟩ := List.getElem?_eq_some_iff.mp a
  obtain ⟨h2, e2⟩ := List.getElem?_eq_some_iff.mp b
  exact (List.getElem_inj hN).mp (e1.trans e2.symm)
/-- a name is stored; what changed -/
theorem store_ok2 {M : Model} {A : Around} {E : Value → Shared → Prop} {i : Nat} {x : Str} {v : V} {u : Value} {Q : Unit → Shared → Prop} (I : Inv X pins σ H s) (hN : X.N.Nodup) (hi : X.N[i]? = some x) (hx : Loc X.env.scope x) (r : RelV v u)
    (h : ∀ s', Inv X pins (σ.set i (some v)) H s' → (∃ a, Heap.SameBut a s.heap s'.heap ∧ (a = X.env.locals ∨ X.env.cells.lookup x = some a)) → Q () s') (hf : X.fn x = true ∨ X.env.scope.names.lookup x = some .local := by first | exact .inl rfl | exact .inr rfl | assumption) : wpAny M A (storeName X.env x u) Q E s := by
  obtain ⟨m, hn, hl⟩ := id I.loc
  have hcls : (X.env.scope.kind == .class || (X.env.scope.kind == .module && X.env.locals != X.env.globals)) = false := by rw [I.ok.kind]; rfl
  have hiσ : i < σ.length := by rw [I.len]; exact (List.getElem?_eq_some_iff.mp hi).1
  have cne := I.cne
  have tracked : ∀ {a : Addr} {h' : Heap}, (∃ o, s.heap.get? a = some o ∧ H a = none) → Heap.SameBut a s.heap h' → HOk X.prog X.w H h' := fun {a h'} ha hs b ob e => by
    obtain ⟨_, _, hfree⟩ := ha
    refine (I.hok b ob e).stay (fun c w' hc q => (hs.2 c ?_).trans q) (fun _ q => q) fun _ _ q => q
    rintro rfl
    rcases hc with rfl | hc
    · rw [hfree] at e; cases e
    · rw [hfree] at hc; cases hc
  rcases hx with hk | hk
  · refine wpAny_storeName_local hk hn (fun h' hn' hs => ?_) hcls
    obtain ⟨oL, _, _, hoL, _⟩ := id hn
    refine h _ ⟨I.ok, I.os, I.bare, ⟨fun b o e n hb hx => ?_, fun b o e n hb hx => ?_, I.base.free, fun b o e hx => ?_, I.base.tups, I.base.frzs, I.base.tbls⟩, ⟨_, hn', fun j y v' e1 e2 e3 => ?_⟩, fun y c e => ?_, I.free, I.freeC, fun p hp => ?_, tracked ⟨oL, hoL, I.free⟩ hs, by simpa using I.len⟩ ⟨_, hs, .inl rfl⟩
    · exact (hs.2 b (Nat.ne_of_lt (Nat.lt_of_lt_of_le (Heap.lt_size e) I.ok.above))).trans (I.base.keep b o e n hb hx)
    · obtain ⟨sl, e1⟩ := I.base.slot b o e n hb hx
      exact ⟨sl, (hs.2 b (Nat.ne_of_lt (Nat.lt_of_lt_of_le (Heap.lt_size e) I.ok.above))).trans e1⟩
    · obtain ⟨o', e1⟩ := I.base.there b o e hx
      exact ⟨o', (hs.2 b (Nat.ne_of_lt (Nat.lt_of_lt_of_le (Heap.lt_size e) I.ok.above))).trans e1⟩
    · by_cases hj : j = i
      · subst hj
        rw [hi] at e1; cases e1
        rw [List.getElem?_set_self hiσ] at e2
        cases e2
        exact ⟨u, r, .inl ⟨hk, by simp⟩⟩
      · rw [List.getElem?_set_ne (Ne.symm hj)] at e2
        obtain ⟨u', r', q⟩ := hl j y v' e1 e2 e3
        refine ⟨u', r', ?_⟩
        rcases q with ⟨k, e⟩ | ⟨k, c, e, z⟩
        · refine .inl ⟨k, ?_⟩
          have : y ≠ x := fun e => hj (nodup_ix hN e1 (e ▸ hi))
          simp [this, e]
        · exact .inr ⟨k, c, e, z.sameBut hs (cne y c e)⟩
    · obtain ⟨w', z⟩ := I.cell y c e
      exact ⟨w', z.sameBut hs (cne y c e)⟩
    · obtain ⟨e, n, ne, nf, d⟩ := I.pin p hp
      exact ⟨(hs.2 p.1 ne).trans e, n, ne, nf, d⟩
  · have hfn : X.fn x = true := by
      rcases hf with z | z
      · exact z
      · rw [z] at hk; cases hk
    obtain ⟨c, hc⟩ := I.ok.has x (.inl hk)
    obtain ⟨w', z⟩ := I.cell x c hc
    refine wpAny_storeName_cell I.ok.kind hk hc z (fun h' hc' hs => ?_)
    obtain ⟨oc, hoc, hocd⟩ := id z
    refine h { s with heap := h' } ⟨I.ok, I.os, I.bare, ⟨fun b o e n hb hx => ?_, fun b o e n hb hx => ?_, I.base.free, fun b o e hx => ?_, I.base.tups, I.base.frzs, I.base.tbls⟩, ⟨m, hn.sameBut hs (Ne.symm (cne x c hc)), fun j y v' e1 e2 e3 => ?_⟩, fun y c' e => ?_, I.free, I.freeC, fun p hp => ?_, tracked ⟨oc, hoc, I.freeC x c hc⟩ hs, by simpa using I.len⟩ ⟨c, hs, .inr hc⟩
    · exact (hs.2 b (Nat.ne_of_lt (Nat.lt_of_lt_of_le (Heap.lt_size e) (I.ok.cab x c hfn hc)))).trans (I.base.keep b o e n hb hx)
    · obtain ⟨sl, e1⟩ := I.base.slot b o e n hb hx
      exact ⟨sl, (hs.2 b (Nat.ne_of_lt (Nat.lt_of_lt_of_le (Heap.lt_size e) (I.ok.cab x c hfn hc)))).trans e1⟩
    · obtain ⟨o', e1⟩ := I.base.there b o e hx
      exact ⟨o', (hs.2 b (Nat.ne_of_lt (Nat.lt_of_lt_of_le (Heap.lt_size e) (I.ok.cab x c hfn hc)))).trans e1⟩
    · by_cases hj : j = i
      · subst hj
        rw [hi] at e1; cases e1
        rw [List.getElem?_set_self hiσ] at e2
        cases e2
        exact ⟨u, r, .inr ⟨.inl hk, c, hc, hc'⟩⟩
      · rw [List.getElem?_set_ne (Ne.symm hj)] at e2
        obtain ⟨u', r', q⟩ := hl j y v' e1 e2 e3
        refine ⟨u', r', ?_⟩
        rcases q with q | ⟨k, c', e, z'⟩
        · exact .inl q
        · refine .inr ⟨k, c', e, z'.sameBut hs ?_⟩
          rintro rfl
          exact hj (nodup_ix hN e1 (I.ok.inj _ _ _ e hc ▸ hi))
    · by_cases hcc : c' = c
      · subst hcc; exact ⟨_, hc'⟩
      · obtain ⟨w2, z2⟩ := I.cell y c' e
        exact ⟨w2, z2.sameBut hs hcc⟩
    · obtain ⟨e, n, ne, nf, d⟩ := I.pin p hp
      refine ⟨(hs.2 p.1 ?_).trans e, n, ne, nf, d⟩
      intro q
      rw [q, hoc] at e
      have q' : oc = p.2 := Option.some.inj e
      exact d w' (by rw [← q']; exact hocd)
theorem store_ok {M : Model} {A : Around} {E : Value → Shared → Prop} {i : Nat} {x : Str} {v : V} {u : Value} {Q : Unit → Shared → Prop} (I : Inv X pins σ H s) (hN : X.N.Nodup) (hi : X.N[i]? = some x) (hx : Loc X.env.scope x) (r : RelV v u)
    (h : ∀ s', Inv X pins (σ.set i (some v)) H s' → Q () s') (hf : X.fn x = true ∨ X.env.scope.names.lookup x = some .local := by first | exact .inl rfl | exact .inr rfl | assumption) : wpAny M A (storeName X.env x u) Q E s :=
  store_ok2 I hN hi hx r (fun s' I' _ => h s' I') hf
/-- behind a call or a block, the state as it is -/
theorem Inv.call' {s' : Shared} {ch : List Addr} (I : Inv X pins σ H s) (ho : s'.os = s.os) (u : Un (frs X.stack) ch H H' s.heap s'.heap) (hok : HOk X.prog X.w H' s'.heap) (hg : AllBare s'.gens)
    (hch : ∀ b ∈ ch, (b ∈ X.ex ∨ X.s₀.heap.objs.size ≤ b) ∧ b ≠ X.env.locals ∧ (∀ x c, X.env.cells.lookup x = some c → c ≠ b) ∧ ∀ p ∈ X.pn ++ pins, p.1 ≠ b) : Inv X pins σ H' s' := by
  obtain ⟨h', g', d', t', o'⟩ := s'
  have e : o' = s.os := ho
  subst e
  exact I.call (g' := g') (t' := t') (d' := d') u hok hg hch
end
/-- an exception: its class, its own dict's address (where it has one), the abstract heap behind it -/
abbrev XK := Value → Option Addr → Hp → Prop
abbrev St := List (Option V)
abbrev VK := V → Hp → Prop
/-- an expression's reading; a test's; an argument list's -/
abbrev TE := St → Hp → VK → Prop
abbrev TT := St → Hp → (Bool → Hp → Prop) → Prop
abbrev TA := St → Hp → (List V → Hp → Prop) → Prop
/-- what is wanted behind a statement -/
structure Ends where
  nx : St → Hp → Prop
  rt : VK
  bk : St → Hp → Prop := fun _ _ => False
  ct : St → Hp → Prop := fun _ _ => False
abbrev TS := Ends → St → Hp → Prop
def EP (X : Cx) (pins : List (Addr × Obj)) (σ : St) (Q : VK) (u : Value) (s' : Shared) : Prop := ∃ v H', Inv X pins σ H' s' ∧ RelV v u ∧ Q v H'
def TP (X : Cx) (pins : List (Addr × Obj)) (σ : St) (Q : Bool → Hp → Prop) (b : Bool) (s' : Shared) : Prop := ∃ H', Inv X pins σ H' s' ∧ Q b H'
def AP (X : Cx) (pins : List (Addr × Obj)) (σ : St) (Q : List V → Hp → Prop) (us : List Value) (s' : Shared) : Prop := ∃ vs H', Inv X pins σ H' s' ∧ Vals vs us ∧ Q vs H'
def SP (X : Cx) (pins : List (Addr × Obj)) (D : Ends) (f : Flow) (s' : Shared) : Prop :=
  match f with
  | .next => ∃ σ' H', Inv X pins σ' H' s' ∧ D.nx σ' H'
  | .brk => ∃ σ' H', Inv X pins σ' H' s' ∧ D.bk σ' H'
  | .cont => ∃ σ' H', Inv X pins σ' H' s' ∧ D.ct σ' H'
  | .ret u => ∃ v σ' H', Inv X pins σ' H' s' ∧ RelV v u ∧ D.rt v H'
def PE (X : Cx) (e : Expr) (t : TE) : Prop :=
  ∀ (pins : List (Addr × Obj)) (s : Shared) (σ : St) (H : Hp) (Q : VK), Inv X pins σ H s → t σ H Q → wpAny (model X.prog X.w) X.A (eval e X.env) (EP X pins σ Q) X.xe s
def PT (X : Cx) (e : Expr) (t : TT) : Prop :=
  ∀ (pins : List (Addr × Obj)) (s : Shared) (σ : St) (H : Hp) (Q : Bool → Hp → Prop), Inv X pins σ H s → t σ H Q → wpAny (model X.prog X.w) X.A (isTrue e X.env (eval e X.env)) (TP X pins σ Q) X.xe s
/-- a test whatever its 'whole' is (and, or) -/
def PW (X : Cx) (e : Expr) (t : TT) : Prop :=
  ∀ (whole : Sem Value) (pins : List (Addr × Obj)) (s : Shared) (σ : St) (H : Hp) (Q : Bool → Hp → Prop), Inv X pins σ H s → t σ H Q → wpAny (model X.prog X.w) X.A (isTrue e X.env whole) (TP X pins σ Q) X.xe s
theorem PW.pt {X : Cx} {e : Expr} {t : TT} (h : PW X e t) : PT X e t := h _
/-- an argument list (no star), from the left -/
def PA (X : Cx) (es : List Expr) (t : TA) : Prop :=
  ∀ (pos : Pos) (pins : List (Addr × Obj)) (s : Shared) (σ : St) (H : Hp) (Q : List V → Hp → Prop), Inv X pins σ H s → t σ H Q → wpAny (model X.prog X.w) X.A (spliced (backTo pos (starEach es X.env))) (AP X pins σ Q) X.xe s
def PS (X : Cx) (st : Stmt) (t : TS) : Prop :=
  ∀ (pins : List (Addr × Obj)) (s : Shared) (σ : St) (H : Hp) (D : Ends), Inv X pins σ H s → t D σ H → wpAny (model X.prog X.w) X.A (exec st X.env) (SP X pins D) X.xe s
def PSs (X : Cx) (st : List Stmt) (t : TS) : Prop :=
  ∀ (pins : List (Addr × Obj)) (s : Shared) (σ : St) (H : Hp) (D : Ends), Inv X pins σ H s → t D σ H → wpAny (model X.prog X.w) X.A (execs st X.env) (SP X pins D) X.xe s
/-- weaken the end -/
theorem thn {α : Type} {t : Sem α} {Q Q' : α → Shared → Prop} {M : Model} {A : Around} {E : Value → Shared → Prop} {s : Shared} (h : wpAny M A t Q E s) (hQ : ∀ a s, Q a s → Q' a s) : wpAny M A t Q' E s := wpAny_mono h hQ fun _ _ x => x
end L2
namespace L2
open PySem PySem.Spec PyProof.Rows
section
variable {X : Cx}
def tVar (i : Nat) : TE := fun σ H Q => ∃ v, σ[i]? = some (some v) ∧ Q v H
def tC (v : V) : TE := fun _ H Q => Q v H
theorem pe_var {i : Nat} {x : Str} {pos : Pos} (hN : X.N[i]? = some x) (hv : Vis X.env.scope x) (hd : (x == ("__debug__" : Str)) = false := by decide) (hcd : (x == ("__classdict__" : Str)) = false := by decide) : PE X (.Name x pos) (tVar i) := by
  intro pins s σ H Q I h
  obtain ⟨v, e, h⟩ := h
  obtain ⟨m, hn, hl⟩ := I.loc
  obtain ⟨u, r, l⟩ := hl i x v hN e hv
  have fin : EP X pins σ Q u s := ⟨v, H, I, r, h⟩
  rcases l with ⟨hk, hm⟩ | ⟨hk, c, hc, hcell⟩
  · exact wpAny_Name (wpAny_loadName_local I.ok.kind hk hn hm fin) hd
  · rcases hk with hk | hk
    · exact wpAny_Name (wpAny_loadName_cell I.ok.kind hk hc hcell fin) hd
    · exact wpAny_Name (wpAny_loadName_free I.ok.kind hk hc hcell fin hcd) hd
theorem pe_int {i j pos} : PE X (.Constant (.int i) j pos) (tC (.int i)) := fun _ _ _ H _ I h => wpAny_Constant_int ⟨.int i, H, I.tok _, ⟨_, rfl⟩, h⟩
theorem pe_bl {b j pos} : PE X (.Constant (.bool b) j pos) (tC (.bl b)) := fun _ _ _ H _ I h => Constant_bool ⟨.bl b, H, I, rfl, h⟩
theorem pe_str {x j pos} : PE X (.Constant (.str x) j pos) (tC (.str x)) := fun _ _ _ H _ I h => Calls.Constant_str ⟨.str x, H, I.tok _, ⟨_, rfl⟩, h⟩
/-- a global name of the def -/
def Gl (X : Cx) (x : Str) : Prop := X.env.kindOf x = some .globalImplicit
theorem ld_glob {E : Value → Shared → Prop} {pins : List (Addr × Obj)} {s : Shared} {σ : St} {H : Hp} {x : Str} {u : Value} {pos : Pos} {Q : Value → Shared → Prop} (I : Inv X pins σ H s) (hg : Gl X x) (hm : X.mg x = some u) (h : Q u s)
    (hd : (x == ("__debug__" : Str)) = false := by decide) : wpAny (model X.prog X.w) X.A (eval (.Name x pos) X.env) Q E s :=
  Calls.Name_function_global I.ok.kind hg (Calls.loadGlobal_global (by rw [I.ok.glob]; exact I.mod.glob.keeps I.bk) hm h) hd
theorem ld_blt {E : Value → Shared → Prop} {pins : List (Addr × Obj)} {s : Shared} {σ : St} {H : Hp} {x : Str} {u : Value} {pos : Pos} {Q : Value → Shared → Prop} (I : Inv X pins σ H s) (hg : Gl X x) (hm : X.mg x = none) (hv : bootBuiltins x = some u) (h : Q u s)
    (hn : x ≠ "__name__" := by decide) (hd : (x == ("__debug__" : Str)) = false := by decide) : wpAny (model X.prog X.w) X.A (eval (.Name x pos) X.env) Q E s := by
  obtain ⟨mb, h1, h2⟩ := I.mod.blt
  exact Calls.Name_function_global I.ok.kind hg (Calls.loadGlobal_builtin (by rw [I.ok.glob]; exact I.mod.glob.keeps I.bk) hm (by rw [I.ok.blt]; exact h1.keeps I.bk) ((h2 x hn).trans hv) h) hd
/-- a module's constant, a class, a function, as a value -/
theorem pe_glob {x : Str} {v : V} {u : Value} {pos : Pos} (hg : Gl X x) (hm : X.mg x = some u) (r : RelV v u) (hd : (x == ("__debug__" : Str)) = false := by decide) : PE X (.Name x pos) (tC v) :=
  fun _ _ _ H _ I h => ld_glob I hg hm ⟨v, H, I, r, h⟩ hd
theorem pe_bltn {x : Str} {v : V} {u : Value} {pos : Pos} (hg : Gl X x) (hm : X.mg x = none) (hv : bootBuiltins x = some u) (r : RelV v u) (hn : x ≠ "__name__" := by decide) (hd : (x == ("__debug__" : Str)) = false := by decide) : PE X (.Name x pos) (tC v) :=
  fun _ _ _ H _ I h => ld_blt I hg hm hv ⟨v, H, I, r, h⟩ hn hd
/-- two ints -/
def t2I (ta tb : TE) (k : Int → Int → Hp → Prop) : St → Hp → Prop := fun σ H => ta σ H fun x H1 => tb σ H1 fun y H2 => ∃ i j, x = .int i ∧ y = .int j ∧ k i j H2
def tAdd (ta tb : TE) : TE := fun σ H Q => t2I ta tb (fun i j H2 => Q (.int (i + j)) H2) σ H
def tSub (ta tb : TE) : TE := fun σ H Q => t2I ta tb (fun i j H2 => Q (.int (i - j)) H2) σ H
/-- the left factor below 2^64 -/
def tMul (ta tb : TE) : TE := fun σ H Q => t2I ta tb (fun i j H2 => (-(2 ^ 64) < i ∧ i < 2 ^ 64) ∧ Q (.int (i * j)) H2) σ H
variable {a b : Expr} {ta tb : TE} {pos : Pos}
def PC (X : Cx) (op : CmpOp) (a b : Expr) (t : TE) : Prop :=
  ∀ (pins : List (Addr × Obj)) (s : Shared) (σ : St) (H : Hp) (Q : VK), Inv X pins σ H s → t σ H Q →
    wpAny (model X.prog X.w) X.A (eval a X.env) (fun v s₁ => wpAny (model X.prog X.w) X.A (eval b X.env) (fun u s₂ => wpAny (model X.prog X.w) X.A (compareOp op v u) (EP X pins σ Q) X.xe s₂) X.xe s₁) X.xe s
def tCmp (p : Int → Int → Bool) (ta tb : TE) : TE := fun σ H Q => t2I ta tb (fun i j H2 => Q (.bl (p i j)) H2) σ H
abbrev tLt : TE → TE → TE := tCmp fun i j => decide (i < j)
abbrev tLe : TE → TE → TE := tCmp fun i j => decide (i ≤ j)
abbrev tGt : TE → TE → TE := tCmp fun i j => decide (j < i)
abbrev tGe : TE → TE → TE := tCmp fun i j => decide (j ≤ i)
abbrev tEqI : TE → TE → TE := tCmp fun i j => decide (i = j)
abbrev tNeI : TE → TE → TE := tCmp fun i j => !decide (i = j)
/-- is None -/
def tIsN (ta : TE) : TE := fun σ H Q => ta σ H fun x H1 => Q (.bl (decide (x = .non))) H1
def tNotN (ta : TE) : TE := fun σ H Q => ta σ H fun x H1 => Q (.bl (!decide (x = .non))) H1
/-- a comparison as a value, as a test -/
def tB (t : TE) : TT := fun σ H Q => t σ H fun x H1 => ∃ c, x = .bl c ∧ Q c H1
/-- an expression whose value is a bool, as a test -/
theorem pt_val {e : Expr} {t : TE} (h : PE X e t) (he : ∀ whole, isTrue e X.env whole = (do let v ← whole; standAt e.pos; holding [v] (truthy v)) := by intro _; rfl) : PT X e (tB t) := by
  intro pins s σ H Q I hw
  refine isTrue_plain (thn (h pins s σ H _ I hw) fun v s1 ⟨x, H1, I1, r1, q1⟩ => ?_) (he _)
  obtain ⟨d, rfl, q⟩ := q1
  cases r1
  exact wpAny_truthy_bool ⟨H1, I1, q⟩
variable {tA tB' : TT} {rest : List Expr}
def tAnd (t u : TT) : TT := fun σ H Q => t σ H fun c H1 => if c = true then u σ H1 Q else Q false H1
def tOr (t u : TT) : TT := fun σ H Q => t σ H fun c H1 => if c = true then Q true H1 else u σ H1 Q
def tNot (t : TT) : TT := fun σ H Q => t σ H fun c H1 => Q (!c) H1
theorem pw_and1 (ha : PT X a tA) : PW X (.BoolOp .And [a] pos) tA := by
  intro wh pins s σ H Q I h
  refine isTrue_and (thn (ha pins s σ H Q I h) fun c s1 e => ?_)
  cases c with
  | true => exact isTrue_and_nil e
  | false => exact e
theorem pw_or1 (ha : PT X a tA) : PW X (.BoolOp .Or [a] pos) tA := by
  intro wh pins s σ H Q I h
  refine isTrue_or (thn (ha pins s σ H Q I h) fun c s1 e => ?_)
  cases c with
  | false => exact isTrue_or_nil e
  | true => exact e
theorem pw_and (ha : PT X a tA) (hb : PW X (.BoolOp .And (b :: rest) pos) tB') : PW X (.BoolOp .And (a :: b :: rest) pos) (tAnd tA tB') := by
  intro wh pins s σ H Q I h
  refine isTrue_and (thn (ha pins s σ H _ I h) fun c s1 ⟨H1, I1, q1⟩ => ?_)
  cases c with
  | true => exact hb wh pins s1 σ H1 Q I1 q1
  | false => exact ⟨H1, I1, q1⟩
theorem pw_or (ha : PT X a tA) (hb : PW X (.BoolOp .Or (b :: rest) pos) tB') : PW X (.BoolOp .Or (a :: b :: rest) pos) (tOr tA tB') := by
  intro wh pins s σ H Q I h
  refine isTrue_or (thn (ha pins s σ H _ I h) fun c s1 ⟨H1, I1, q1⟩ => ?_)
  cases c with
  | true => exact ⟨H1, I1, q1⟩
  | false => exact hb wh pins s1 σ H1 Q I1 q1
theorem pt_not (ha : PT X a tA) : PT X (.UnaryOp .Not a pos) (tNot tA) := by
  intro pins s σ H Q I h
  exact isTrue_not (ha pins s σ H (fun c H1 => Q (!c) H1) I h)
/-- .. as values (bools) -/
def tAndV (ta tb : TE) : TE := fun σ H Q => ta σ H fun x H1 => ∃ c, x = .bl c ∧ if c = true then tb σ H1 Q else Q (.bl false) H1
def tOrV (ta tb : TE) : TE := fun σ H Q => ta σ H fun x H1 => ∃ c, x = .bl c ∧ if c = true then Q (.bl true) H1 else tb σ H1 Q
def tNotV (ta : TE) : TE := fun σ H Q => ta σ H fun x H1 => ∃ c, x = .bl c ∧ Q (.bl (!c)) H1
theorem pe_one {op} {t : TE} (h : PE X a t) : PE X (.BoolOp op [a] pos) t := fun pins s σ H Q I hw => BoolOp_one (h pins s σ H Q I hw)
theorem pe_and (ha : PE X a ta) (hb : PE X (.BoolOp .And (b :: rest) pos) tb) : PE X (.BoolOp .And (a :: b :: rest) pos) (tAndV ta tb) := by
  intro pins s σ H Q I h
  refine BoolOp_and (thn (ha pins s σ H _ I h) fun v s1 ⟨x, H1, I1, r1, q1⟩ => ?_)
  obtain ⟨c, rfl, q1⟩ := q1
  cases r1
  refine wpAny_truthy_bool ?_
  cases c with
  | true => exact hb pins s1 σ H1 Q I1 q1
  | false => exact ⟨.bl false, H1, I1, rfl, q1⟩
theorem pe_or (ha : PE X a ta) (hb : PE X (.BoolOp .Or (b :: rest) pos) tb) : PE X (.BoolOp .Or (a :: b :: rest) pos) (tOrV ta tb) := by
  intro pins s σ H Q I h
  refine BoolOp_or (thn (ha pins s σ H _ I h) fun v s1 ⟨x, H1, I1, r1, q1⟩ => ?_)
  obtain ⟨c, rfl, q1⟩ := q1
  cases r1
  refine wpAny_truthy_bool ?_
  cases c with
  | false => exact hb pins s1 σ H1 Q I1 q1
  | true => exact ⟨.bl true, H1, I1, rfl, q1⟩
theorem pe_not (ha : PE X a ta) : PE X (.UnaryOp .Not a pos) (tNotV ta) := by
  intro pins s σ H Q I h
  refine UnaryOp_ (thn (ha pins s σ H _ I h) fun v s1 ⟨x, H1, I1, r1, q1⟩ => ?_)
  obtain ⟨c, rfl, q1⟩ := q1
  cases r1
  exact not_of (wpAny_truthy_bool ⟨.bl (!c), H1, I1, rfl, q1⟩)
/-- a if t else b -/
def tIf (t : TT) (ta tb : TE) : TE := fun σ H Q => t σ H fun c H1 => if c = true then ta σ H1 Q else tb σ H1 Q
end
end L2
namespace L2
open PySem PySem.Spec PyProof.Rows
def SqL (K : PySem.W.Frag) (H : Hp) (a : Addr) (xs : List V) : Prop :=
  Rd H a (.lst xs) ∨
    ∃ (o : Obj) (its : Array Value) (n : Nat), K.lookup a = some o ∧ o.cls = .type "list" ∧ o.dict = none ∧ o.data = .seq its n ∧ its.size ≤ sizeLine ∧ Vals xs its.toList
def SqT (K : PySem.W.Frag) (H : Hp) (a : Addr) (xs : List V) : Prop :=
  Rd H a (.tup xs) ∨
    ∃ (o : Obj) (its : Array Value) (n : Nat), K.lookup a = some o ∧ o.cls = .type "tuple" ∧ o.data = .seq its n ∧ its.size ≤ sizeLine ∧ Vals xs its.toList
def absV : Value → Option V
  | .none => some .non
  | .bool b => some (.bl b)
  | .int i _ => some (.int i)
  | .str x _ => some (.str x)
  | .bytes b _ => some (.byt b)
  | .float b _ => some (.flt b)
  | .ref a => some (.ref a)
  | .type n => some (.ty n)
  | _ => none
theorem RelV.abs {x : V} {u : Value} (r : RelV x u) : absV u = some x := by
  cases x with
  | non => cases r; rfl
  | bl _ => cases r; rfl
  | int _ => obtain ⟨t, rfl⟩ := r; rfl
  | str _ => obtain ⟨t, rfl⟩ := r; rfl
  | byt _ => obtain ⟨t, rfl⟩ := r; rfl
  | flt _ => obtain ⟨t, rfl⟩ := r; rfl
  | ref _ => cases r; rfl
  | ty _ => cases r; rfl
theorem RelV.inj {x y : V} {u : Value} (r : RelV x u) (q : RelV y u) : x = y := Option.some.inj (r.abs.symm.trans q.abs)
theorem Vals.inj : ∀ {xs ys : List V} {us : List Value}, Vals xs us → Vals ys us → xs = ys
  | _, _, _, .nil, .nil => rfl
  | _, _, _, .cons r t, .cons r' t' => by rw [r.inj r', Vals.inj t t']
section
variable {X : Cx} {pins : List (Addr × Obj)} {σ : St} {H : Hp} {s : Shared} {a : Addr} {xs ys : List V}
theorem SqL.of {K : PySem.W.Frag} (h : H a = some (.lst xs)) : SqL K H a xs := .inl (.inl h)
theorem SqT.of {K : PySem.W.Frag} (h : H a = some (.tup xs)) : SqT K H a xs := .inl (.inl h)
theorem Inv.list (I : Inv X pins σ H s) (h : SqL X.K H a xs) : ∃ its : List Value, Vals xs its ∧ PlainL s.heap a its.toArray ∧ xs.length ≤ sizeLine := by
  rcases h with h | ⟨o, its, n, hk, hc, hd, hs, hz, r⟩
  · obtain ⟨z, its, n, r, e⟩ := h.ok I.hok
    exact ⟨its, r, ⟨_, n, e, rfl, rfl, rfl⟩, z⟩
  · refine ⟨its.toList, r, ⟨o, n, I.kIn a o hk, hc, hd, by simpa using hs⟩, ?_⟩
    have e := r.length
    simp only [Array.length_toList] at e
    omega
theorem Inv.tuple (I : Inv X pins σ H s) (h : SqT X.K H a xs) : ∃ its : List Value, Vals xs its ∧ IsTup s.heap a its.toArray ∧ xs.length ≤ sizeLine := by
  rcases h with h | ⟨o, its, n, hk, hc, hs, hz, r⟩
  · obtain ⟨z, its, r, p⟩ := h.ok I.hok
    exact ⟨its, r, p, z⟩
  · refine ⟨its.toList, r, ⟨o, I.kIn a o hk, hc, n, by simpa using hs⟩, ?_⟩
    have e := r.length
    simp only [Array.length_toList] at e
    omega
theorem Inv.list_inj (I : Inv X pins σ H s) (h : SqL X.K H a xs) (h' : SqL X.K H a ys) : xs = ys := by
  obtain ⟨its, r, ⟨o, n, e, _, _, d⟩, _⟩ := I.list h
  obtain ⟨its', r', ⟨o', n', e', _, _, d'⟩, _⟩ := I.list h'
  rw [e] at e'; cases e'
  rw [d] at d'
  injection d' with d1 _
  have : its = its' := by simpa using congrArg Array.toList d1
  subst this
  exact r.inj r'
theorem Inv.tuple_inj (I : Inv X pins σ H s) (h : SqT X.K H a xs) (h' : SqT X.K H a ys) : xs = ys := by
  obtain ⟨its, r, ⟨o, e, _, n, d⟩, _⟩ := I.tuple h
  obtain ⟨its', r', ⟨o', e', _, n', d'⟩, _⟩ := I.tuple h'
  rw [e] at e'; cases e'
  rw [d] at d'
  injection d' with d1 _
  have : its = its' := by simpa using congrArg Array.toList d1
  subst this
  exact r.inj r'
end
abbrev Cx.wish (X : Cx) (E : Value → Shared → Prop) : Cx := { X with xe := E }
/-- no exception leaves -/
abbrev Cx.nox (X : Cx) : Cx := X.wish fun _ _ => False
theorem Cx.Ok.wish {X : Cx} (ok : X.Ok) (E : Value → Shared → Prop) : (X.wish E).Ok :=
  ⟨ok.mod, ok.kind, ok.glob, ok.blt, ok.above, ok.inj, ok.has, ok.cab, ok.hd, ok.frames, ok.stk, ok.exf, ok.bs, ok.bsz, ok.noex, ok.exfs, ok.funs, ok.frf⟩
theorem Cx.Ok.unwish {X : Cx} {E : Value → Shared → Prop} (ok : (X.wish E).Ok) : X.Ok :=
  ⟨ok.mod, ok.kind, ok.glob, ok.blt, ok.above, ok.inj, ok.has, ok.cab, ok.hd, ok.frames, ok.stk, ok.exf, ok.bs, ok.bsz, ok.noex, ok.exfs, ok.funs, ok.frf⟩
section
variable {X : Cx} {pins : List (Addr × Obj)} {σ : St} {H : Hp} {s : Shared} {E : Value → Shared → Prop}
theorem Inv.wish (I : Inv X pins σ H s) (E : Value → Shared → Prop) : Inv (X.wish E) pins σ H s := ⟨I.ok.wish E, I.os, I.bare, I.base, I.loc, I.cell, I.free, I.freeC, I.pin, I.hok, I.len⟩
theorem Inv.unwish (I : Inv (X.wish E) pins σ H s) : Inv X pins σ H s := ⟨I.ok.unwish, I.os, I.bare, I.base, I.loc, I.cell, I.free, I.freeC, I.pin, I.hok, I.len⟩
theorem SP.unwish {D : Ends} {f : Flow} {s' : Shared} (h : SP (X.wish E) pins D f s') : SP X pins D f s' := by
  cases f with
  | next => obtain ⟨σ', H', I, q⟩ := h; exact ⟨σ', H', I.unwish, q⟩
  | brk => obtain ⟨σ', H', I, q⟩ := h; exact ⟨σ', H', I.unwish, q⟩
  | cont => obtain ⟨σ', H', I, q⟩ := h; exact ⟨σ', H', I.unwish, q⟩
  | ret u => obtain ⟨v, σ', H', I, r, q⟩ := h; exact ⟨v, σ', H', I.unwish, r, q⟩
theorem PSs.nox {st : List Stmt} {t : TS} (h : PSs X.nox st t) : PSs X st t := fun pins s σ H D I hw =>
  wpAny_mono (h pins s σ H D (I.wish _) hw) (fun _ _ q => q.unwish) fun _ _ z => False.elim z
end
section
variable {X : Cx} {st : Stmt} {rest : List Stmt} {t u : TS} {e : Expr} {te : TE} {pos : Pos}
def tNext : TS := fun D σ H => D.nx σ H
def tSeq (t u : TS) : TS := fun D σ H => t { D with nx := u D } σ H
theorem pss_nil : PSs X [] tNext := fun _ _ σ H _ I h => wpAny_execs_nil ⟨σ, H, I, h⟩
theorem pss_cons (h1 : PS X st t) (h2 : PSs X rest u) : PSs X (st :: rest) (tSeq t u) := by
  intro pins s σ H D I h
  refine wpAny_execs_cons (thn (h1 pins s σ H { D with nx := u D } I h) fun f s1 q => ?_)
  cases f with
  | next =>
    obtain ⟨σ', H', I', q⟩ := q
    exact h2 pins s1 σ' H' D I' q
  | ret v => exact q
  | brk => exact q
  | cont => exact q
theorem pss_one (h1 : PS X st t) : PSs X [st] t := by
  intro pins s σ H D I h
  refine wpAny_execs_cons (thn (h1 pins s σ H D I h) fun f s1 q => ?_)
  cases f with
  | next => exact wpAny_execs_nil q
  | ret v => exact q
  | brk => exact q
  | cont => exact q
def tBreak : TS := fun D σ H => D.bk σ H
def tCont : TS := fun D σ H => D.ct σ H
/-- in a def's body nothing is shown -/
theorem Inv.quiet {pins : List (Addr × Obj)} {σ : St} {H : Hp} {s : Shared} (I : Inv X pins σ H s) : interactive X.env = false := by simp [interactive, I.ok.kind]
/-- an expression whose value is dropped -/
def tDrop (te : TE) : TS := fun D σ H => te σ H fun _ H1 => D.nx σ H1
theorem ps_expr (he : PE X e te) (hs : swapsWith e none pos.line X.env = pure false := by rfl) : PS X (.Expr e pos) (tDrop te) := by
  intro pins s σ H D I h
  exact wpAny_Expr_any (thn (he pins s σ H _ I h) fun v s1 ⟨x, H1, I1, r1, q1⟩ => ⟨σ, H1, I1, q1⟩) I.quiet hs
def tRet (te : TE) : TS := fun D σ H => te σ H D.rt
theorem ps_ret (he : PE X e te) : PS X (.Return (some e) pos) (tRet te) := by
  intro pins s σ H D I h
  exact wpAny_Return_some (thn (he pins s σ H _ I h) fun v s1 ⟨x, H1, I1, r1, q1⟩ => ⟨x, σ, H1, I1, r1, q1⟩)
def tRetN : TS := fun D _ H => D.rt .non H
def tIfS (c : TT) (t u : TS) : TS := fun D σ H => c σ H fun b H1 => if b = true then t D σ H1 else u D σ H1
theorem ps_if {c : Expr} {a b : List Stmt} {tc : TT} (hc : PT X c tc) (ha : PSs X a t) (hb : PSs X b u) : PS X (.If c a b pos) (tIfS tc t u) := by
  intro pins s σ H D I h
  refine wpAny_If (thn (hc pins s σ H _ I h) fun d s1 ⟨H1, I1, q1⟩ => ?_)
  cases d with
  | true => exact ha pins s1 σ H1 D I1 q1
  | false => exact hb pins s1 σ H1 D I1 q1
/-- code that the proof never comes to -/
def tNever : TS := fun _ _ _ => False
end
abbrev TG := V → St → Hp → (St → Hp → Prop) → Prop
abbrev TGs := List V → St → Hp → (St → Hp → Prop) → Prop
def PG (X : Cx) (target : Expr) (t : TG) : Prop :=
  ∀ (pins : List (Addr × Obj)) (s : Shared) (σ : St) (H : Hp) (v : V) (u : Value) (Q : St → Hp → Prop), Inv X pins σ H s → RelV v u → t v σ H Q →
    wpAny (model X.prog X.w) X.A (assign target X.env u) (fun _ s' => ∃ σ' H', Inv X pins σ' H' s' ∧ Q σ' H') X.xe s
/-- several targets, one after another -/
def PGs (X : Cx) (ts : List Expr) (t : TGs) : Prop :=
  ∀ (pins : List (Addr × Obj)) (s : Shared) (σ : St) (H : Hp) (vs : List V) (us : List Value) (Q : St → Hp → Prop), Inv X pins σ H s → Vals vs us → t vs σ H Q →
    wpAny (model X.prog X.w) X.A (assignInOrder ((assignEach ts X.env).map (·.2)) us) (fun _ s' => ∃ σ' H', Inv X pins σ' H' s' ∧ Q σ' H') X.xe s
/-- o[i] = v, by values -/
abbrev TSet := V → V → V → Hp → (Hp → Prop) → Prop
def PSet (X : Cx) (t : TSet) : Prop :=
  ∀ (pins : List (Addr × Obj)) (s : Shared) (σ : St) (H : Hp) (o i v : V) (ov iv u : Value) (Q : Hp → Prop), Inv X pins σ H s → RelV o ov → RelV i iv → RelV v u → t o i v H Q →
    wpAny (model X.prog X.w) X.A (setItem ov iv u) (fun _ s' => ∃ H', Inv X pins σ H' s' ∧ Q H') X.xe s
/-- a op= b, by values -/
abbrev TIp := V → V → Hp → VK → Prop
def PIp (X : Cx) (op : Operator) (t : TIp) : Prop :=
  ∀ (pins : List (Addr × Obj)) (s : Shared) (σ : St) (H : Hp) (x y : V) (v u : Value) (Q : VK), Inv X pins σ H s → RelV x v → RelV y u → t x y H Q →
    wpAny (model X.prog X.w) X.A (inplaceOp op v u) (EP X pins σ Q) X.xe s
section
variable {X : Cx} {pos : Pos}
def gName (i : Nat) : TG := fun v σ H Q => Q (σ.set i (some v)) H
theorem pg_name {i : Nat} {x : Str} (hN : X.N.Nodup) (hi : X.N[i]? = some x) (hx : Loc X.env.scope x) (hf : X.fn x = true ∨ X.env.scope.names.lookup x = some .local := by first | exact .inl rfl | exact .inr rfl | assumption) : PG X (.Name x pos) (gName i) := by
  intro pins s σ H v u Q I r h
  exact wpAny_assign_Name (store_ok I hN hi hx r (fun s' I' => ⟨_, H, I', h⟩) hf)
def gNil : TGs := fun vs σ H Q => vs = [] ∧ Q σ H
def gCons (t : TG) (u : TGs) : TGs := fun vs σ H Q => ∃ v r, vs = v :: r ∧ t v σ H fun σ' H' => u r σ' H' Q
theorem pgs_nil : PGs X [] gNil := by
  intro pins s σ H vs us Q I r h
  obtain ⟨e, h⟩ := h
  subst e
  cases r
  exact assignInOrder_nil ⟨σ, H, I, h⟩
theorem pgs_cons {e : Expr} {es : List Expr} {t : TG} {u : TGs} (h1 : PG X e t) (h2 : PGs X es u)
    (hs : (assignEach (e :: es) X.env).map (·.2) = assign e X.env :: (assignEach es X.env).map (·.2) := by rfl) : PGs X (e :: es) (gCons t u) := by
  intro pins s σ H vs us Q I r h
  obtain ⟨v, vr, e1, h⟩ := h
  subst e1
  cases r with
  | cons r rr =>
    rw [hs]
    refine assignInOrder_cons (thn (h1 pins s σ H _ _ _ I r h) fun _ s1 ⟨σ1, H1, I1, q1⟩ => ?_)
    exact h2 pins s1 σ1 H1 _ _ Q I1 rr q1
/-- (a, b, ..) = a tuple of that length -/
def gTup (K : PySem.W.Frag) (n : Nat) (t : TGs) : TG := fun v σ H Q => ∃ a xs, v = .ref a ∧ SqT K H a xs ∧ xs.length = n ∧ t xs σ H Q
theorem pg_tup {es : List Expr} {k : Nat} {t : TGs} {n : Nat} (hc : X.calm = true) (h : PGs X es t)
    (hn : (assignEach es X.env).length = n := by rfl) (hst : (assignEach es X.env).findIdx? (·.1) = none := by rfl) : PG X (.Tuple es k pos) (gTup X.K n t) := by
  intro pins s σ H v u Q I r hw
  obtain ⟨a, xs, e1, hq, hl, hw⟩ := hw
  subst e1
  cases r
  obtain ⟨its, rv, ht, hz⟩ := I.tuple hq
  refine assign_Tuple_tuple (I.ok.hd hc) ht (by simp [hn, ← hl, rv.length]) hst fun h' hx => ?_
  have I1 : Inv X pins σ H { s with heap := h' } := I.kept (t' := s.toks) fun b o e => hx b o (Nat.ne_of_lt (Heap.lt_size e)) e
  exact h pins _ σ H xs _ Q I1 (by simpa using rv) hw
/-- o[i] = .. -/
def gSub (to ti : TE) (t : TSet) : TG := fun v σ H Q => to σ H fun o H1 => ti σ H1 fun i H2 => t o i v H2 fun H3 => Q σ H3
/-- target = value -/
def tAsg (te : TE) (g : TG) : TS := fun D σ H => te σ H fun x H1 => g x σ H1 D.nx
theorem ps_asg {tg e : Expr} {te : TE} {g : TG} (he : PE X e te) (hg : PG X tg g) (hs : swapsWithSole [tg] e pos.line X.env = pure false := by rfl) (hw : swappedStores [tg] e X.env = pure none := by rfl)
    (h1 : (assignEach [tg] X.env).map (·.2) = [assign tg X.env] := by rfl) : PS X (.Assign [tg] e pos) (tAsg te g) := by
  intro pins s σ H D I h
  refine wpAny_Assign_stores (thn (he pins s σ H _ I h) fun v s1 ⟨x, H1, I1, r1, q1⟩ => ?_) hs hw
  rw [h1]
  exact thn (hg pins s1 σ H1 x v _ I1 r1 q1) fun _ s2 q => q
/-- name = value -/
theorem ps_set {i : Nat} {x : Str} {e : Expr} {te : TE} {pos' : Pos} (hN : X.N.Nodup) (hi : X.N[i]? = some x) (hx : Loc X.env.scope x) (he : PE X e te) (hs : swapsWith e (some (.Name x pos')) pos.line X.env = pure false := by rfl) (hf : X.fn x = true ∨ X.env.scope.names.lookup x = some .local := by first | exact .inl rfl | exact .inr rfl | assumption) :
    PS X (.Assign [.Name x pos'] e pos) (tAsg te (gName i)) := by
  intro pins s σ H D I h
  refine wpAny_Assign_Name (thn (he pins s σ H _ I h) fun v s1 ⟨y, H1, I1, r1, q1⟩ => ?_) hs
  exact store_ok I1 hN hi hx r1 (fun s2 I2 => ⟨_, H1, I2, q1⟩) hf
/-- a, b = x, y with plain local names: stored from the right; the pair itself is not tracked (the opening rows as in PyProof/Rows/TupAssign.lean:23) -/
def tPar (i j : Nat) (ta : TA) : TS := fun D σ H => ta σ H fun vs H1 => ∃ v w, vs = [v, w] ∧ D.nx ((σ.set i (some v)).set j (some w)) H1
/-- name op= e -/
def tAug (i : Nat) (te : TE) (ti : TIp) : TS := fun D σ H => ∃ x, σ[i]? = some (some x) ∧ te σ H fun y H1 => ti x y H1 fun z H2 => D.nx (σ.set i (some z)) H2
/-- o[i] op= e -/
def tAugS (to ti te : TE) (tget : V → V → Hp → VK → Prop) (tip : TIp) (tset : TSet) : TS := fun D σ H => to σ H fun o H1 => ti σ H1 fun i H2 => tget o i H2 fun x H3 => te σ H3 fun y H4 => tip x y H4 fun z H5 => tset o i z H5 fun H6 => D.nx σ H6
/-- o[i], by values -/
def PGet (X : Cx) (t : V → V → Hp → VK → Prop) : Prop :=
  ∀ (pins : List (Addr × Obj)) (s : Shared) (σ : St) (H : Hp) (o i : V) (ov iv : Value) (Q : VK), Inv X pins σ H s → RelV o ov → RelV i iv → t o i H Q →
    wpAny (model X.prog X.w) X.A (getItem ov iv) (EP X pins σ Q) X.xe s
/-- ints -/
def ipI (f : Int → Int → Int) : TIp := fun x y H Q => ∃ i j, x = .int i ∧ y = .int j ∧ Q (.int (f i j)) H
end
section
variable {X : Cx} {pos : Pos}
/-- the invariant W with its measure -/
def tWhile (c : TT) (tb : TS) : TS := fun D σ H => ∃ W : Nat → St → Hp → Prop, (∃ m, W m σ H) ∧ ∀ m σ H, W m σ H →
  c σ H fun b H1 => if b = true then ∃ N : St → Hp → Prop, (∀ σ' H', N σ' H' → ∃ m', m' < m ∧ W m' σ' H') ∧ tb { D with nx := N, ct := N, bk := D.nx } σ H1 else D.nx σ H1
theorem ps_while {c : Expr} {body : List Stmt} {tc : TT} {tb : TS} (hp : PassesOwn (model X.prog X.w) X.A X.env X.xe) (hc : PT X c tc) (hb : PSs X body tb) : PS X (.While c body [] pos) (tWhile tc tb) := by
  intro pins s σ H D I h
  obtain ⟨W, ⟨m0, w0⟩, turn⟩ := h
  refine wpAny_While (codeAny_whileLoop (fun n s' => ∃ σ' H', Inv X pins σ' H' s' ∧ W n σ' H') ?_ m0 ⟨σ, H, I, w0⟩)
  rintro n s1 ⟨σ1, H1, I1, w1⟩
  refine wpAny_passesOwn hp (thn (hc pins s1 σ1 H1 _ I1 (turn n σ1 H1 w1)) fun b s2 ⟨H2, I2, q2⟩ => ?_)
  cases b with
  | true =>
    obtain ⟨N, hN, q2⟩ := q2
    rw [if_pos rfl]
    refine wpAny_passesOwn hp (thn (hb pins s2 σ1 H2 _ I2 q2) fun f s3 q3 => ?_)
    cases f with
    | next =>
      obtain ⟨σ3, H3, I3, n3⟩ := q3
      obtain ⟨m', hm, w3⟩ := hN σ3 H3 n3
      exact ⟨m', hm, σ3, H3, I3, w3⟩
    | cont =>
      obtain ⟨σ3, H3, I3, n3⟩ := q3
      obtain ⟨m', hm, w3⟩ := hN σ3 H3 n3
      exact ⟨m', hm, σ3, H3, I3, w3⟩
    | brk => exact q3
    | ret v => exact q3
  | false =>
    rw [if_neg Bool.false_ne_true]
    exact wpAny_execs_nil ⟨σ1, H2, I2, q2⟩
end
/-- at turn i: it yields x (the heap may grow), or it stops -/
structure It where
  go : Nat → Hp → Prop
  yld : Nat → Hp → V → Hp → Prop
  stop : Nat → Hp → Prop
/-- the iterator's own objects may turn: they are not the frame's, not pinned, younger than the entry (or a comprehension's own) -/
def FpOk (X : Cx) (pins : List (Addr × Obj)) (H : Hp) (b : Addr) : Prop :=
  H b = none ∧ b ≠ X.env.locals ∧ b ∉ X.fs ∧ (b ∈ X.ex ∨ X.s₀.heap.objs.size ≤ b) ∧ (∀ x c, X.env.cells.lookup x = some c → c ≠ b) ∧ ∀ p ∈ X.pn ++ pins, p.1 ≠ b
theorem Inv.fpOk {X : Cx} {pins : List (Addr × Obj)} {σ : St} {H H' : Hp} {s : Shared} {b : Addr} (I : Inv X pins σ H s) (hb : s.heap.objs.size ≤ b) (hn : H' b = none) : FpOk X pins H' b := by
  refine ⟨hn, Nat.ne_of_gt (Nat.lt_of_lt_of_le I.lt hb), I.nofs hb, .inr (Nat.le_trans I.sz hb), fun x c e z => ?_, fun p hp z => ?_⟩
  · obtain ⟨v, q⟩ := I.cell x c e
    exact absurd (Nat.lt_of_lt_of_le q.lt (by rw [z]; exact hb)) (Nat.lt_irrefl _)
  · exact absurd (Nat.lt_of_lt_of_le (Heap.lt_size (I.pin p hp).1) (by rw [z]; exact hb)) (Nat.lt_irrefl _)
structure Turn (P : Program) (w : World) (K : PySem.W.Frag) (tg : Expr) (J : It) (fp : List Addr) (it : Addr) (tn : Nat → Heap → Prop) : Prop where
  mem : it ∈ fp
  obj : ∀ i h, tn i h → ∀ b ∈ fp, ∃ o, h.get? b = some o ∧ ∀ v, o.data ≠ .cell v
  keep : ∀ i h h', tn i h → (∀ b ∈ fp, ∀ o, h.get? b = some o → h'.get? b = some o) → tn i h'
  item : ∀ (X : Cx), X.prog = P → X.w = w → X.K = K → X.calm = true → ∀ (i : Nat) (pins : List (Addr × Obj)) (s : Shared) (σ : St) (H : Hp) (E : Value → Shared → Prop), Inv X pins σ H s → (∀ b ∈ fp, FpOk X pins H b) → tn i s.heap → J.go i H →
    wpAny (model P w) X.A (pyNext (.ref it)) (fun r s1 => ∃ u, r = some u ∧
      wpAny (model P w) X.A (letOwnedTupleGo tg (.ref it) u) (fun _ s2 => ∃ x H', Inv X pins σ H' s2 ∧ RelV x u ∧ J.yld i H x H' ∧ tn (i + 1) s2.heap ∧ ∀ b ∈ fp, H' b = none) E s1) E s
  done : ∀ (X : Cx), X.prog = P → X.w = w → X.K = K → X.calm = true → ∀ (i : Nat) (pins : List (Addr × Obj)) (s : Shared) (σ : St) (H : Hp) (E : Value → Shared → Prop), Inv X pins σ H s → (∀ b ∈ fp, FpOk X pins H b) → tn i s.heap → J.stop i H →
    wpAny (model P w) X.A (pyNext (.ref it)) (fun r s1 => r = none ∧ Inv X pins σ H s1) E s
  self : ∀ (A : Around) (i : Nat) (s : Shared) (Q : Value → Shared → Prop) (E : Value → Shared → Prop), tn i s.heap → Q (.ref it) s → wpAny (model P w) A (pyIter (.ref it)) Q E s
abbrev TI := St → Hp → (It → Hp → Prop) → Prop
/-- an iterator has come -/
def PIE (X : Cx) (pins : List (Addr × Obj)) (σ : St) (tg : Expr) (R : It → Hp → Prop) (itv : Value) (s2 : Shared) : Prop :=
  ∃ (it : Addr) (fp : List Addr) (tn : Nat → Heap → Prop) (J : It) (H' : Hp), itv = .ref it ∧ Inv X pins σ H' s2 ∧ Turn X.prog X.w X.K tg J fp it tn ∧ tn 0 s2.heap ∧ (∀ b ∈ fp, FpOk X pins H' b) ∧ R J H'
def PI (X : Cx) (tg iter : Expr) (wi : TI) : Prop :=
  ∀ (pins : List (Addr × Obj)) (s : Shared) (σ : St) (H : Hp) (R : It → Hp → Prop), Inv X pins σ H s → wi σ H R →
    wpAny (model X.prog X.w) X.A (eval iter X.env) (fun v s1 => wpAny (model X.prog X.w) X.A (pyIter v) (PIE X pins σ tg R) X.xe s1) X.xe s
/-- the step ahead of the store is nothing for an iterator that keeps no tuple -/
theorem go_of {M : Model} {A : Around} {E : Value → Shared → Prop} {s : Shared} {tg : Expr} {it : Addr} {u : Value} {o : Obj} {n : String} {vs : Array Value} {Q : Unit → Shared → Prop} (ho : s.heap.get? it = some o) (hc : o.cls = .type n) (hd : o.data = .fields vs)
    (hn : ["enumerate", "zip", "dict_itemiterator", "dict_reverseitemiterator", "odict_iterator", "itertools.zip_longest", "itertools.pairwise"].contains n = false) (hQ : Q () s) : wpAny M A (letOwnedTupleGo tg (.ref it) u) Q E s := by
  unfold letOwnedTupleGo
  cases tg <;> first
    | exact wpAny_pure hQ
    | (cases u <;> first
        | exact wpAny_pure hQ
        | (refine wpAny_bind (wpAny_load ho ?_)
           rw [hc, hd]
           show wpAny M A (if (["enumerate", "zip", "dict_itemiterator", "dict_reverseitemiterator", "odict_iterator", "itertools.zip_longest", "itertools.pairwise"].contains n && vs[0]? == some (rawInt _)) = true then _ else _) Q E s
           rw [if_neg (by intro h; rw [hn, Bool.false_and] at h; cases h)]
           exact wpAny_pure hQ))
/-- the list at a, as it stands at each turn (a loop may append to it) -/
def Itl (K : PySem.W.Frag) (a : Addr) : It :=
  ⟨fun i H => ∃ xs x, SqL K H a xs ∧ xs[i]? = some x, fun i H x H' => H' = H ∧ ∀ xs, SqL K H a xs → xs[i]? = some x, fun i H => ∃ xs, SqL K H a xs ∧ xs.length ≤ i⟩
def Itt (K : PySem.W.Frag) (a : Addr) : It :=
  ⟨fun i H => ∃ xs x, SqT K H a xs ∧ xs[i]? = some x, fun i H x H' => H' = H ∧ ∀ xs, SqT K H a xs → xs[i]? = some x, fun i H => ∃ xs, SqT K H a xs ∧ xs.length ≤ i⟩
/-- lo, lo + 1, .. (n of them) -/
def Itr (lo : Int) (n : Nat) : It := ⟨fun i _ => i < n, fun i H x H' => H' = H ∧ x = .int (lo + i), fun i _ => n ≤ i⟩
theorem turn_list {P : Program} {w : World} {K : PySem.W.Frag} {tg : Expr} (a it : Addr) : Turn P w K tg (Itl K a) [it] it (fun i h => h.IsListIter it a i) where
  mem := by simp
  obj := fun i h st b hb => by
    have e : b = it := by simpa using hb
    subst e
    obtain ⟨o, e, c, d⟩ := st
    exact ⟨o, e, fun v z => by rw [d] at z; cases z⟩
  keep := fun i h h' st k => st.at fun o e => k it (by simp) o e
  item := by
    intro X hP hw hK hc i pins s σ H E I hf st hg
    subst hP hw hK
    obtain ⟨xs, x, hq, hx⟩ := hg
    obtain ⟨its, rv, p, hz⟩ := I.list hq
    obtain ⟨u, hu, ru⟩ := rv.get hx
    obtain ⟨f0, f1, f2, f3, f4, f5⟩ := hf it (by simp)
    refine wpAny_pyNext_list_item st p.isList (x := u) (by simpa using hu) fun h' st' sb => ?_
    have I1 : Inv X pins σ H { s with heap := h' } := I.turned (t' := s.toks) (fun b o hb e => (sb.2 b hb).trans e) f0 f1 f3 f4 f5
    obtain ⟨o, e, c, d⟩ := id st'
    exact ⟨u, rfl, go_of (s := { s with heap := h' }) e c d (by decide) ⟨x, H, I1, ru, ⟨rfl, fun ys hy => by rw [I.list_inj hy hq]; exact hx⟩, st', fun b hb => (hf b hb).1⟩⟩
  done := by
    intro X hP hw hK hc i pins s σ H E I hf st hg
    subst hP hw hK
    obtain ⟨xs, hq, hx⟩ := hg
    obtain ⟨its, rv, p, hz⟩ := I.list hq
    obtain ⟨f0, f1, f2, f3, f4, f5⟩ := hf it (by simp)
    have hl := rv.length
    exact wpAny_pyNext_list_end (I.ok.hd hc) st p.isList (by simp; omega) fun h' eb => ⟨rfl, I.turned (t' := s.toks) (fun b o hb e => eb b o hb e) f0 f1 f3 f4 f5⟩
  self := fun _ _ _ _ _ st h => wpAny_pyIter_listiter st h
theorem turn_tuple {P : Program} {w : World} {K : PySem.W.Frag} {tg : Expr} (a it : Addr) : Turn P w K tg (Itt K a) [it] it (fun i h => h.IsTupleIter it a i) where
  mem := by simp
  obj := fun i h st b hb => by
    have e : b = it := by simpa using hb
    subst e
    obtain ⟨o, e, c, d⟩ := st
    exact ⟨o, e, fun v z => by rw [d] at z; cases z⟩
  keep := fun i h h' st k => st.at fun o e => k it (by simp) o e
  item := by
    intro X hP hw hK hc i pins s σ H E I hf st hg
    subst hP hw hK
    obtain ⟨xs, x, hq, hx⟩ := hg
    obtain ⟨its, rv, p, hz⟩ := I.tuple hq
    obtain ⟨u, hu, ru⟩ := rv.get hx
    obtain ⟨f0, f1, f2, f3, f4, f5⟩ := hf it (by simp)
    refine wpAny_pyNext_tuple_item st (show s.heap.IsTuple a its.toArray from p) (x := u) (by simpa using hu) fun h' st' sb => ?_
    have I1 : Inv X pins σ H { s with heap := h' } := I.turned (t' := s.toks) (fun b o hb e => (sb.2 b hb).trans e) f0 f1 f3 f4 f5
    obtain ⟨o, e, c, d⟩ := id st'
    exact ⟨u, rfl, go_of (s := { s with heap := h' }) e c d (by decide) ⟨x, H, I1, ru, ⟨rfl, fun ys hy => by rw [I.tuple_inj hy hq]; exact hx⟩, st', fun b hb => (hf b hb).1⟩⟩
  done := by
    intro X hP hw hK hc i pins s σ H E I hf st hg
    subst hP hw hK
    obtain ⟨xs, hq, hx⟩ := hg
    obtain ⟨its, rv, p, hz⟩ := I.tuple hq
    obtain ⟨f0, f1, f2, f3, f4, f5⟩ := hf it (by simp)
    have hl := rv.length
    exact wpAny_pyNext_tuple_end (I.ok.hd hc) st (show s.heap.IsTuple a its.toArray from p) (by simp; omega) fun h' eb => ⟨rfl, I.turned (t' := s.toks) (fun b o hb e => eb b o hb e) f0 f1 f3 f4 f5⟩
  self := fun _ _ _ _ _ st h => wpAny_pyIter_tupleiter st h
theorem turn_range {P : Program} {w : World} {K : PySem.W.Frag} {tg : Expr} (it : Addr) (lo : Int) (n : Nat) : Turn P w K tg (Itr lo n) [it] it (fun i h => IsRangeIter h it (lo + (i : Nat) * 1) ((n : Int) - (i : Nat)) 1) where
  mem := by simp
  obj := fun i h st b hb => by
    have e : b = it := by simpa using hb
    subst e
    exact ⟨_, st, fun v z => by
      have z' : Data.fields _ = Data.cell v := z
      cases z'⟩
  keep := fun i h h' st k => k it (by simp) _ st
  item := by
    intro X hP hw hK hc i pins s σ H E I hf st hg
    subst hP hw hK
    obtain ⟨f0, f1, f2, f3, f4, f5⟩ := hf it (by simp)
    have W := Walks.range (prog := X.prog) (w := X.w) (I.ok.hd hc) it lo 1 n
    refine W.item i s _ _ hg st fun v h' tk hv st' kk => ?_
    obtain ⟨t, rfl⟩ := hv
    have I1 : Inv X pins σ H { s with heap := h', toks := tk } := I.turned (fun b o hb e => kk b o (by simpa using hb) e) f0 f1 f3 f4 f5
    refine ⟨_, rfl, go_of (s := { s with heap := h', toks := tk }) (n := "range_iterator") st' rfl rfl (by decide) ⟨.int (lo + i), H, I1, ⟨t, ?_⟩, ⟨rfl, rfl⟩, st', fun b hb => (hf b hb).1⟩⟩
    rw [Int.mul_one]
  done := by
    intro X hP hw hK hc i pins s σ H E I hf st hg
    subst hP hw hK
    obtain ⟨f0, f1, f2, f3, f4, f5⟩ := hf it (by simp)
    exact wpAny_pyNext_range_end (I.ok.hd hc) st (by have : n ≤ i := hg; omega) fun h' eb => ⟨rfl, I.turned (t' := s.toks) (fun b o hb e => eb b o hb e) f0 f1 f3 f4 f5⟩
  self := fun _ _ _ _ _ st h => wpAny_pyIter_rangeiter st h
end L2
namespace L2
open PySem PySem.Spec PyProof.Rows
section
variable {X : Cx} {tg : Expr}
def iList (K : PySem.W.Frag) (tl : TE) : TI := fun σ H R => tl σ H fun x H1 => ∃ a, x = .ref a ∧ (∃ xs, SqL K H1 a xs) ∧ R (Itl K a) H1
def iTup (K : PySem.W.Frag) (tl : TE) : TI := fun σ H R => tl σ H fun x H1 => ∃ a, x = .ref a ∧ (∃ xs, SqT K H1 a xs) ∧ R (Itt K a) H1
theorem pi_list {l : Expr} {tl : TE} (hl : PE X l tl) : PI X tg l (iList X.K tl) := by
  intro pins s σ H R I h
  refine thn (hl pins s σ H _ I h) fun v s1 ⟨x, H1, I1, r1, q1⟩ => ?_
  obtain ⟨a, e, ⟨xs, hq⟩, q⟩ := q1
  subst e
  cases r1
  obtain ⟨its, rv, p, hz⟩ := I1.list hq
  refine wpAny_pyIter_list p.isList ?_
  refine ⟨s1.heap.objs.size, [s1.heap.objs.size], _, _, H1, rfl, I1.kept (t' := s1.toks) fun b o e => Heap.get?_push_of_some _ e, turn_list a _, ⟨_, Heap.get?_push_size _ rfl, rfl, rfl⟩, fun b hb => ?_, q⟩
  have e : b = s1.heap.objs.size := by simpa using hb
  subst e
  exact I1.fpOk (Nat.le_refl _) (I1.hok.fresh (Nat.le_refl _))
theorem pi_tup {l : Expr} {tl : TE} (hl : PE X l tl) : PI X tg l (iTup X.K tl) := by
  intro pins s σ H R I h
  refine thn (hl pins s σ H _ I h) fun v s1 ⟨x, H1, I1, r1, q1⟩ => ?_
  obtain ⟨a, e, ⟨xs, hq⟩, q⟩ := q1
  subst e
  cases r1
  obtain ⟨its, rv, p, hz⟩ := I1.tuple hq
  refine wpAny_pyIter_tuple (show s1.heap.IsTuple a its.toArray from p) ?_
  refine ⟨s1.heap.objs.size, [s1.heap.objs.size], _, _, H1, rfl, I1.kept (t' := s1.toks) fun b o e => Heap.get?_push_of_some _ e, turn_tuple a _, ⟨_, Heap.get?_push_size _ rfl, rfl, rfl⟩, fun b hb => ?_, q⟩
  have e : b = s1.heap.objs.size := by simpa using hb
  subst e
  exact I1.fpOk (Nat.le_refl _) (I1.hok.fresh (Nat.le_refl _))
/-- a range object just made, walked -/
theorem range_it {pins : List (Addr × Obj)} {σ : St} {H : Hp} {s : Shared} {R : It → Hp → Prop} {E : Value → Shared → Prop} {lo hi : Int} {t u v : Tok} {tk : Nat} (I : Inv X pins σ H s) (h1 : -(2 ^ 62) ≤ lo) (h2 : lo < 2 ^ 62) (h3 : -(2 ^ 62) ≤ hi) (h4 : hi < 2 ^ 62)
    (q : R (Itr lo (hi - lo).toNat) H) : wpAny (model X.prog X.w) X.A (pyIter (.ref s.heap.objs.size)) (PIE X pins σ tg R) E { s with heap := s.heap.push { cls := .type "range", data := .fields #[.int lo t, .int hi u, .int 1 v] }, toks := tk } := by
  refine wpAny_pyIter_range (IsRange.new ..) (small_one h1 h2 h3 h4) ?_
  have I1 : Inv X pins σ H { s with heap := s.heap.push { cls := .type "range", data := .fields #[.int lo t, .int hi u, .int 1 v] }, toks := tk } := I.kept fun b o e => Heap.get?_push_of_some _ e
  refine ⟨(s.heap.push { cls := .type "range", data := .fields #[.int lo t, .int hi u, .int 1 v] }).objs.size, [(s.heap.push { cls := .type "range", data := .fields #[.int lo t, .int hi u, .int 1 v] }).objs.size], _, _, H, rfl,
    I1.kept (t' := tk) fun b o e => Heap.get?_push_of_some _ e, turn_range _ lo (hi - lo).toNat, ?_, fun b hb => ?_, q⟩
  · have e1 : lo + ((0 : Nat) : Int) * 1 = lo := by simp
    have e2 : (((hi - lo).toNat : Nat) : Int) - ((0 : Nat) : Int) = Builtin.Range.rangeSize lo hi 1 := by rw [rangeSize_one]; split <;> omega
    show IsRangeIter _ _ (lo + ((0 : Nat) : Int) * 1) ((((hi - lo).toNat : Nat) : Int) - ((0 : Nat) : Int)) 1
    rw [e1, e2]
    exact Heap.get?_push_size _ rfl
  · have e : b = (s.heap.push { cls := .type "range", data := .fields #[.int lo t, .int hi u, .int 1 v] }).objs.size := by simpa using hb
    subst e
    exact I1.fpOk (Nat.le_refl _) (I1.hok.fresh (Nat.le_refl _))
def iRng1 (ta : TA) : TI := fun σ H R => ta σ H fun vs H1 => ∃ j : Int, vs = [.int j] ∧ -(2 ^ 62) ≤ j ∧ j < 2 ^ 62 ∧ R (Itr 0 j.toNat) H1
def iRng2 (ta : TA) : TI := fun σ H R => ta σ H fun vs H1 => ∃ i j : Int, vs = [.int i, .int j] ∧ (-(2 ^ 62) ≤ i ∧ i < 2 ^ 62 ∧ -(2 ^ 62) ≤ j ∧ j < 2 ^ 62) ∧ R (Itr i (j - i).toNat) H1
theorem pi_range1 {a : Expr} {ta : TA} {p pos : Pos} (hg : Gl X "range") (hm : X.mg "range" = none) (ha : PA X [a] ta) (hs : starEach [a] X.env = [(false, eval a X.env)] := by rfl) : PI X tg (.Call (.Name "range" p) [a] [] pos) (iRng1 ta) := by
  intro pins s σ H R I h
  refine Call_ (ld_blt I hg hm boot_range (PyProof.Rows.callWith_type1 (thn (ha pos pins s σ H _ I h) fun us s1 ⟨vs, H1, I1, r1, q1⟩ => ?_) hs rfl))
  obtain ⟨j, e, q1, q2, q⟩ := q1
  subst e
  cases r1 with
  | cons r rr =>
    cases rr
    obtain ⟨t, rfl⟩ := r
    exact call_range_1 (range_it I1 (by omega) (by omega) q1 q2 (by simpa using q))
/-- W: the invariant by the turn and a measure; N: what the body is to reach -/
def tFor (wi : TI) (g : TG) (tb : TS) : TS := fun D σ H => wi σ H fun J H1 => ∃ W : Nat → Nat → St → Hp → Prop, (∃ m, W 0 m σ H1) ∧ ∀ i m σ H, W i m σ H →
  (J.stop i H ∧ D.nx σ H) ∨ (J.go i H ∧ ∃ N : St → Hp → Prop, (∀ σ' H', N σ' H' → ∃ m', m' < m ∧ W (i + 1) m' σ' H') ∧ ∀ x H', J.yld i H x H' → g x σ H' fun σ2 H2 => tb { D with nx := N, ct := N, bk := D.nx } σ2 H2)
/-- the records at fp as they stand -/
def pinsAt (fp : List Addr) (h : Heap) : List (Addr × Obj) := fp.filterMap fun b => (h.get? b).map fun o => (b, o)
theorem mem_pinsAt {fp : List Addr} {h : Heap} {b : Addr} {o : Obj} (hb : b ∈ fp) (e : h.get? b = some o) : (b, o) ∈ pinsAt fp h := List.mem_filterMap.mpr ⟨b, hb, by rw [e]; rfl⟩
theorem of_pinsAt {fp : List Addr} {h : Heap} {p : Addr × Obj} (hp : p ∈ pinsAt fp h) : p.1 ∈ fp ∧ h.get? p.1 = some p.2 := by
  obtain ⟨b, hb, e⟩ := List.mem_filterMap.mp hp
  cases q : h.get? b with
  | none => rw [q] at e; cases e
  | some o =>
    rw [q] at e
    have e' : (b, o) = p := Option.some.inj e
    subst e'
    exact ⟨hb, q⟩
theorem Inv.pinned {pins : List (Addr × Obj)} {σ : St} {H : Hp} {s : Shared} {fp : List Addr} (I : Inv X pins σ H s) (hf : ∀ b ∈ fp, FpOk X pins H b) (ho : ∀ b ∈ fp, ∃ o, s.heap.get? b = some o ∧ ∀ v, o.data ≠ .cell v) : Inv X (pins ++ pinsAt fp s.heap) σ H s :=
  I.pins_of fun p hp => (List.mem_append.mp hp).elim (fun z => I.pin p (List.mem_append_right _ z)) fun z => by
    obtain ⟨hb, e⟩ := of_pinsAt z
    obtain ⟨f0, f1, f2, _⟩ := hf p.1 hb
    obtain ⟨o, e', d⟩ := ho p.1 hb
    rw [e] at e'; cases e'
    exact ⟨e, f0, f1, f2, d⟩
theorem Inv.unpinned {pins pl : List (Addr × Obj)} {σ : St} {H : Hp} {s : Shared} (I : Inv X (pins ++ pl) σ H s) : Inv X pins σ H s := I.pins_of fun p hp => I.pin p (List.mem_append_right _ (List.mem_append_left _ hp))
theorem ps_for {iter : Expr} {body : List Stmt} {wi : TI} {g : TG} {tb : TS} {pos : Pos} (hp : PassesOwn (model X.prog X.w) X.A X.env X.xe) (hc : X.calm = true) (hi : PI X tg iter wi) (hg : PG X tg g) (hb : PSs X body tb)
    (hs : ∀ x, foldedSetIterable iter X.env x = pure x := by intro _; rfl) : PS X (.For tg iter body [] pos) (tFor wi g tb) := by
  intro pins s σ H D I h
  refine wpAny_For (thn (hi pins s σ H _ I h) fun v s1 h1 => thn h1 fun itv s2 h2 => ?_) hs
  obtain ⟨it, fp, tn, J, H2, e, I2, T, st2, f2, W, ⟨m0, w0⟩, turn⟩ := h2
  subst e
  -- what stays true of the iterator's objects through the loop
  have stat : ∀ {H' : Hp}, (∀ b ∈ fp, H' b = none) → ∀ b ∈ fp, FpOk X pins H' b := fun hn b hb => ⟨hn b hb, (f2 b hb).2⟩
  refine codeAny_forLoop_any (fun n s' => ∃ i σ' H', Inv X pins σ' H' s' ∧ tn i s'.heap ∧ (∀ b ∈ fp, H' b = none) ∧ W i n σ' H') ?_ m0 ⟨0, σ, H2, I2, st2, fun b hb => (f2 b hb).1, w0⟩
  rintro n s3 ⟨i, σ3, H3, I3, st3, fr3, w3⟩
  rcases turn i n σ3 H3 w3 with ⟨stop, qn⟩ | ⟨go, N, hN, step⟩
  · refine wpAny_passesOwn hp (thn (T.done X rfl rfl rfl hc i pins s3 σ3 H3 X.xe I3 (stat fr3) st3 stop) fun r s4 ⟨hr, I4⟩ => ?_)
    subst hr
    exact wpAny_execs_nil ⟨σ3, H3, I4, qn⟩
  · refine wpAny_passesOwn hp (thn (T.item X rfl rfl rfl hc i pins s3 σ3 H3 X.xe I3 (stat fr3) st3 go) fun r s4 ⟨u, hr, h4⟩ => ?_)
    subst hr
    refine wpAny_passesOwn hp (thn h4 fun _ s5 ⟨x, H5, I5, r5, y5, st5, fr5⟩ => ?_)
    have I5' := I5.pinned (stat fr5) (T.obj _ _ st5)
    refine wpAny_passesOwn hp (thn (hg _ s5 σ3 H5 x u _ I5' r5 (step x H5 y5)) fun _ s6 ⟨σ6, H6, I6, q6⟩ => ?_)
    refine wpAny_passesOwn hp (thn (hb _ s6 σ6 H6 _ I6 q6) fun f s7 q7 => ?_)
    have again : ∀ {σ7 : St} {H7 : Hp}, Inv X (pins ++ pinsAt fp s5.heap) σ7 H7 s7 → N σ7 H7 → ∃ m, m < n ∧ ∃ i σ' H', Inv X pins σ' H' s7 ∧ tn i s7.heap ∧ (∀ b ∈ fp, H' b = none) ∧ W i m σ' H' := fun {σ7 H7} I7 n7 => by
      obtain ⟨m', hm, w7⟩ := hN σ7 H7 n7
      refine ⟨m', hm, i + 1, σ7, H7, I7.unpinned, T.keep _ _ _ st5 fun b hb o e => (I7.pin (b, o) (List.mem_append_right _ (List.mem_append_right _ (mem_pinsAt hb e)))).1, fun b hb => ?_, w7⟩
      obtain ⟨o, e, d⟩ := T.obj _ _ st5 b hb
      exact (I7.pin (b, o) (List.mem_append_right _ (List.mem_append_right _ (mem_pinsAt hb e)))).2.1
    cases f with
    | next => obtain ⟨σ7, H7, I7, n7⟩ := q7; exact again I7 n7
    | cont => obtain ⟨σ7, H7, I7, n7⟩ := q7; exact again I7 n7
    | brk => obtain ⟨σ7, H7, I7, q7⟩ := q7; exact ⟨σ7, H7, I7.unpinned, q7⟩
    | ret v => obtain ⟨x7, σ7, H7, I7, r7, q7⟩ := q7; exact ⟨x7, σ7, H7, I7.unpinned, r7, q7⟩
end
/-- over a list that the body leaves as it is -/
theorem for_list {K : PySem.W.Frag} {a : Addr} {xs : List V} {g : TG} {tb : TS} {D : Ends} {σ : St} {H : Hp} (Pv : Nat → St → Hp → Prop) (h0 : Pv 0 σ H) (hl : ∀ i σ H, i ≤ xs.length → Pv i σ H → SqL K H a xs)
    (hs : ∀ i x σ H, xs[i]? = some x → Pv i σ H → g x σ H fun σ2 H2 => tb { D with nx := Pv (i + 1), ct := Pv (i + 1), bk := D.nx } σ2 H2) (hd : ∀ σ H, Pv xs.length σ H → D.nx σ H) :
    ∃ W : Nat → Nat → St → Hp → Prop, (∃ m, W 0 m σ H) ∧ ∀ i m σ H, W i m σ H →
      ((Itl K a).stop i H ∧ D.nx σ H) ∨ ((Itl K a).go i H ∧ ∃ N : St → Hp → Prop, (∀ σ' H', N σ' H' → ∃ m', m' < m ∧ W (i + 1) m' σ' H') ∧ ∀ x H', (Itl K a).yld i H x H' → g x σ H' fun σ2 H2 => tb { D with nx := N, ct := N, bk := D.nx } σ2 H2) := by
  refine ⟨fun i m σ H => m = xs.length - i ∧ i ≤ xs.length ∧ Pv i σ H, ⟨xs.length, by simp, Nat.zero_le _, h0⟩, ?_⟩
  rintro i m σ H ⟨rfl, hi, p⟩
  have q := hl i σ H hi p
  by_cases hlt : i < xs.length
  · refine .inr ⟨⟨xs, xs[i], q, by simp [hlt]⟩, Pv (i + 1), fun σ' H' p' => ⟨xs.length - (i + 1), by omega, rfl, hlt, p'⟩, fun x H' y => ?_⟩
    obtain ⟨e, y⟩ := y
    subst e
    exact hs i x σ _ (y xs q) p
  · have e : i = xs.length := by omega
    subst e
    exact .inl ⟨⟨xs, q, Nat.le_refl _⟩, hd σ H p⟩
theorem for_range {lo : Int} {n : Nat} {g : TG} {tb : TS} {D : Ends} {σ : St} {H : Hp} (Pv : Nat → St → Hp → Prop) (h0 : Pv 0 σ H)
    (hs : ∀ i σ H, i < n → Pv i σ H → g (.int (lo + i)) σ H fun σ2 H2 => tb { D with nx := Pv (i + 1), ct := Pv (i + 1), bk := D.nx } σ2 H2) (hd : ∀ σ H, Pv n σ H → D.nx σ H) :
    ∃ W : Nat → Nat → St → Hp → Prop, (∃ m, W 0 m σ H) ∧ ∀ i m σ H, W i m σ H →
      ((Itr lo n).stop i H ∧ D.nx σ H) ∨ ((Itr lo n).go i H ∧ ∃ N : St → Hp → Prop, (∀ σ' H', N σ' H' → ∃ m', m' < m ∧ W (i + 1) m' σ' H') ∧ ∀ x H', (Itr lo n).yld i H x H' → g x σ H' fun σ2 H2 => tb { D with nx := N, ct := N, bk := D.nx } σ2 H2) := by
  refine ⟨fun i m σ H => m = n - i ∧ i ≤ n ∧ Pv i σ H, ⟨n, by simp, Nat.zero_le _, h0⟩, ?_⟩
  rintro i m σ H ⟨rfl, hi, p⟩
  by_cases hlt : i < n
  · refine .inr ⟨hlt, Pv (i + 1), fun σ' H' p' => ⟨n - (i + 1), by omega, rfl, hlt, p'⟩, fun x H' y => ?_⟩
    obtain ⟨e, y⟩ := y
    subst e y
    exact hs i σ _ hlt p
  · have e : i = n := by omega
    subst e
    exact .inl ⟨Nat.le_refl _, hd σ H p⟩
end L2
namespace L2
open PySem PySem.Spec PyProof.Rows
abbrev R2 := V → V → Hp → VK → Prop
/-- a two-place operation on values: f is binaryOp op, inplaceOp op or compareOp op -/
def OpR (X : Cx) (f : Value → Value → Sem Value) (r : R2) : Prop :=
  ∀ (pins : List (Addr × Obj)) (s : Shared) (σ : St) (H : Hp) (x y : V) (v u : Value) (Q : VK), Inv X pins σ H s → RelV x v → RelV y u → r x y H Q →
    wpAny (model X.prog X.w) X.A (f v u) (EP X pins σ Q) X.xe s
/-- a one-place operation -/
def UnR (X : Cx) (f : Value → Sem Value) (r : V → Hp → VK → Prop) : Prop :=
  ∀ (pins : List (Addr × Obj)) (s : Shared) (σ : St) (H : Hp) (x : V) (v : Value) (Q : VK), Inv X pins σ H s → RelV x v → r x H Q →
    wpAny (model X.prog X.w) X.A (f v) (EP X pins σ Q) X.xe s
/-- a call of a value that is known (a builtin, a type) with values -/
def CallR (X : Cx) (f : Value) (r : List V → Hp → VK → Prop) : Prop :=
  ∀ (pins : List (Addr × Obj)) (s : Shared) (σ : St) (H : Hp) (xs : List V) (us : List Value) (Q : VK), Inv X pins σ H s → Vals xs us → r xs H Q →
    wpAny (model X.prog X.w) X.A (call f us) (EP X pins σ Q) X.xe s
/-- a value's truth -/
def TruR (X : Cx) (r : V → Hp → (Bool → Hp → Prop) → Prop) : Prop :=
  ∀ (pins : List (Addr × Obj)) (s : Shared) (σ : St) (H : Hp) (x : V) (v : Value) (Q : Bool → Hp → Prop), Inv X pins σ H s → RelV x v → r x H Q →
    wpAny (model X.prog X.w) X.A (truthy v) (TP X pins σ Q) X.xe s
def tOp (r : R2) (ta tb : TE) : TE := fun σ H Q => ta σ H fun x H1 => tb σ H1 fun y H2 => r x y H2 Q
def tUn (r : V → Hp → VK → Prop) (ta : TE) : TE := fun σ H Q => ta σ H fun x H1 => r x H1 Q
/-- ints in, under C, and a value out -/
def rI (C : Int → Int → Prop) (g : Int → Int → V) : R2 := fun x y H Q => ∃ i j, x = .int i ∧ y = .int j ∧ C i j ∧ Q (g i j) H
def rI0 (g : Int → Int → V) : R2 := fun x y H Q => ∃ i j, x = .int i ∧ y = .int j ∧ Q (g i j) H
def rU (g : Int → V) : V → Hp → VK → Prop := fun x H Q => ∃ i, x = .int i ∧ Q (g i) H
section
variable {X : Cx} {a b c : Expr} {ta tb tc : TE} {pos : Pos}
theorem binT (ha : PE X a ta) (hb : PE X b tb) {pins : List (Addr × Obj)} {s : Shared} {σ : St} {H : Hp} {R : V → V → Hp → Prop} (I : Inv X pins σ H s)
    (h : ta σ H fun x H1 => tb σ H1 fun y H2 => R x y H2) {Q : Value → Shared → Prop} {f : Value → Value → Sem Value}
    (hf : ∀ v u s2 x y H2, Inv X pins σ H2 s2 → RelV x v → RelV y u → R x y H2 → wpAny (model X.prog X.w) X.A (f v u) Q X.xe s2) :
    wpAny (model X.prog X.w) X.A (eval a X.env) (fun v s₁ => wpAny (model X.prog X.w) X.A (eval b X.env) (fun u s₂ => wpAny (model X.prog X.w) X.A (f v u) Q X.xe s₂) X.xe s₁) X.xe s := by
  refine thn (ha pins s σ H _ I h) fun v s1 ⟨x, H1, I1, r1, q1⟩ => ?_
  refine thn (hb pins s1 σ H1 _ I1 q1) fun u s2 ⟨y, H2, I2, r2, q2⟩ => ?_
  exact hf v u s2 x y H2 I2 r1 r2 q2
theorem pe_op {op : Operator} {r : R2} (ho : OpR X (binaryOp op) r) (ha : PE X a ta) (hb : PE X b tb) : PE X (.BinOp a op b pos) (tOp r ta tb) := by
  intro pins s σ H Q I h
  exact wpAny_BinOp (binT ha hb I h fun v u s2 x y H2 I2 rx ry q => ho pins s2 σ H2 x y v u Q I2 rx ry q)
theorem pe_un {op : UnaryOp} {r : V → Hp → VK → Prop} (ho : UnR X (unaryOp op) r) (ha : PE X a ta) : PE X (.UnaryOp op a pos) (tUn r ta) := by
  intro pins s σ H Q I h
  exact UnaryOp_ (thn (ha pins s σ H _ I h) fun v s1 ⟨x, H1, I1, r1, q1⟩ => ho pins s1 σ H1 x v Q I1 r1 q1)
theorem opI {f : Value → Value → Sem Value} {C : Int → Int → Prop} {g : Int → Int → Int}
    (rule : ∀ (i j : Int) (t u : Tok) (s : Shared) (Q : Value → Shared → Prop) (E : Value → Shared → Prop), C i j → Q (.int (g i j) s.toks) { s with toks := s.toks + 1 } → wpAny (model X.prog X.w) X.A (f (.int i t) (.int j u)) Q E s) :
    OpR X f (rI C fun i j => .int (g i j)) := by
  intro pins s σ H x y v u Q I rx ry h
  obtain ⟨i, j, rfl, rfl, hc, q⟩ := h
  obtain ⟨t, rfl⟩ := rx
  obtain ⟨t', rfl⟩ := ry
  exact rule i j t t' s _ _ hc ⟨.int (g i j), H, I.tok _, ⟨_, rfl⟩, q⟩
theorem opI0 {f : Value → Value → Sem Value} {g : Int → Int → Int}
    (rule : ∀ (i j : Int) (t u : Tok) (s : Shared) (Q : Value → Shared → Prop) (E : Value → Shared → Prop), Q (.int (g i j) s.toks) { s with toks := s.toks + 1 } → wpAny (model X.prog X.w) X.A (f (.int i t) (.int j u)) Q E s) :
    OpR X f (rI0 fun i j => .int (g i j)) := by
  intro pins s σ H x y v u Q I rx ry h
  obtain ⟨i, j, rfl, rfl, q⟩ := h
  obtain ⟨t, rfl⟩ := rx
  obtain ⟨t', rfl⟩ := ry
  exact rule i j t t' s _ _ ⟨.int (g i j), H, I.tok _, ⟨_, rfl⟩, q⟩
theorem opB0 {f : Value → Value → Sem Value} {g : Int → Int → Bool}
    (rule : ∀ (i j : Int) (t u : Tok) (s : Shared) (Q : Value → Shared → Prop) (E : Value → Shared → Prop), Q (.bool (g i j)) s → wpAny (model X.prog X.w) X.A (f (.int i t) (.int j u)) Q E s) :
    OpR X f (rI0 fun i j => .bl (g i j)) := by
  intro pins s σ H x y v u Q I rx ry h
  obtain ⟨i, j, rfl, rfl, q⟩ := h
  obtain ⟨t, rfl⟩ := rx
  obtain ⟨t', rfl⟩ := ry
  exact rule i j t t' s _ _ ⟨.bl (g i j), H, I, rfl, q⟩
def CDiv (i j : Int) : Prop := 0 < j ∧ j < 1073741824
def CDivN (i j : Int) : Prop := j ≠ 0 ∧ j.natAbs < 1073741824
def CPow (i j : Int) : Prop := 0 ≤ j ∧ j ≤ 1000000 ∧ i.natAbs < 2 ^ 64
def CMul (i j : Int) : Prop := (-(2 ^ 64) < i ∧ i < 2 ^ 64) ∨ (-(2 ^ 64) < j ∧ j < 2 ^ 64)
theorem op_add : OpR X (binaryOp .Add) (rI0 fun i j => .int (i + j)) := opI0 fun _ _ _ _ _ _ _ q => add_int q
theorem op_sub : OpR X (binaryOp .Sub) (rI0 fun i j => .int (i - j)) := opI0 fun _ _ _ _ _ _ _ q => sub_int q
/-- % by a positive divisor of any size -/
theorem op_mod : OpR X (binaryOp .Mod) (rI (fun _ j => 0 < j) fun i j => .int (i % j)) := opI fun i j _ _ _ _ _ hc q => by
  have h1 : (0 : Int) < j := hc
  exact mod_int' (by omega) (by rw [Int.fmod_eq_emod_of_nonneg i (by omega)]; exact q)
theorem unI {f : Value → Sem Value} {g : Int → Int}
    (rule : ∀ (i : Int) (t : Tok) (s : Shared) (Q : Value → Shared → Prop) (E : Value → Shared → Prop), Q (.int (g i) s.toks) { s with toks := s.toks + 1 } → wpAny (model X.prog X.w) X.A (f (.int i t)) Q E s) :
    UnR X f (rU fun i => .int (g i)) := by
  intro pins s σ H x v Q I rx h
  obtain ⟨i, rfl, q⟩ := h
  obtain ⟨t, rfl⟩ := rx
  exact rule i t s _ _ ⟨.int (g i), H, I.tok _, ⟨_, rfl⟩, q⟩
theorem un_neg : UnR X (unaryOp .USub) (rU fun i => .int (-i)) := unI fun _ _ _ _ _ q => neg_int q
end
/-- the scalars that == tells apart as data does -/
def scal : V → V → Bool
  | .non, .non => true | .non, .int _ => true | .int _, .non => true | .non, .bl _ => true | .bl _, .non => true | .non, .str _ => true | .str _, .non => true
  | .int _, .int _ => true | .bl _, .bl _ => true | .str _, .str _ => true | .byt _, .byt _ => true
  | .int _, .str _ => true | .str _, .int _ => true | .bl _, .str _ => true | .str _, .bl _ => true
  | _, _ => false
def rEq : R2 := fun x y H Q => scal x y = true ∧ Q (.bl (decide (x = y))) H
def rNe : R2 := fun x y H Q => scal x y = true ∧ Q (.bl (!decide (x = y))) H
theorem dec_int {i j : Int} : decide (V.int i = V.int j) = (i == j) := by
  rw [Bool.eq_iff_iff]
  simp
theorem dec_bl {i j : Bool} : decide (V.bl i = V.bl j) = (i == j) := by
  rw [Bool.eq_iff_iff]
  simp
theorem dec_str {i j : Str} : decide (V.str i = V.str j) = (i == j) := by
  rw [Bool.eq_iff_iff]
  simp
theorem dec_byt {i j : Array UInt8} : decide (V.byt i = V.byt j) = (i.toList == j.toList) := by
  rw [Bool.eq_iff_iff]
  cases i
  cases j
  simp
section
variable {X : Cx} {a b c : Expr} {ta tb tc : TE} {pos : Pos}
theorem fin_bl {pins : List (Addr × Obj)} {σ : St} {H : Hp} {s : Shared} {Q : VK} {k k' : Bool} (I : Inv X pins σ H s) (q : Q (.bl k) H) (e : k = k') : EP X pins σ Q (.bool k') s := by
  subst e
  exact ⟨.bl k, H, I, rfl, q⟩
theorem op_eq : OpR X (compareOp .Eq) rEq := by
  intro pins s σ H x y v u Q I rx ry h
  obtain ⟨hs, q⟩ := h
  cases x with
  | non =>
    cases rx
    cases y with
    | non => cases ry; exact PySem.EqNone.eq_none_none (fin_bl I q (by simp))
    | bl j => cases ry; exact PySem.EqNone.eq_none_bool (fin_bl I q (by simp))
    | int j => obtain ⟨t', rfl⟩ := ry; exact PySem.EqNone.eq_none_int (fin_bl I q (by simp))
    | str j => obtain ⟨t', rfl⟩ := ry; exact PySem.EqNone.eq_none_str (fin_bl I q (by simp))
    | _ => exact absurd (show false = true from hs) Bool.false_ne_true
  | bl i =>
    cases rx
    cases y with
    | non => cases ry; exact PySem.EqNone.eq_bool_none (fin_bl I q (by simp))
    | bl j => cases ry; exact eq_bool (fin_bl I q dec_bl)
    | str j => obtain ⟨t', rfl⟩ := ry; exact PySem.EqMixed.eq_bool_str (fin_bl I q (by simp))
    | _ => exact absurd (show false = true from hs) Bool.false_ne_true
  | int i =>
    obtain ⟨t, rfl⟩ := rx
    cases y with
    | non => cases ry; exact PySem.EqNone.eq_int_none (fin_bl I q (by simp))
    | int j => obtain ⟨t', rfl⟩ := ry; exact eq_int (fin_bl I q dec_int)
    | str j => obtain ⟨t', rfl⟩ := ry; exact PySem.EqMixed.eq_int_str (fin_bl I q (by simp))
    | _ => exact absurd (show false = true from hs) Bool.false_ne_true
  | str i =>
    obtain ⟨t, rfl⟩ := rx
    cases y with
    | non => cases ry; exact PySem.EqNone.eq_str_none (fin_bl I q (by simp))
    | bl j => cases ry; exact PySem.EqMixed.eq_str_bool (fin_bl I q (by simp))
    | int j => obtain ⟨t', rfl⟩ := ry; exact PySem.EqMixed.eq_str_int (fin_bl I q (by simp))
    | str j => obtain ⟨t', rfl⟩ := ry; exact eq_str (fin_bl I q dec_str)
    | _ => exact absurd (show false = true from hs) Bool.false_ne_true
  | byt i =>
    obtain ⟨t, rfl⟩ := rx
    cases y with
    | byt j => obtain ⟨t', rfl⟩ := ry; exact PySem.W.eq_bytes (fin_bl I q dec_byt)
    | _ => exact absurd (show false = true from hs) Bool.false_ne_true
  | _ => cases y <;> exact absurd (show false = true from hs) Bool.false_ne_true
theorem op_ne : OpR X (compareOp .NotEq) rNe := by
  intro pins s σ H x y v u Q I rx ry h
  obtain ⟨hs, q⟩ := h
  cases x with
  | non =>
    cases rx
    cases y with
    | non => cases ry; exact PySem.EqNone.ne_none_none (fin_bl I q (by simp))
    | bl j => cases ry; exact PySem.EqNone.ne_none_bool (fin_bl I q (by simp))
    | int j => obtain ⟨t', rfl⟩ := ry; exact PySem.EqNone.ne_none_int (fin_bl I q (by simp))
    | str j => obtain ⟨t', rfl⟩ := ry; exact PySem.EqNone.ne_none_str (fin_bl I q (by simp))
    | _ => exact absurd (show false = true from hs) Bool.false_ne_true
  | bl i =>
    cases rx
    cases y with
    | non => cases ry; exact PySem.EqNone.ne_bool_none (fin_bl I q (by simp))
    | bl j => cases ry; exact ne_bool (fin_bl I q (congrArg not dec_bl))
    | str j => obtain ⟨t', rfl⟩ := ry; exact PySem.EqMixed.ne_bool_str (fin_bl I q (by simp))
    | _ => exact absurd (show false = true from hs) Bool.false_ne_true
  | int i =>
    obtain ⟨t, rfl⟩ := rx
    cases y with
    | non => cases ry; exact PySem.EqNone.ne_int_none (fin_bl I q (by simp))
    | int j => obtain ⟨t', rfl⟩ := ry; exact ne_int (fin_bl I q (congrArg not dec_int))
    | str j => obtain ⟨t', rfl⟩ := ry; exact PySem.EqMixed.ne_int_str (fin_bl I q (by simp))
    | _ => exact absurd (show false = true from hs) Bool.false_ne_true
  | str i =>
    obtain ⟨t, rfl⟩ := rx
    cases y with
    | non => cases ry; exact PySem.EqNone.ne_str_none (fin_bl I q (by simp))
    | bl j => cases ry; exact PySem.EqMixed.ne_str_bool (fin_bl I q (by simp))
    | int j => obtain ⟨t', rfl⟩ := ry; exact PySem.EqMixed.ne_str_int (fin_bl I q (by simp))
    | str j => obtain ⟨t', rfl⟩ := ry; exact ne_str (fin_bl I q (congrArg not dec_str))
    | _ => exact absurd (show false = true from hs) Bool.false_ne_true
  | byt i =>
    obtain ⟨t, rfl⟩ := rx
    cases y with
    | byt j => obtain ⟨t', rfl⟩ := ry; exact PySem.W.ne_bytes (fin_bl I q (congrArg not dec_byt))
    | _ => exact absurd (show false = true from hs) Bool.false_ne_true
  | _ => cases y <;> exact absurd (show false = true from hs) Bool.false_ne_true
theorem op_lt : OpR X (compareOp .Lt) (rI0 fun i j => .bl (decide (i < j))) := opB0 fun _ _ _ _ _ _ _ q => lt_int q
theorem op_gt : OpR X (compareOp .Gt) (rI0 fun i j => .bl (decide (j < i))) := opB0 fun _ _ _ _ _ _ _ q => gt_int q
/-- is, is not of two objects that are tracked lists or instances -/
def isObj : HO → Bool
  | .lst _ => true
  | .ins _ _ _ => true
  | _ => false
theorem nomark (b : Expr) {op : CmpOp} (h : op ≠ .In := by decide) (h2 : op ≠ .NotIn := by decide) : behindInMarks op b = false := by
  have e1 : (op == CmpOp.In) = false := by cases op <;> first | rfl | exact absurd rfl h
  have e2 : (op == CmpOp.NotIn) = false := by cases op <;> first | rfl | exact absurd rfl h2
  cases b <;> simp [behindInMarks, e1, e2]
/-- a comparison as a value; hm: nomark b, or (for in, not in) by with_unfolding_all rfl -/
theorem pe_cmpR {op : CmpOp} {r : R2} (ho : OpR X (compareOp op) r) (ha : PE X a ta) (hb : PE X b tb) (hm : behindInMarks op b = false) : PE X (.Compare a [op] [b] pos) (tOp r ta tb) := by
  intro pins s σ H Q I h
  exact wpAny_Compare1 (binT ha hb I h fun v u s2 x y H2 I2 rx ry q => ho pins s2 σ H2 x y v u Q I2 rx ry q) hm
/-- a reading of a value as a test -/
def tTest (t : TE) : TT := fun σ H Q => t σ H fun x H' => ∃ k, x = .bl k ∧ Q k H'
theorem pt_cmpR {op : CmpOp} {r : R2} (ho : OpR X (compareOp op) r) (ha : PE X a ta) (hb : PE X b tb) (hm : behindInMarks op b = false) : PT X (.Compare a [op] [b] pos) (tTest (tOp r ta tb)) := by
  intro pins s σ H Q I h
  refine wpAny_isTrue_Compare1 (thn (ha pins s σ H _ I h) fun v s1 ⟨x, H1, I1, r1, q1⟩ => thn (hb pins s1 σ H1 _ I1 q1) fun u s2 ⟨y, H2, I2, r2, q2⟩ =>
    thn (ho pins s2 σ H2 x y v u _ I2 r1 r2 q2) fun c s3 ⟨z, H3, I3, r3, k, e, q3⟩ => ?_) hm
  subst e
  cases r3
  exact wpAny_truthy_bool ⟨H3, I3, q3⟩
/-- a op1 b op2 c -/
def tChain (r r' : R2) (ta tb tc : TE) : TE := fun σ H Q => ta σ H fun x H1 => tb σ H1 fun y H2 => r x y H2 fun z H3 => ∃ k, z = .bl k ∧
  (if k = true then tc σ H3 fun w' H4 => r' y w' H4 Q else Q (.bl false) H3)
/-- a value's truth by the abstract heap -/
def TruV (K : PySem.W.Frag) (x : V) (H : Hp) (k : Bool) : Prop :=
  match x with
  | .non => k = false
  | .bl b => k = b
  | .int i => k = (i != 0)
  | .str y => y.length ≤ sizeLine ∧ k = ((y.length : Int) != 0)
  | .byt y => y.size ≤ sizeLine ∧ k = ((y.size : Int) != 0)
  | .ref p => (∃ xs, SqL K H p xs ∧ k = !xs.isEmpty) ∨ (∃ xs, SqT K H p xs ∧ k = !xs.isEmpty) ∨ ∃ kvs, H p = some (.dK kvs) ∧ k = !kvs.isEmpty
  | _ => False
theorem line63 : (sizeLine : Nat) < 2 ^ 63 := by rw [sizeLine_eq]; decide
theorem op_add_str : OpR X (binaryOp .Add) (fun x y H Q => ∃ i j, x = .str i ∧ y = .str j ∧ i.length + j.length ≤ sizeLine ∧ Q (.str (i ++ j)) H) := by
  intro pins s σ H x y v u Q I rx ry h
  obtain ⟨i, j, rfl, rfl, hz, q⟩ := h
  obtain ⟨t, rfl⟩ := rx
  obtain ⟨t', rfl⟩ := ry
  exact add_str (fun t' tk => ⟨.str (i ++ j), H, I.tok _, ⟨_, rfl⟩, q⟩) hz
def PlainIxT (b : Expr) : Prop := ∀ o i, subscripted b false o i = operate [o, i] (getItem o i)
theorem vals1 {x : V} {us : List Value} (r : Vals [x] us) : ∃ u, us = [u] ∧ RelV x u := by
  cases r with
  | cons r1 r2 => cases r2; exact ⟨_, rfl, r1⟩
theorem vals2 {x y : V} {us : List Value} (r : Vals [x, y] us) : ∃ u w', us = [u, w'] ∧ RelV x u ∧ RelV y w' := by
  cases r with
  | cons r1 r2 =>
    cases r2 with
    | cons r3 r4 => cases r4; exact ⟨_, _, rfl, r1, r3⟩
theorem call_int1 : CallR X (.type "int") (fun xs H Q => (∃ i, xs = [.int i] ∧ Q (.int i) H) ∨ ∃ k, xs = [.bl k] ∧ Q (.int (if k then 1 else 0)) H) := by
  intro pins s σ H xs us Q I r h
  rcases h with ⟨i, rfl, q⟩ | ⟨k, rfl, q⟩
  · obtain ⟨u, rfl, t, rfl⟩ := vals1 r
    exact call_int_int ⟨.int i, H, I, ⟨_, rfl⟩, q⟩
  · obtain ⟨u, rfl, r1⟩ := vals1 r
    cases r1
    exact call_int_bool ⟨.int (if k then 1 else 0), H, I.tok _, ⟨_, rfl⟩, q⟩
/-- len of a str, a bytes, a list, a tuple -/
def LenV (K : PySem.W.Frag) (x : V) (H : Hp) (n : Nat) : Prop :=
  match x with
  | .str y => y.length ≤ sizeLine ∧ n = y.length
  | .byt y => y.size ≤ sizeLine ∧ n = y.size
  | .ref p => (∃ xs, SqL K H p xs ∧ n = xs.length) ∨ ∃ xs, SqT K H p xs ∧ n = xs.length
  | _ => False
end
end L2
namespace L2
open PySem PySem.Spec PyProof.Rows
structure ObjM (h : Heap) (x dx C : Addr) (mA : Str → Option Value) : Prop where
  obj : h.get? x = some (PySem.W.instObj C dx)
  ns : h.Ns1 dx mA
  ne : dx ≠ x
theorem lookIn_ns {h : Heap} {dx : Addr} {mA : Str → Option Value} (n : h.Ns1 dx mA) : ∃ od, h.get? dx = some od ∧ ∀ name, PySem.W.lookIn name od = some (mA name) := by
  obtain ⟨o, es, ep, ho, hd, hk, _, hm⟩ := n
  refine ⟨o, ho, fun name => ?_⟩
  have e := hm name
  unfold nsFind findBy at e
  rw [← Array.find?_toList] at e
  unfold PySem.W.lookIn
  rw [hd]
  dsimp only
  split
  · rename_i y q
    rw [q] at e
    exact congrArg some e
  · rename_i q
    rw [q] at e
    have a : es.toList.any (·.refKey) = false := by
      rw [List.any_eq_false]
      intro y hy
      obtain ⟨z, t, hkey⟩ := hk y (Array.mem_toList_iff.mp hy)
      simp [DictEntry.refKey, hkey]
    have a' : ¬ es.toList.any (·.refKey) = true := by rw [a]; exact Bool.false_ne_true
    rw [if_neg a']
    exact congrArg some e
theorem ObjM.look {h : Heap} {x dx C : Addr} {mA : Str → Option Value} (I : ObjM h x dx C mA) : ∃ od, PySem.W.InstAt h x (PySem.W.instObj C dx) C (some od) ∧ ∀ name, PySem.W.lookIn name od = some (mA name) :=
  let ⟨od, ho, hl⟩ := lookIn_ns I.ns
  ⟨od, ⟨I.obj, rfl, rfl, ho⟩, hl⟩
section
variable {prog : Program} {w : World} {A : Around} {E : Value → Shared → Prop} {s : Shared} {K : PySem.W.Frag} {x dx C f : Addr} {mA : Str → Option Value} {name : Str} {v : Value}
theorem get_map {expr : Bool} {Q : Value → Shared → Prop} (X : K.In s.heap) (I : ObjM s.heap x dx C mA) (hg : PySem.W.plainGet K C name = true) (hh : PySem.W.hasDictIn K C = true)
    (ha : PySem.W.findIn K (.ref C) name = some none) (hv : mA name = some v) (hv' : PySem.W.handedIn v = true) (h : Q v { s with toks := s.toks + 1 }) :
    wpAny (model prog w) A (getAttr (.ref x) name expr) Q E s := by
  obtain ⟨od, J, hl⟩ := I.look
  exact PySem.W.get_value X J (PySem.W.plainGet_of hg).1 (PySem.W.findObj_own hh ha rfl (by rw [hl, hv])) hv' h
theorem get_meth {pl : Sem Bool} {Q : Value × List Value → Shared → Prop} (X : K.In s.heap) (I : ObjM s.heap x dx C mA) (hg : PySem.W.plainGet K C name = true)
    (hf : PySem.W.findIn K (.ref C) name = some (some (.ref f))) (ht : PySem.W.isFn K (.ref f) = true) (hv : mA name = none) (h : Q (.ref f, [.ref x]) s) :
    wpAny (model prog w) A (getMethod (.ref x) name pl) Q E s := by
  obtain ⟨od, J, hl⟩ := I.look
  exact PySem.W.method_fn X J (PySem.W.plainGet_of hg).1 (PySem.W.plainGet_of hg).2 hf (beq_iff_eq.mp ht) (by show (PySem.W.lookIn name od).map (·.isSome) = some false; rw [hl, hv]; rfl) h
theorem set_map {ns : List Str} {Q : Unit → Shared → Prop} (X : K.In s.heap) (I : ObjM s.heap x dx C mA)
    (hs : PySem.W.findIn K (.ref C) "__setattr__" = some (some (.builtin "object.__setattr__"))) (hp : PySem.W.plainOver K C = true) (ht : PySem.W.takerIn K C name = some none) (hh : PySem.W.hasDictIn K C = true)
    (hw : PySem.Within mA ns) (hsz : ns.length ≤ sizeLine)
    (h : ∀ h', ObjM h' x dx C (fun y => if y = name then some v else mA y) → Heap.SameBut dx s.heap h' → Q () { s with heap := h', toks := s.toks + 2 }) :
    wpAny (model prog w) A (setAttr (.ref x) name v) Q E s := by
  obtain ⟨od, J, hl⟩ := I.look
  refine PySem.W.set_plain X J hs (PySem.W.osa_open (s := { s with toks := s.toks + 1 }) (r := none) X J hp ht fun b => ?_)
  obtain ⟨cd, hc, hd'⟩ := PySem.W.any_some hh
  have hx : s.heap.get? x = some ⟨.ref C, some dx, .plain, #[]⟩ := I.obj
  refine wpAny_bind (wpAny_pure (wpAny_bind (wpAny_bind (wpAny_loadPart hx (wpAny_bind (PySem.W.Looks.here (s := { s with toks := s.toks + 1 }) (PySem.W.looks_clsIn X hc) ?_))))))
  rw [hd']
  refine wpAny_pure (a := some dx) (wpAny_bind (wpAny_pure (wpAny_bind ?_)))
  refine wpAny_nsSet1 (s := { s with toks := s.toks + 1 }) I.ns fun h' hn2 hs2 => ?_
  obtain ⟨oD, esD, epD, hoD, hdD, hcD⟩ := hn2.count (PySem.Within.cons name v hw)
  refine wpAny_bind (wpAny_lookBehind hoD (by rw [hdD]; exact pastItsLine_dict (Nat.le_trans hcD (by rw [List.length_cons]; omega))) ?_)
  exact wpAny_pure (h _ ⟨(hs2.2 _ (Ne.symm I.ne)).trans I.obj, hn2, I.ne⟩ hs2)
/-- C(..): the dict at the heap's end, the instance behind it; then its __init__ -/
theorem make_map {R : Result → Shared → Prop} {vs : List Value} {kw : List (Str × Value)} (X : K.In s.heap) (hm : PySem.W.makesIn K C = true)
    (hi : PySem.W.findIn K (.ref C) "__init__" = some (some (.ref f))) (hf : PySem.W.typeIn K (.ref f) = some (.type "function"))
    (h : codeAny (model prog w) (A.under (.builtin "type.__call__" ⟨.ref C :: vs, kw⟩)) (.call (.ref f) ⟨.ref (s.heap.objs.size + 1) :: vs, kw⟩) (PySem.W.InitBack (s.heap.objs.size + 1) R)
      { s with heap := (s.heap.push PySem.W.emptyDict).push (PySem.W.instObj C s.heap.objs.size) }) :
    codeAny (model prog w) A (.call (.ref C) ⟨vs, kw⟩) R s := by
  obtain ⟨hh, g, d, t, os⟩ := s
  exact PySem.W.make_core (PySem.W.makes_of X hm) (PySem.W.looks_findIn X hi) (fun self => PySem.W.bind_fn X self hf) (.inl rfl) h
end
def putF (f : Str) (v : V) : List (Str × V) → List (Str × V)
  | [] => [(f, v)]
  | (g, x) :: r => if g = f then (g, v) :: r else (g, x) :: putF f v r
theorem lookup_putF (f g : Str) (v : V) : ∀ fs : List (Str × V), (putF f v fs).lookup g = if g = f then some v else fs.lookup g
  | [] => by
    show List.lookup g [(f, v)] = _
    by_cases h : g = f
    · have hb : (g == f) = true := beq_iff_eq.mpr h
      simp only [List.lookup, hb, if_pos h]
    · have hb : (g == f) = false := beq_eq_false_iff_ne.mpr h
      simp only [List.lookup, hb, if_neg h]
  | (k, x) :: r => by
    have ih := lookup_putF f g v r
    rw [show putF f v ((k, x) :: r) = (if k = f then (k, v) :: r else (k, x) :: putF f v r) from rfl]
    by_cases hk : k = f
    · rw [if_pos hk]
      by_cases h : g = k
      · have hb : (g == k) = true := beq_iff_eq.mpr h
        simp only [List.lookup, hb, if_pos (h.trans hk)]
      · have hb : (g == k) = false := beq_eq_false_iff_ne.mpr h
        simp only [List.lookup, hb, if_neg (fun e : g = f => h (e.trans hk.symm))]
    · rw [if_neg hk]
      by_cases h : g = k
      · have hb : (g == k) = true := beq_iff_eq.mpr h
        simp only [List.lookup, hb, if_neg (fun e : g = f => hk (h.symm.trans e))]
      · have hb : (g == k) = false := beq_eq_false_iff_ne.mpr h
        simp only [List.lookup, hb]
        exact ih
theorem keys_putF (f : Str) (v : V) : ∀ fs : List (Str × V), f ∈ (putF f v fs).map (·.1) ∧ ∀ g, g ∈ fs.map (·.1) → g ∈ (putF f v fs).map (·.1)
  | [] => ⟨by simp [putF], fun g h => by simp at h⟩
  | (k, x) :: r => by
    obtain ⟨i1, i2⟩ := keys_putF f v r
    rw [show putF f v ((k, x) :: r) = (if k = f then (k, v) :: r else (k, x) :: putF f v r) from rfl]
    by_cases hk : k = f
    · rw [if_pos hk]
      subst hk
      exact ⟨by simp, fun g h => by simpa using h⟩
    · rw [if_neg hk]
      refine ⟨?_, fun g h => ?_⟩
      · rw [List.map_cons]
        exact List.mem_cons_of_mem _ i1
      · rw [List.map_cons] at h ⊢
        rcases List.mem_cons.mp h with e | e
        · exact List.mem_cons.mpr (.inl e)
        · exact List.mem_cons_of_mem _ (i2 g e)
theorem length_putF (f : Str) (v : V) : ∀ fs : List (Str × V), (putF f v fs).length ≤ fs.length + 1
  | [] => by simp [putF]
  | (k, x) :: r => by
    have ih := length_putF f v r
    rw [show putF f v ((k, x) :: r) = (if k = f then (k, v) :: r else (k, x) :: putF f v r) from rfl]
    by_cases hk : k = f
    · rw [if_pos hk, List.length_cons, List.length_cons]; omega
    · rw [if_neg hk, List.length_cons, List.length_cons]; omega
theorem RelO.some_of {v : V} {o : Option Value} (r : RelO (some v) o) : ∃ u, o = some u ∧ RelV v u := by
  cases o with
  | none => exact (show False from r).elim
  | some u => exact ⟨u, rfl, r⟩
theorem RelO.none_of {o : Option Value} (r : RelO none o) : o = none := by
  cases o with
  | none => rfl
  | some u => exact (show False from r).elim
theorem handed_of {v : V} {u : Value} (r : RelV v u) : PySem.W.handedIn u = true := by
  cases v with
  | non => cases (show u = Value.none from r); rfl
  | bl b => cases (show u = Value.bool b from r); rfl
  | int i => obtain ⟨t, e⟩ := (show ∃ t, u = Value.int i t from r); cases e; rfl
  | str x => obtain ⟨t, e⟩ := (show ∃ t, u = Value.str x t from r); cases e; rfl
  | byt b => obtain ⟨t, e⟩ := (show ∃ t, u = Value.bytes b t from r); cases e; rfl
  | flt b => obtain ⟨t, e⟩ := (show ∃ t, u = Value.float b t from r); cases e; rfl
  | ref a => cases (show u = Value.ref a from r); rfl
  | ty n => cases (show u = Value.type n from r); rfl
section
variable {P : Program} {w : World} {H H' : Hp} {h h' : Heap} {a C dx : Addr} {fs fs' : List (Str × V)}
theorem ins_get (hok : HOk P w H h) (e : H a = some (.ins C dx fs)) : ∃ mA, ObjM h a dx C mA ∧ (∀ f, RelO (fs.lookup f) (mA f)) ∧ PySem.Within mA (fs.map (·.1)) ∧ fs.length ≤ 1000 ∧ H dx = some (.own a) := by
  obtain ⟨d, z, ne, ob, mA, n, r, q⟩ := (show ObjOk P w H h a (.ins C dx fs) from hok a _ e)
  exact ⟨mA, ⟨ob, n, ne⟩, r, q, z, d⟩
end
structure Cls (K : PySem.W.Frag) (C : Addr) : Prop where
  pg : PySem.W.plainGet K C Str.empty = true
  hd : PySem.W.hasDictIn K C = true
  po : PySem.W.plainOver K C = true
  sa : PySem.W.findIn K (.ref C) "__setattr__" = some (some (.builtin "object.__setattr__"))
theorem Cls.get {K : PySem.W.Frag} {C : Addr} (c : Cls K C) (f : Str) : PySem.W.plainGet K C f = true := c.pg
/-- no class of it has the name -/
def NoAttr (K : PySem.W.Frag) (C : Addr) (f : Str) : Prop := PySem.W.findIn K (.ref C) f = some none
theorem NoAttr.taker {K : PySem.W.Frag} {C : Addr} {f : Str} (n : NoAttr K C f) : PySem.W.takerIn K C f = some none := by
  unfold PySem.W.takerIn
  rw [show PySem.W.findIn K (.ref C) f = some none from n]
  rfl
/-- a constant of the class -/
structure Con (K : PySem.W.Frag) (C : Addr) (f : Str) (v : V) (u : Value) : Prop where
  at_ : PySem.W.findIn K (.ref C) f = some (some u)
  rel : RelV v u
  get : PySem.W.specialIn K u "__get__" = some none
  cp : PySem.W.copiedNames.contains f = false
/-- a method: a plain def of the class or of one above it -/
structure Meth (K : PySem.W.Frag) (C : Addr) (m : Str) (f : Addr) : Prop where
  at_ : PySem.W.findIn K (.ref C) m = some (some (.ref f))
  fn : PySem.W.isFn K (.ref f) = true
  kp : PySem.W.keepIn K (.ref f) = true
section
variable {X : Cx} {pins : List (Addr × Obj)} {σ : St} {H : Hp} {s : Shared} {a C dx : Addr} {fs : List (Str × V)} {f : Str} {v : V} {A : Around} {E : Value → Shared → Prop}
theorem getattr_ok {b : Bool} {Q : Value → Shared → Prop} (I : Inv X pins σ H s) (e : H a = some (.ins C dx fs)) (c : Cls X.K C) (n : NoAttr X.K C f) (l : fs.lookup f = some v)
    (h : ∀ u s', Inv X pins σ H s' → RelV v u → Q u s') : wpAny (model X.prog X.w) A (getAttr (.ref a) f b) Q E s := by
  obtain ⟨mA, O, r, _, _, _⟩ := ins_get I.hok e
  obtain ⟨u, hu, ru⟩ := RelO.some_of (v := v) (o := mA f) (by rw [← l]; exact r f)
  exact get_map I.kIn O (c.get f) c.hd n hu (handed_of ru) (h u _ (I.tok _) ru)
theorem getmeth_ok {m : Str} {g : Addr} {pl : Sem Bool} {Q : Value × List Value → Shared → Prop} (I : Inv X pins σ H s) (e : H a = some (.ins C dx fs)) (c : Cls X.K C) (k : Meth X.K C m g) (l : fs.lookup m = none)
    (h : Q (.ref g, [.ref a]) s) : wpAny (model X.prog X.w) A (getMethod (.ref a) m pl) Q E s := by
  obtain ⟨mA, O, r, _, _, _⟩ := ins_get I.hok e
  have hn : mA m = none := RelO.none_of (by rw [← l]; exact r m)
  exact get_meth I.kIn O (c.get m) k.at_ k.fn hn h
theorem setattr_ok {y : V} {u : Value} {Q : Unit → Shared → Prop} (I : Inv X pins σ H s) (e : H a = some (.ins C dx fs)) (c : Cls X.K C) (n : NoAttr X.K C f) (hl : fs.length < 1000) (ry : RelV y u)
    (h : ∀ s', Inv X pins σ (upd H a (.ins C dx (putF f y fs))) s' → Q () s') : wpAny (model X.prog X.w) A (setAttr (.ref a) f u) Q E s := by
  obtain ⟨mA, O, r, wi, _, ho⟩ := ins_get I.hok e
  have hz : (fs.map (·.1)).length ≤ sizeLine := by rw [List.length_map, sizeLine_eq]; omega
  refine set_map I.kIn O c.sa c.po n.taker c.hd wi hz fun h' O' sb => h _ ?_
  have hd : ∃ o, h'.get? dx = some o := let ⟨o, _, _, e', _⟩ := O'.ns; ⟨o, e'⟩
  refine I.write (x := a) (e := dx) (by rw [e]; exact True.intro) (.inr ho) (fun b q hb z => (sb.2 b hb).trans z) hd ?_
  refine ⟨by rw [upd_ne O.ne]; exact ho, ?_, O.ne, O'.obj, _, O'.ns, fun g => ?_, fun g hg => ?_⟩
  · have := length_putF f y fs; omega
  · show RelO ((putF f y fs).lookup g) (if g = f then some u else mA g)
    rw [lookup_putF]
    by_cases q : g = f
    · rw [if_pos q, if_pos q]; exact ry
    · rw [if_neg q, if_neg q]; exact r g
  · by_cases q : g = f
    · rw [q]; exact (keys_putF f y fs).1
    · refine (keys_putF f y fs).2 g (wi g fun z => hg ?_)
      show (if g = f then some u else mA g) = none
      rw [if_neg q]; exact z
/-- a new instance, tracked, without attributes -/
theorem Inv.made (I : Inv X pins σ H s) : Inv X pins σ (upd (upd H s.heap.objs.size (.own (s.heap.objs.size + 1))) (s.heap.objs.size + 1) (.ins C s.heap.objs.size []))
    { s with heap := (s.heap.push PySem.W.emptyDict).push (PySem.W.instObj C s.heap.objs.size) } := by
  have e1 : (s.heap.push PySem.W.emptyDict).get? s.heap.objs.size = some PySem.W.emptyDict := Heap.get?_push_size s.heap rfl
  have e2 : ((s.heap.push PySem.W.emptyDict).push (PySem.W.instObj C s.heap.objs.size)).get? (s.heap.objs.size + 1) = some (PySem.W.instObj C s.heap.objs.size) := by
    have := Heap.get?_push_size (s.heap.push PySem.W.emptyDict) (o := PySem.W.instObj C s.heap.objs.size) rfl
    rwa [Heap.size_push] at this
  have e3 : (s.heap.push PySem.W.emptyDict).Ns s.heap.objs.size (fun _ => none) := ⟨PySem.W.emptyDict, #[], _, e1, rfl, (fun e he => absurd he (by simp)), fun _ => rfl⟩
  have I1 := I.laid (a := s.heap.objs.size) (o := .own (s.heap.objs.size + 1)) (h' := s.heap.push PySem.W.emptyDict) (t' := s.toks) (fun b u q => Heap.get?_push_of_some _ q) (Nat.le_refl _) ⟨_, e1⟩
  refine I1.laid (a := s.heap.objs.size + 1) (o := .ins C s.heap.objs.size []) (t' := s.toks) (fun b u q => Heap.get?_push_of_some _ q) (Nat.le_of_eq (Heap.size_push _ _)) ?_
  have ne : s.heap.objs.size ≠ s.heap.objs.size + 1 := Nat.ne_of_lt (Nat.lt_succ_self _)
  refine ⟨by rw [upd_ne ne, upd_same], Nat.zero_le _, ne, e2, fun _ => none, (Heap.Ns1.of_empty e3).at fun o q => Heap.get?_push_of_some _ q, fun _ => True.intro, fun y hy => absurd rfl hy⟩
/-- e.f where nothing but the object is asked: through attributeBase (super) and the last hold -/
theorem attr_of {prog : Program} {w : World} {env : Env} {e : Expr} {f : Str} {pos : Pos} {s : Shared} {Q : Value → Shared → Prop} (hb : attributeBase e f env (eval e env) = eval e env)
    (h : wpAny (model prog w) A (eval e env) (fun o s₁ => wpAny (model prog w) A (getAttr o f true) Q E s₁) E s) : wpAny (model prog w) A (eval (.Attribute e f pos) env) Q E s :=
  Attribute_any_ h (by rw [arm_eval_Attribute, hb])
end
/-- e.f, an attribute of the instance -/
def tFld (K : PySem.W.Frag) (ta : TE) (f : Str) : TE := fun σ H Q => ta σ H fun x H1 => ∃ a C dx fs v, x = .ref a ∧ H1 a = some (.ins C dx fs) ∧ Cls K C ∧ NoAttr K C f ∧ fs.lookup f = some v ∧ Q v H1
/-- e.f, a constant of the class -/
def tCon (K : PySem.W.Frag) (ta : TE) (f : Str) : TE := fun σ H Q => ta σ H fun x H1 => ∃ a C dx fs v u, x = .ref a ∧ H1 a = some (.ins C dx fs) ∧ Cls K C ∧ Con K C f v u ∧ fs.lookup f = none ∧ Q v H1
/-- e.f = value -/
def sFld (K : PySem.W.Frag) (ta tv : TE) (f : Str) : TS := fun D σ H => tv σ H fun y H1 => ta σ H1 fun x H2 => ∃ a C dx fs, x = .ref a ∧ H2 a = some (.ins C dx fs) ∧ Cls K C ∧ NoAttr K C f ∧ fs.length < 1000 ∧
  D.nx σ (upd H2 a (.ins C dx (putF f y fs)))
/-- an augmented operator on two values -/
def InOp (X : Cx) (op : Operator) (rd : V → V → Hp → VK → Prop) : Prop :=
  ∀ (pins : List (Addr × Obj)) (s : Shared) (σ : St) (H : Hp) (x y : V) (u v : Value) (Q : VK), Inv X pins σ H s → RelV x u → RelV y v → rd x y H Q → wpAny (model X.prog X.w) X.A (inplaceOp op u v) (EP X pins σ Q) X.xe s
/-- e.f op= value -/
def sFldAug (K : PySem.W.Frag) (ta tv : TE) (rd : V → V → Hp → VK → Prop) (f : Str) : TS := fun D σ H => ta σ H fun x H1 => ∃ a C dx fs v, x = .ref a ∧ H1 a = some (.ins C dx fs) ∧ Cls K C ∧ NoAttr K C f ∧ fs.lookup f = some v ∧
  tv σ H1 fun y H2 => rd v y H2 fun z H3 => ∃ dx' fs', H3 a = some (.ins C dx' fs') ∧ fs'.length < 1000 ∧ D.nx σ (upd H3 a (.ins C dx' (putF f z fs')))
section
variable {X : Cx} {o e value : Expr} {f : Str} {pos pos' tpos : Pos} {ta tv : TE}
theorem pe_fld (he : PE X e ta) (hb : attributeBase e f X.env (eval e X.env) = eval e X.env) : PE X (.Attribute e f pos) (tFld X.K ta f) := by
  intro pins s σ H Q I h
  refine attr_of hb (thn (he pins s σ H _ I h) fun u s1 ⟨x, H1, I1, rx, a, C, dx, fs, v, ex, ea, c, n, l, q⟩ => ?_)
  subst ex
  obtain rfl : u = Value.ref a := rx
  exact getattr_ok I1 ea c n l fun u' s2 I2 ru => ⟨v, H1, I2, ru, q⟩
theorem ps_fld (ha : PE X o ta) (hv : PE X value tv) (hs : swapsWith value (some (.Attribute o f pos')) pos.line X.env = pure false) : PS X (.Assign [.Attribute o f pos'] value pos) (sFld X.K ta tv f) := by
  intro pins s σ H D I h
  refine plainObj_wpAny_Assign_Attribute (thn (hv pins s σ H _ I h) fun u s1 ⟨y, H1, I1, ry, q⟩ => thn (ha pins s1 σ H1 _ I1 q) fun ov s2 ⟨x, H2, I2, rx, a, C, dx, fs, ex, ea, c, n, l, q2⟩ => ?_) hs
  subst ex
  obtain rfl : ov = Value.ref a := rx
  exact setattr_ok I2 ea c n l ry fun s3 I3 => ⟨σ, _, I3, q2⟩
theorem ps_fldaug {op : Operator} {rd : V → V → Hp → VK → Prop} (ha : PE X o ta) (hv : PE X value tv) (hop : InOp X op rd) : PS X (.AugAssign (.Attribute o f tpos) op value pos) (sFldAug X.K ta tv rd f) := by
  intro pins s σ H D I h
  refine wpAny_AugAssign_AttributeAny (thn (ha pins s σ H _ I h) fun ov s1 ⟨x, H1, I1, rx, a, C, dx, fs, v, ex, ea, c, n, l, q⟩ => ?_)
  subst ex
  obtain rfl : ov = Value.ref a := rx
  refine getattr_ok I1 ea c n l fun u s2 I2 ru => thn (hv pins s2 σ H1 _ I2 q) fun w3 s3 ⟨y, H2, I3, ry, q3⟩ => thn (hop pins s3 σ H2 v y u w3 _ I3 ru ry q3) fun w4 s4 ⟨z, H3, I4, rz, dx', fs', ea', l', q4⟩ => ?_
  exact setattr_ok I4 ea' c n l' rz fun s5 I5 => ⟨σ, _, I5, q4⟩
def rAdd : V → V → Hp → VK → Prop := fun x y H Q => ∃ i j, x = .int i ∧ y = .int j ∧ Q (.int (i + j)) H
def rSub : V → V → Hp → VK → Prop := fun x y H Q => ∃ i j, x = .int i ∧ y = .int j ∧ Q (.int (i - j)) H
theorem in_add : InOp X .Add rAdd := by
  rintro pins s σ H x y u v Q I rx ry ⟨i, j, rfl, rfl, q⟩
  obtain ⟨t, rfl⟩ := (show ∃ t, u = Value.int i t from rx)
  obtain ⟨t', rfl⟩ := (show ∃ t', v = Value.int j t' from ry)
  exact PyProof.Rows.iadd_int ⟨.int (i + j), H, I.tok _, ⟨_, rfl⟩, q⟩
end
section
variable {X : Cx} {pins : List (Addr × Obj)} {σ : St} {H : Hp} {s : Shared} {A : Around} {E : Value → Shared → Prop} {Q : Value → Shared → Prop} {c : Value} {b : Bool}
/-- the type of a value, as the fragment's deciders take it; for an instance its class -/
inductive TyOf (K : PySem.W.Frag) (H : Hp) : V → Value → Prop where
  | non : TyOf K H .non (.type "NoneType")
  | bl (x : Bool) : TyOf K H (.bl x) (.type "bool")
  | int (i : Int) : TyOf K H (.int i) (.type "int")
  | str (x : Str) : TyOf K H (.str x) (.type "str")
  | flt (x : UInt64) : TyOf K H (.flt x) (.type "float")
  | lst {a : Addr} {xs : List V} (e : H a = some (.lst xs)) : TyOf K H (.ref a) (.type "list")
  | frz {a : Addr} {o : Obj} {xs : List V} (e : H a = some (.frz o (.lst xs))) : TyOf K H (.ref a) (.type "list")
  | tup {a : Addr} {xs : List V} (e : H a = some (.tup xs)) : TyOf K H (.ref a) (.type "tuple")
  | dK {a : Addr} {kvs : List (Key × V)} (e : H a = some (.dK kvs)) : TyOf K H (.ref a) (.type "dict")
  | dT {a : Addr} {kvs : List (List Key × V)} (e : H a = some (.dT kvs)) : TyOf K H (.ref a) (.type "dict")
  | ins {a C dx : Addr} {fs : List (Str × V)} (e : H a = some (.ins C dx fs)) (cl : Cls K C) (ha : PySem.W.findIn K (.ref C) "__class__" = some (some (.builtin "object.__class__")))
      (hn : PySem.W.specialIn K (.builtin "object.__class__") "__get__" = some (some (.builtin "getset_descriptor.__get__"))) (htk : PySem.W.takesIn K (.builtin "object.__class__") = some true)
      (hm : PySem.W.mroIn K C (.type "object") = some true) : TyOf K H (.ref a) (.ref C)
/-- isinstance(x, c) for one class c, a built-in or an own one: kitOne's answer -/
theorem isinst_ok {x : V} {u t : Value} (I : Inv X pins σ H s) (rx : RelV x u) (ty : TyOf X.K H x t) (e : PySem.W.kitOne X.K t c = some b) (h : ∀ tk, Q (.bool b) { s with toks := tk }) :
    wpAny (model X.prog X.w) A (call (.builtin "isinstance") [u, c]) Q E s := by
  cases ty with
  | non => cases (show u = Value.none from rx); exact PySem.W.kia_one PySem.W.kitx_none I.kIn True.intro e (fun z => nomatch z) h
  | bl y => cases (show u = Value.bool y from rx); exact PySem.W.kia_one PySem.W.kitx_bool I.kIn True.intro e (fun z => nomatch z) h
  | int i => obtain ⟨t, q⟩ := (show ∃ t, u = Value.int i t from rx); cases q; exact PySem.W.kia_one PySem.W.kitx_int I.kIn True.intro e (fun z => nomatch z) h
  | str y => obtain ⟨t, q⟩ := (show ∃ t, u = Value.str y t from rx); cases q; exact PySem.W.kia_one PySem.W.kitx_str I.kIn True.intro e (fun z => nomatch z) h
  | flt y => obtain ⟨t, q⟩ := (show ∃ t, u = Value.float y t from rx); cases q; exact PySem.W.kia_one PySem.W.kitx_float I.kIn True.intro e (fun z => nomatch z) h
  | @lst a xs ea =>
    cases (show u = Value.ref a from rx)
    obtain ⟨_, _, n, _, h1⟩ := (show ObjOk X.prog X.w H s.heap a (.lst xs) from I.hok a _ ea)
    exact PySem.W.kia_one PySem.W.kitx_list I.kIn ⟨_, h1, rfl⟩ e (fun z => nomatch z) h
  | @frz a ob xs ea =>
    cases (show u = Value.ref a from rx)
    obtain ⟨_, _, _, n, _, h1⟩ := (show ObjOk X.prog X.w H s.heap a (.frz ob (.lst xs)) from I.hok a _ ea)
    exact PySem.W.kia_one PySem.W.kitx_list I.kIn ⟨_, h1, rfl⟩ e (fun z => nomatch z) h
  | @tup a xs ea =>
    cases (show u = Value.ref a from rx)
    obtain ⟨_, _, _, p⟩ := (show ObjOk X.prog X.w H s.heap a (.tup xs) from I.hok a _ ea)
    obtain ⟨o, h1, h2, _⟩ := p
    exact PySem.W.kia_one PySem.W.kitx_tuple I.kIn ⟨o, h1, h2⟩ e (fun z => nomatch z) h
  | @dK a kvs ea =>
    cases (show u = Value.ref a from rx)
    obtain ⟨_, _, vs, _, p⟩ := (show ObjOk X.prog X.w H s.heap a (.dK kvs) from I.hok a _ ea)
    obtain ⟨o, es, ep, h1, h2, _⟩ := p
    exact PySem.W.kia_one PySem.W.kitx_dict I.kIn ⟨o, h1, h2.1⟩ e (fun z => nomatch z) h
  | @dT a kvs ea =>
    cases (show u = Value.ref a from rx)
    obtain ⟨_, _, xs, _, o, es, ep, h1, h2, _⟩ := (show ObjOk X.prog X.w H s.heap a (.dT kvs) from I.hok a _ ea)
    exact PySem.W.kia_one PySem.W.kitx_dict I.kIn ⟨o, h1, h2.1⟩ e (fun z => nomatch z) h
  | @ins a C dx fs ea cl ha hn htk hm =>
    cases (show u = Value.ref a from rx)
    obtain ⟨mA, O, _⟩ := ins_get I.hok ea
    obtain ⟨od, J, _⟩ := O.look
    exact PySem.W.kia_one (PySem.W.kitx_own (cl.get _) cl.hd ha hn htk hm) I.kIn J e (fun z => nomatch z) h
end
end L2
namespace L2
open PySem PySem.Spec PyProof.Rows
structure Room (k : Nat) (A : Around) : Prop where
  hd : A.handled = none
  dp : A.depth + 3 * k + 5 < recursionLimit
  un : A.units + 16 * k + 200 < cLine
theorem Room.mono {j k : Nat} {A : Around} (r : Room k A) (h : j ≤ k) : Room j A := ⟨r.hd, by have := r.dp; omega, by have := r.un; omega⟩
theorem Room.deeper {k : Nat} {A : Around} (r : Room (k + 1) A) (env : Env) : Room k (A.deeper env) :=
  ⟨r.hd, by have := r.dp; show A.depth + 1 + 3 * k + 5 < _; omega, by have := r.un; show A.units + 3 + 16 * k + 200 < _; omega⟩
theorem make_depth {A : Around} {C : Addr} {us : List Value} {kw : List (Str × Value)} : (A.under (.builtin "type.__call__" ⟨.ref C :: us, kw⟩)).depth = A.depth + 1 := by
  first | rfl | simp [Around.under, Code.weight, Code.isCreation, Code.isGuard, Code.isCaller, Code.frames, Code.isFrame, guardIds]
theorem make_units {A : Around} {C : Addr} {us : List Value} {kw : List (Str × Value)} : (A.under (.builtin "type.__call__" ⟨.ref C :: us, kw⟩)).units = A.units + 1 := by
  first | rfl | simp [Around.under, Code.cUnits, Code.frames, Code.isFrame]
theorem Room.make {k : Nat} {A : Around} (r : Room (k + 1) A) (C : Addr) (us : List Value) (kw : List (Str × Value)) : Room k (A.under (.builtin "type.__call__" ⟨.ref C :: us, kw⟩)) :=
  ⟨r.hd, by have := r.dp; rw [make_depth]; omega, by have := r.un; rw [make_units]; omega⟩
theorem Room.depth {k : Nat} {A : Around} (r : Room k A) : A.depth < recursionLimit := by have := r.dp; omega
theorem Room.units {k : Nat} {A : Around} (r : Room k A) : A.units + 64 < cLine := by have := r.un; omega
def tNil : TA := fun _ H Q => Q [] H
def tCons (ta : TE) (tr : TA) : TA := fun σ H Q => ta σ H fun x H1 => tr σ H1 fun xs H2 => Q (x :: xs) H2
section
variable {X : Cx} {e : Expr} {es : List Expr} {te : TE} {t : TA} {pos : Pos}
theorem pa_nil : PA X [] tNil := fun _ _ _ _ H Q I h => Calls.spliced_nil ⟨[], H, I, .nil, h⟩
theorem pa_cons (ha : PE X e te) (hr : PA X es t) (hs : starEach (e :: es) X.env = (false, eval e X.env) :: starEach es X.env := by rfl) : PA X (e :: es) (tCons te t) := by
  intro pos pins s σ H Q I h
  rw [hs]
  show wpAny _ _ (spliced ((false, eval e X.env) :: backTo pos (starEach es X.env))) _ _ s
  refine Calls.spliced_cons (thn (ha pins s σ H _ I h) fun u s1 ⟨x, H1, I1, r1, q1⟩ => ?_)
  exact thn (hr pos pins s1 σ H1 _ I1 q1) fun us s2 ⟨xs, H2, I2, r2, q2⟩ => ⟨x :: xs, H2, I2, .cons r1 r2, q2⟩
/-- a tuple, a list of written items -/
def tTup (t : TA) : TE := fun σ H Q => t σ H fun xs H1 => xs.length ≤ sizeLine ∧ ∀ p, H1 p = none → Q (.ref p) (upd H1 p (.tup xs))
def tLst (t : TA) : TE := fun σ H Q => t σ H fun xs H1 => xs.length ≤ sizeLine ∧ ∀ p, H1 p = none → Q (.ref p) (upd H1 p (.lst xs))
theorem pe_tup {x1} (h : PA X es t) : PE X (.Tuple es x1 pos) (tTup t) := by
  intro pins s σ H Q I hq
  refine wpAny_Tuple_spliced (thn (h pos pins s σ H _ I hq) fun us s1 ⟨xs, H1, I1, r, z, q⟩ => ⟨by rw [← r.length]; exact z, ?_⟩)
  have hf : H1 s1.heap.objs.size = none := I1.hok.fresh (Nat.le_refl _)
  refine ⟨.ref s1.heap.objs.size, upd H1 s1.heap.objs.size (.tup xs), I1.laid (t' := s1.toks) (fun b u e => Heap.get?_push_of_some _ e) (Nat.le_refl _) ?_, rfl, q _ hf⟩
  exact ⟨z, us, r, ⟨_, Heap.get?_push_size _ rfl, rfl, _, rfl⟩⟩
theorem pe_lst (h : PA X es t) : PE X (.List es pos) (tLst t) := by
  intro pins s σ H Q I hq
  refine wpAny_List_spliced (thn (h pos pins s σ H _ I hq) fun us s1 ⟨xs, H1, I1, r, z, q⟩ => ⟨by rw [← r.length]; exact z, ?_⟩)
  have hf : H1 s1.heap.objs.size = none := I1.hok.fresh (Nat.le_refl _)
  refine ⟨.ref s1.heap.objs.size, upd H1 s1.heap.objs.size (.lst xs), I1.laid (t' := s1.toks) (fun b u e => Heap.get?_push_of_some _ e) (Nat.le_refl _) ?_, rfl, q _ hf⟩
  exact ⟨z, us, 0, r, Heap.get?_push_size _ rfl⟩
end
/-- a def's promise: the bound arguments in the parameters' order, the heap, the wanted end, the wanted exception -/
abbrev Sp := List V → Hp → VK → XK → Prop
/-- how an exception lies behind a call (file 08 gives it): the callers' frames, abstract heap and state ahead of the call, the wish, the exception, the state -/
abbrev CXT := List Env → Hp → Shared → XK → Value → Shared → Prop
/-- the state at a call -/
structure Env0 (P : Program) (w : World) (K : PySem.W.Frag) (mg : Str → Option Value) (base : Heap) (A : Around) (outer : List Env) (s : Shared) (H : Hp) : Prop where
  frames : A.frames = some outer
  mod : Mod K mg base
  bs : ∀ b o, base.get? b = some o → s.heap.get? b = some o ∧ H b = none
  bsz : base.objs.size ≤ s.heap.objs.size
  funs : s.heap.FunFrames base outer
  frf : ∀ b ∈ frs outer, H b = none
  hok : HOk P w H s.heap
  bare : AllBare s.gens
/-- a call's end -/
def CE (outer : List Env) (P : Program) (w : World) (H : Hp) (s : Shared) (Q : VK) (u : Value) (s' : Shared) : Prop :=
  ∃ v H', s'.os = s.os ∧ AllBare s'.gens ∧ Un (frs outer) [] H H' s.heap s'.heap ∧ HOk P w H' s'.heap ∧ RelV v u ∧ Q v H'
def CR (CX : CXT) (outer : List Env) (P : Program) (w : World) (H : Hp) (s : Shared) (Q : VK) (E : XK) (r : Result) (s' : Shared) : Prop :=
  match r with
  | .ok (.ret u) => CE outer P w H s Q u s'
  | .ok _ => False
  | .error e => CX outer H s E e s'
structure FnOk (P : Program) (w : World) (K : PySem.W.Frag) (mg : Str → Option Value) (base : Heap) (CX : CXT) (k : Nat) (f : Addr) (fd : FuncData) (ps : List Str) (sp : Sp) : Prop where
  len : ∀ vs H Q E, sp vs H Q E → vs.length = ps.length
  run : ∀ (A : Around) (outer : List Env) (s : Shared) (H : Hp) (args : Args) (us : List Value) (vs : List V) (Q : VK) (E : XK), Room k A → Env0 P w K mg base A outer s H → BindsTo s fd args (ps.zip us) → Vals vs us → sp vs H Q E →
    codeAny (model P w) A (.call (.ref f) args) (CR CX outer P w H s Q E) s
/-- a weaker promise -/
theorem FnOk.imp {P : Program} {w : World} {K : PySem.W.Frag} {mg : Str → Option Value} {base : Heap} {CX : CXT} {k : Nat} {f : Addr} {fd : FuncData} {ps : List Str} {sp sp' : Sp} (F : FnOk P w K mg base CX k f fd ps sp)
    (h : ∀ vs H Q E, sp' vs H Q E → sp vs H Q E) : FnOk P w K mg base CX k f fd ps sp' :=
  ⟨fun vs H Q E q => F.len vs H Q E (h _ _ _ _ q), fun A outer s H args us vs Q E hr he hb hv hs => F.run A outer s H args us vs Q E hr he hb hv (h _ _ _ _ hs)⟩
theorem Env0.make {P : Program} {w : World} {K : PySem.W.Frag} {mg : Str → Option Value} {base : Heap} {A : Around} {outer : List Env} {s : Shared} {H : Hp} (e : Env0 P w K mg base A outer s H) (C : Addr) (us : List Value) (kw : List (Str × Value)) :
    Env0 P w K mg base (A.under (.builtin "type.__call__" ⟨.ref C :: us, kw⟩)) outer s H := ⟨by first | exact e.frames | (simpa [Around.under, Code.envs, Code.isFrame, pushEnvs] using e.frames), e.mod, e.bs, e.bsz, e.funs, e.frf, e.hok, e.bare⟩
section
variable {X : Cx} {pins : List (Addr × Obj)} {σ : St} {H : Hp} {s s' : Shared}
/-- from a body: what a callee wants -/
theorem Inv.env0 (I : Inv X pins σ H s) : Env0 X.prog X.w X.K X.mg X.base X.A X.stack s H :=
  ⟨I.ok.frames, I.ok.mod, I.bs, Nat.le_trans I.ok.bsz I.sz, I.stack, I.stkFree, I.hok, I.bare⟩
/-- behind a call -/
theorem Inv.after {Q : VK} {u : Value} (I : Inv X pins σ H s) (h : CE X.stack X.prog X.w H s Q u s') : EP X pins σ Q u s' := by
  obtain ⟨v, H', os, bare, un, hok, r, q⟩ := h
  obtain ⟨hh, g, d, t, os'⟩ := s'
  obtain rfl : os' = s.os := os
  exact ⟨v, H', I.call (h' := hh) (g' := g) (d' := d) (t' := t) (ch := []) un hok bare (fun b z => absurd z (by simp)), r, q⟩
end
/-- f(..): the written arguments, then the defaults dvs; E: what is wanted of an exception -/
def tCall (sp : Sp) (dvs : List V) (E : XK) (t : TA) : TE := fun σ H Q => t σ H fun vs H1 => sp (vs ++ dvs) H1 Q E
/-- o.m(..) of an instance of the class at C -/
def tMeth (C : Addr) (m : Str) (sp : Sp) (dvs : List V) (E : XK) (ta : TE) (t : TA) : TE := fun σ H Q => ta σ H fun x H1 => ∃ a dx fs, x = .ref a ∧ H1 a = some (.ins C dx fs) ∧ fs.lookup m = none ∧
  t σ H1 fun vs H2 => sp (x :: (vs ++ dvs)) H2 Q E
/-- C(..): a new instance and its dict, then __init__ -/
def tMake (C : Addr) (sp : Sp) (dvs : List V) (E : XK) (t : TA) : TE := fun σ H Q => t σ H fun vs H1 => ∀ x dx, H1 x = none → H1 dx = none → dx ≠ x →
  sp (.ref x :: (vs ++ dvs)) (upd (upd H1 dx (.own x)) x (.ins C dx [])) (fun v H2 => v = .non ∧ Q (.ref x) H2) E
/-- how the parameters are bound: us the positional arguments, kw the keywords' values by name, ds the defaults that fill up -/
def Binds (K : PySem.W.Frag) (fd : FuncData) (ps : List Str) (ds : List Value) : Prop :=
  ∀ (s : Shared) (us : List Value), K.In s.heap → (us ++ ds).length = ps.length → BindsTo s fd ⟨us, []⟩ (ps.zip (us ++ ds))
/-- every parameter is given -/
theorem Binds.all {K : PySem.W.Frag} {fd : FuncData} {ps : List Str} (h : ∀ us : List Value, us.length = ps.length → bindArgs fd ⟨us, []⟩ = pure (ps.zip us)) : Binds K fd ps [] := fun s us _ hl => by
  rw [List.append_nil] at hl ⊢
  exact .of_eq (h us hl)
/-- an exception of a callee reaches what this body wants of exceptions -/
def Passes (CX : CXT) (X : Cx) (E : XK) : Prop := ∀ (pins : List (Addr × Obj)) (σ : St) (H : Hp) (s : Shared) (e : Value) (s' : Shared), Inv X pins σ H s → CX X.stack H s E e s' → X.xe e s'
section
variable {X : Cx} {CX : CXT} {k : Nat} {f C : Addr} {fd : FuncData} {ps : List Str} {sp : Sp} {dvs : List V} {ds : List Value} {E : XK} {x m : Str} {p pos apos : Pos} {e o : Expr} {es : List Expr} {ta : TE} {t : TA}
/-- the callee runs -/
theorem run_fn {pins : List (Addr × Obj)} {σ : St} {H : Hp} {s : Shared} {Q : VK} {us : List Value} {vs : List V} (F : FnOk X.prog X.w X.K X.mg X.base CX k f fd ps sp) (hr : Room k X.A) (hb : Binds X.K fd ps ds) (hd : Vals dvs ds) (hx : Passes CX X E)
    (I : Inv X pins σ H s) (r : Vals vs us) (h : sp (vs ++ dvs) H Q E) : wpAny (model X.prog X.w) X.A (call (.ref f) us) (EP X pins σ Q) X.xe s := by
  have r2 : Vals (vs ++ dvs) (us ++ ds) := r.append hd
  have hl : (us ++ ds).length = ps.length := by rw [← r2.length]; exact F.len _ _ _ _ h
  refine wpAny_call (codeAny_mono (F.run X.A X.stack s H ⟨us, []⟩ (us ++ ds) (vs ++ dvs) Q E hr I.env0 (hb s us I.kIn hl) r2 h) fun r s' hq => ?_)
  cases r with
  | error e => exact hx pins σ H s e s' I hq
  | ok fl =>
    cases fl with
    | ret u => exact I.after hq
    | next => exact False.elim hq
    | brk => exact False.elim hq
    | cont => exact False.elim hq
theorem pe_call (F : FnOk X.prog X.w X.K X.mg X.base CX k f fd ps sp) (hr : Room k X.A) (hg : Gl X x) (hm : X.mg x = some (.ref f)) (hk : PySem.W.keepIn X.K (.ref f) = true) (hb : Binds X.K fd ps ds) (hd : Vals dvs ds) (hx : Passes CX X E)
    (ha : PA X (e :: es) t) (hdb : (x == ("__debug__" : Str)) = false := by decide) (he : starEach (e :: es) X.env = (false, eval e X.env) :: starEach es X.env := by rfl) (hpl : (backTo pos (starEach es X.env)).any (·.1) = false := by rfl) :
    PE X (.Call (.Name x p) (e :: es) [] pos) (tCall sp dvs E t) := by
  intro pins s σ H Q I h
  refine wpAny_Call_Name_kw (ld_glob I hg hm ?_ hdb)
  refine PySem.W.callWith_K (h₀ := X.base) I.ok.mod.kin hk (thn (ha pos pins s σ H _ I h) fun us s1 ⟨vs, H1, I1, r, q⟩ => ⟨I1.kIn, ?_⟩) he hpl
  exact run_fn F hr hb hd hx I1 r q
/-- o.m(e, ..) -/
theorem pe_meth {pl : Sem Bool} (he : PE X o ta) (c : Cls X.K C) (hm : Meth X.K C m f) (F : FnOk X.prog X.w X.K X.mg X.base CX k f fd ps sp) (hr : Room k X.A) (hb : Binds X.K fd ps ds) (hd : Vals dvs ds) (hx : Passes CX X E) (ha : PA X (e :: es) t)
    (hst : starEach (e :: es) X.env = (false, eval e X.env) :: starEach es X.env := by rfl) (hpl : (backTo pos (starEach es X.env)).any (·.1) = false := by rfl)
    (ht : eval (.Call (.Attribute o m apos) (e :: es) [] pos) X.env = (do
      let ov ← eval o X.env
      standAt apos.atName
      let (f, first) ← holding [ov] (getMethod ov m pl)
      callWith pos f first (backTo pos (starEach (e :: es) X.env)) (backToKw pos (keywordEach [] X.env))) := by rfl) :
    PE X (.Call (.Attribute o m apos) (e :: es) [] pos) (tMeth C m sp dvs E ta t) := by
  intro pins s σ H Q I h
  refine PySem.W.methodCall_KW (pl := pl) (thn (he pins s σ H _ I h) fun u s1 ⟨x, H1, I1, rx, a, dx, fs, ex, ea, l, q⟩ => ?_) ht
  subst ex
  obtain rfl : u = Value.ref a := rx
  refine getmeth_ok I1 ea c hm l ?_
  refine PySem.W.callWith_K (first := [.ref a]) (h₀ := X.base) I.ok.mod.kin hm.kp (thn (ha pos pins s1 σ H1 _ I1 q) fun us s2 ⟨vs, H2, I2, r, q2⟩ => ⟨I2.kIn, ?_⟩) hst hpl
  exact run_fn (us := .ref a :: us) (vs := .ref a :: vs) F hr hb hd hx I2 (.cons rfl r) q2
/-- o.m() -/
theorem pe_meth0 {pl : Sem Bool} (he : PE X o ta) (c : Cls X.K C) (hm : Meth X.K C m f) (F : FnOk X.prog X.w X.K X.mg X.base CX k f fd ps sp) (hr : Room k X.A) (hb : Binds X.K fd ps ds) (hd : Vals dvs ds) (hx : Passes CX X E)
    (ht : eval (.Call (.Attribute o m apos) [] [] pos) X.env = (do
      let ov ← eval o X.env
      standAt apos.atName
      let (f, first) ← holding [ov] (getMethod ov m pl)
      callWith pos f first (backTo pos (starEach [] X.env)) (backToKw pos (keywordEach [] X.env))) := by rfl) :
    PE X (.Call (.Attribute o m apos) [] [] pos) (tMeth C m sp dvs E ta tNil) := by
  intro pins s σ H Q I h
  refine PySem.W.methodCall_KW (pl := pl) (thn (he pins s σ H _ I h) fun u s1 ⟨x, H1, I1, rx, a, dx, fs, ex, ea, l, q⟩ => ?_) ht
  subst ex
  obtain rfl : u = Value.ref a := rx
  refine getmeth_ok I1 ea c hm l ?_
  exact PySem.W.callWith_K0 (first := [.ref a]) I1.kIn hm.kp (run_fn (us := [.ref a]) (vs := [.ref a]) F hr hb hd hx I1 (.cons rfl .nil) q)
/-- what a class must have to be made -/
structure Mk (K : PySem.W.Frag) (C f : Addr) : Prop where
  makes : PySem.W.makesIn K C = true
  init : PySem.W.findIn K (.ref C) "__init__" = some (some (.ref f))
  fn : PySem.W.isFn K (.ref f) = true
  kp : PySem.W.keepIn K (.ref C) = true
theorem run_make {pins : List (Addr × Obj)} {σ : St} {H : Hp} {s : Shared} {Q : VK} {us : List Value} {vs : List V} (M : Mk X.K C f) (F : FnOk X.prog X.w X.K X.mg X.base CX k f fd ps sp) (hr : Room (k + 1) X.A) (hb : Binds X.K fd ps ds) (hd : Vals dvs ds)
    (hx : Passes CX X E) (I : Inv X pins σ H s) (r : Vals vs us)
    (h : ∀ x dx, H x = none → H dx = none → dx ≠ x → sp (.ref x :: (vs ++ dvs)) (upd (upd H dx (.own x)) x (.ins C dx [])) (fun v H2 => v = .non ∧ Q (.ref x) H2) E) :
    wpAny (model X.prog X.w) X.A (call (.ref C) us) (EP X pins σ Q) X.xe s := by
  have hq := h (s.heap.objs.size + 1) s.heap.objs.size (I.hok.fresh (Nat.le_succ _)) (I.hok.fresh (Nat.le_refl _)) (Nat.ne_of_lt (Nat.lt_succ_self _))
  have I2 := Inv.made (C := C) I
  have r2 : Vals (V.ref (s.heap.objs.size + 1) :: (vs ++ dvs)) (Value.ref (s.heap.objs.size + 1) :: (us ++ ds)) := .cons rfl (r.append hd)
  have hl : (Value.ref (s.heap.objs.size + 1) :: us ++ ds).length = ps.length := by
    have e := r2.length
    rw [F.len _ _ _ _ hq] at e
    exact e.symm
  refine wpAny_call (make_map (f := f) I.kIn M.makes M.init (beq_iff_eq.mp M.fn) (codeAny_mono (F.run _ X.stack _ _ ⟨Value.ref (s.heap.objs.size + 1) :: us, []⟩ (Value.ref (s.heap.objs.size + 1) :: (us ++ ds)) _ _ E (hr.make C us [])
    (I2.env0.make C us []) (hb _ (Value.ref (s.heap.objs.size + 1) :: us) I2.kIn hl) r2 hq) fun r s' hq' => ?_))
  cases r with
  | error e => exact hx pins σ _ _ e s' I2 hq'
  | ok fl =>
    cases fl with
    | ret u =>
      obtain ⟨v, H', I3, rv, ev, q3⟩ := I2.after hq'
      subst ev
      exact ⟨rv, ⟨V.ref (s.heap.objs.size + 1), H', I3, rfl, q3⟩⟩
    | next => exact False.elim hq'
    | brk => exact False.elim hq'
    | cont => exact False.elim hq'
theorem pe_make (M : Mk X.K C f) (F : FnOk X.prog X.w X.K X.mg X.base CX k f fd ps sp) (hr : Room (k + 1) X.A) (hg : Gl X x) (hm : X.mg x = some (.ref C)) (hb : Binds X.K fd ps ds) (hd : Vals dvs ds) (hx : Passes CX X E)
    (ha : PA X (e :: es) t) (hdb : (x == ("__debug__" : Str)) = false := by decide) (he : starEach (e :: es) X.env = (false, eval e X.env) :: starEach es X.env := by rfl) (hpl : (backTo pos (starEach es X.env)).any (·.1) = false := by rfl) :
    PE X (.Call (.Name x p) (e :: es) [] pos) (tMake C sp dvs E t) := by
  intro pins s σ H Q I h
  refine wpAny_Call_Name_kw (ld_glob I hg hm ?_ hdb)
  refine PySem.W.callWith_K (h₀ := X.base) I.ok.mod.kin M.kp (thn (ha pos pins s σ H _ I h) fun us s1 ⟨vs, H1, I1, r, q⟩ => ⟨I1.kIn, ?_⟩) he hpl
  exact run_make M F hr hb hd hx I1 r q
theorem pe_make0 (M : Mk X.K C f) (F : FnOk X.prog X.w X.K X.mg X.base CX k f fd ps sp) (hr : Room (k + 1) X.A) (hg : Gl X x) (hm : X.mg x = some (.ref C)) (hb : Binds X.K fd ps ds) (hd : Vals dvs ds) (hx : Passes CX X E)
    (hdb : (x == ("__debug__" : Str)) = false := by decide) : PE X (.Call (.Name x p) [] [] pos) (tMake C sp dvs E tNil) := by
  intro pins s σ H Q I h
  refine wpAny_Call_Name_kw (ld_glob I hg hm ?_ hdb)
  exact PySem.W.callWith_K0 I.kIn M.kp (run_make (us := []) M F hr hb hd hx I .nil h)
end
/-- the values of the keywords, from the left -/
def PK (X : Cx) (kws : List Keyword) (t : TA) : Prop :=
  ∀ (pos : Pos) (pins : List (Addr × Obj)) (s : Shared) (σ : St) (H : Hp) (Q : List V → Hp → Prop), Inv X pins σ H s → t σ H Q → wpAny (model X.prog X.w) X.A (evalAll ((backToKw pos (keywordEach kws X.env)).map (·.2))) (AP X pins σ Q) X.xe s
section
variable {X : Cx} {CX : CXT} {k : Nat} {f C : Addr} {fd : FuncData} {ps ks : List Str} {sp : Sp} {E : XK} {x m : Str} {p pos apos kpos : Pos} {e o : Expr} {es : List Expr} {kws : List Keyword} {te ta : TE} {t tk : TA} {nm : Option Str}
/-- how a call with keywords binds: g puts the positional values us and the keywords' values ws (names ks) in the parameters' order, defaults among them -/
structure KBinds (K : PySem.W.Frag) (fd : FuncData) (ps ks : List Str) (g : List Value → List Value → List Value) (gV : List V → List V → List V) : Prop where
  to : ∀ (s : Shared) (us ws : List Value), K.In s.heap → (g us ws).length = ps.length → BindsTo s fd ⟨us, ks.zip ws⟩ (ps.zip (g us ws))
  rel : ∀ {vs : List V} {us : List Value} {zs : List V} {ws : List Value}, Vals vs us → Vals zs ws → Vals (gV vs zs) (g us ws)
def tCallK (sp : Sp) (gV : List V → List V → List V) (E : XK) (t tk : TA) : TE := fun σ H Q => t σ H fun vs H1 => tk σ H1 fun zs H2 => sp (gV vs zs) H2 Q E
variable {g : List Value → List Value → List Value} {gV : List V → List V → List V}
end
/-- names: the parameters first -/
structure FnScope (N P : List Str) (sc : Scope) : Prop where
  kind : sc.kind = .function
  co : sc.isCoroutine = false
  gen : sc.isGenerator = false
  nd : N.Nodup
  pre : N.take P.length = P
  par : ∀ x ∈ P, sc.names.lookup x = some .local ∨ sc.names.lookup x = some .cell
  nofree : ∀ y ∈ sc.names, y.2 ≠ .free
theorem bindL_out {kindOf : Str → Option NameKind} {x : Str} : ∀ {binds : List (Str × Value)} {m : Str → Option Value}, (∀ v, (x, v) ∉ binds) → bindL kindOf binds m x = m x
  | [], _, _ => rfl
  | (n, v) :: r, m, h => by
    unfold bindL
    rw [bindL_out fun w hw => h w (List.mem_cons_of_mem _ hw)]
    split
    · have : x ≠ n := by rintro rfl; exact h v List.mem_cons_self
      simp [this]
    · rfl
theorem bindC_out {kindOf : Str → Option NameKind} {x : Str} : ∀ {binds : List (Str × Value)} {m : Str → Option Value}, (∀ v, (x, v) ∉ binds) → bindC kindOf binds m x = m x
  | [], _, _ => rfl
  | (n, v) :: r, m, h => by
    unfold bindC
    rw [bindC_out fun w hw => h w (List.mem_cons_of_mem _ hw)]
    split
    · rfl
    · have : x ≠ n := by rintro rfl; exact h v List.mem_cons_self
      simp [this]
theorem bindL_get {kindOf : Str → Option NameKind} {x : Str} {v : Value} : ∀ {P : List Str} {vs : List Value} {i : Nat} {m : Str → Option Value}, P.Nodup → P[i]? = some x → vs[i]? = some v → kindOf x = some .local →
    bindL kindOf (P.zip vs) m x = some v
  | [], _, _, _, _, h, _, _ => by simp at h
  | _ :: _, [], _, _, _, _, h, _ => by simp at h
  | p :: P, w :: vs, 0, m, nd, h1, h2, hk => by
    simp at h1 h2; subst h1; subst h2
    show bindL kindOf ((p, w) :: P.zip vs) m p = _
    unfold bindL
    rw [bindL_out fun v hv => (List.nodup_cons.mp nd).1 (List.of_mem_zip hv).1, if_pos hk]
    simp
  | p :: P, w :: vs, i + 1, m, nd, h1, h2, hk => by
    show bindL kindOf ((p, w) :: P.zip vs) m x = _
    unfold bindL
    exact bindL_get (i := i) (List.nodup_cons.mp nd).2 (by simpa using h1) (by simpa using h2) hk
theorem bindC_get {kindOf : Str → Option NameKind} {x : Str} {v : Value} : ∀ {P : List Str} {vs : List Value} {i : Nat} {m : Str → Option Value}, P.Nodup → P[i]? = some x → vs[i]? = some v → kindOf x ≠ some .local →
    bindC kindOf (P.zip vs) m x = some v
  | [], _, _, _, _, h, _, _ => by simp at h
  | _ :: _, [], _, _, _, _, h, _ => by simp at h
  | p :: P, w :: vs, 0, m, nd, h1, h2, hk => by
    simp at h1 h2; subst h1; subst h2
    show bindC kindOf ((p, w) :: P.zip vs) m p = _
    unfold bindC
    rw [bindC_out fun v hv => (List.nodup_cons.mp nd).1 (List.of_mem_zip hv).1, if_neg hk]
    simp
  | p :: P, w :: vs, i + 1, m, nd, h1, h2, hk => by
    show bindC kindOf ((p, w) :: P.zip vs) m x = _
    unfold bindC
    exact bindC_get (i := i) (List.nodup_cons.mp nd).2 (by simpa using h1) (by simpa using h2) hk
/-- the names' values at the entry -/
def start (N : List Str) (vs : List V) : St := vs.map some ++ List.replicate (N.length - vs.length) none
/-- the context of a def's body, at its entry; an exception leaves the frame, then lies as CX says -/
def cxOf (CX : CXT) (P : Program) (w : World) (K : PySem.W.Frag) (mg : Str → Option Value) (base : Heap) (N : List Str) (qual : Str) (scope : Scope) (f : Addr) (cd : Value) (A : Around) (outer : List Env) (s : Shared) (H : Hp) (E : XK) : Cx where
  prog := P
  w := w
  K := K
  mg := mg
  base := base
  A := A.deeper (envOfC qual scope s.heap.objs.size f cd)
  N := N
  s₀ := s
  H₀ := H
  env := envOfC qual scope s.heap.objs.size f cd
  outer := outer
  stack := envOfC qual scope s.heap.objs.size f cd :: outer
  ex := []
  calm := true
  fn := fun _ => true
  pn := []
  xe := fun e s' => wpAny (model P w) (A.deeper (envOfC qual scope s.heap.objs.size f cd)) (leaving (envOfC qual scope s.heap.objs.size f cd) e) (fun _ s'' => CX outer H s E e s'') (fun e' s'' => CX outer H s E e' s'') s'
theorem cell_has {sc : Scope} {n : Nat} {x : Str} (h : sc.names.lookup x = some .cell) : ∃ c, (cellsFrom n sc.names []).lookup x = some c := by
  have q := PySem.W.cellsFrom_some sc.names n [] (.inl h)
  exact Option.isSome_iff_exists.mp q
theorem inv_start {CX : CXT} {P : Program} {w : World} {K : PySem.W.Frag} {mg : Str → Option Value} {base : Heap} {N ps : List Str} {qual : Str} {scope : Scope} {f : Addr} {cd : Value} {A : Around} {outer : List Env} {s s1 : Shared} {H : Hp} {E : XK} {us : List Value} {vs : List V}
    (S : FnScope N ps scope) (hd : A.handled = none) (e0 : Env0 P w K mg base A outer s H) (hl : vs.length = ps.length) (r : Vals vs us)
    (x : InCallC s s.heap.objs.size (bindL (envOfC qual scope s.heap.objs.size f cd).kindOf (ps.zip us) fun _ => none) (cellsFrom (s.heap.objs.size + 1) scope.names []) (bindC (envOfC qual scope s.heap.objs.size f cd).kindOf (ps.zip us) fun _ => none) s1) :
    Inv (cxOf CX P w K mg base N qual scope f cd A outer s H E) [] (start N vs) H s1 := by
  have hpl : ps.length ≤ N.length := by have := congrArg List.length S.pre; rw [List.length_take] at this; omega
  obtain ⟨h1, tk, rfl, hk⟩ := x.done
  have noA : ∀ b : Addr, b ∉ (cxOf CX P w K mg base N qual scope f cd A outer s H E).ex := fun b z => absurd (show b ∈ ([] : List Addr) from z) (by simp)
  refine ⟨⟨e0.mod, S.kind, rfl, rfl, Nat.le_refl _, fun y z c h1 h2 => ?_, fun y hy => ?_, fun y c _ h => ?_, fun _ => hd, Around.frames_deeper e0.frames, .inr ⟨rfl, rfl⟩, fun b z => absurd z (noA b), e0.bs, e0.bsz, fun b _ _ => noA b, fun b z => absurd z (noA b), e0.funs, e0.frf⟩,
    rfl, e0.bare, Un.kept hk, ⟨_, x.toInCall.ns, fun i y v h1 h2 h3 => ?_⟩, fun y c h => ⟨_, x.cell y c h⟩, e0.hok.fresh (Nat.le_refl _), fun y c h => ?_, fun p hp => absurd (show p ∈ ([] : List (Addr × Obj)) from hp) (by simp), e0.hok.kept hk, ?_⟩
  · exact name_of_addr x.apart (PySem.mem_of_lookup h1) (PySem.mem_of_lookup h2)
  · have hy : scope.names.lookup y = some .cell ∨ scope.names.lookup y = some .free := hy
    rcases hy with hy | hy
    · exact cell_has hy
    · exact absurd rfl (S.nofree _ (PySem.mem_of_lookup hy))
  · exact Nat.le_of_lt (x.above y c (PySem.mem_of_lookup h))
  · have hi : i < vs.length := by
      unfold start at h2
      by_cases hi : i < vs.length
      · exact hi
      · rw [List.getElem?_append_right (by simpa using hi)] at h2
        rw [List.getElem?_replicate] at h2
        split at h2 <;> cases h2
    have ha : vs[i]? = some v := by
      unfold start at h2
      rw [List.getElem?_append_left (by simpa using hi), List.getElem?_map] at h2
      cases e : vs[i]? with
      | none => rw [e] at h2; cases h2
      | some a => rw [e] at h2; cases h2; rfl
    obtain ⟨u, hu, rv⟩ := r.get ha
    have hp : ps[i]? = some y := by
      rw [← S.pre, List.getElem?_take_of_lt (by omega)]; exact h1
    have ndP : ps.Nodup := by rw [← S.pre]; exact S.nd.sublist (List.take_sublist _ _)
    refine ⟨u, rv, ?_⟩
    rcases S.par y (List.mem_of_getElem? hp) with k | k
    · exact .inl ⟨k, bindL_get ndP hp hu k⟩
    · obtain ⟨c, e⟩ := cell_has (n := s.heap.objs.size + 1) k
      refine .inr ⟨.inl k, c, e, ?_⟩
      have q := x.cell y c e
      rw [bindC_get ndP hp hu (by show scope.names.lookup y ≠ _; rw [k]; decide)] at q
      exact q
  · exact e0.hok.fresh (Nat.le_of_lt (x.above y c (PySem.mem_of_lookup h)))
  · unfold start
    show _ = N.length
    rw [List.length_append, List.length_map, List.length_replicate]
    omega
/-- THE RULE: a def (or a method) of the text, by its body. The body's reading t is chosen for each entry; it is run at the parameters' values -/
theorem fn_of {CX : CXT} {P : Program} {w : World} {K : PySem.W.Frag} {mg : Str → Option Value} {base : Heap} {k : Nat} {f : Addr} {name qual : Str} {params : Arguments} {body : List Stmt} {scope : Scope} {dV kV doc pm cdv ct oc : Value} {an od : Option Addr}
    {osl : Array (Option Value)} {N ps : List Str} {sp : Sp} (lk : K.lookup f = some ⟨oc, od, .func (PySem.W.fnOf name qual params body scope dV kV doc pm an cdv ct), osl⟩) (hcd : PySem.W.codeIn K cdv qual = true) (S : FnScope N ps scope)
    (len : ∀ vs H Q E, sp vs H Q E → vs.length = ps.length)
    (hbody : ∀ (A : Around) (outer : List Env) (s : Shared) (H : Hp) (vs : List V) (Q : VK) (E : XK), Room k (A.deeper (envOfC qual scope s.heap.objs.size f cdv)) → sp vs H Q E →
      ∃ t, PSs (cxOf CX P w K mg base N qual scope f cdv A outer s H E) body t ∧ t { nx := fun _ H' => Q .non H', rt := Q } (start N vs) H) :
    FnOk P w K mg base CX (k + 1) f (PySem.W.fnOf name qual params body scope dV kV doc pm an cdv ct) ps sp := by
  refine ⟨len, fun A outer s H args us vs Q E hr e0 hb r hsp => ?_⟩
  have hl := len _ _ _ _ hsp
  have KX : K.In s.heap := e0.mod.kin.keeps fun b o e => (e0.bs b o e).1
  have lim : s.heap.NoLimit := e0.mod.nolimit.keeps fun b o e => (e0.bs b o e).1
  have hkind : ∀ y ∈ ps.zip us, scope.names.lookup y.1 = some .local ∨ (scope.names.lookup y.1 = some .cell ∧ ((cellsFrom (s.heap.objs.size + 1) scope.names []).lookup y.1).isSome = true) := fun ⟨n, v⟩ hy => by
    rcases S.par n (List.of_mem_zip hy).1 with q | q
    · exact .inl q
    · exact .inr ⟨q, PySem.W.cellsFrom_some _ _ _ (.inl q)⟩
  refine codeAny_call_function hr.depth (KX _ _ lk) rfl S.co S.gen rfl (PySem.W.codeRec_of KX hcd) (hb _ _ _ _ ?_)
  refine wpAny_newFunctionEnv_cells S.kind hkind fun env he s1 x => ?_
  subst he
  refine ⟨lim.keeps x.toInCall.keep, codeAny_func ?_⟩
  obtain ⟨t, ht, hq⟩ := hbody A outer s H vs Q E (hr.deeper _) hsp
  have I : Inv (cxOf CX P w K mg base N qual scope f cdv A outer s H E) [] (start N vs) H s1 := inv_start S hr.hd e0 hl r x
  refine wpAny_mono (ht [] s1 (start N vs) H _ I hq) (fun fl s' hs => ?_) fun e s' hs => hs
  have fin : ∀ {σ' : St} {H' : Hp} {v : V} {u : Value}, Inv (cxOf CX P w K mg base N qual scope f cdv A outer s H E) [] σ' H' s' → RelV v u → Q v H' → CE outer P w H s Q u s' :=
    fun {σ' H' v u} J rv q => ⟨v, H', J.os, J.bare, J.base, J.hok, rv, q⟩
  cases fl with
  | ret u =>
    obtain ⟨v, σ', H', J, rv, q⟩ := hs
    exact fin J rv q
  | next =>
    obtain ⟨σ', H', J, q⟩ := hs
    exact fin (v := V.non) (u := Value.none) J rfl q
  | brk =>
    obtain ⟨_, _, _, q⟩ := hs
    exact False.elim q
  | cont =>
    obtain ⟨_, _, _, q⟩ := hs
    exact False.elim q
end L2
namespace L2
open PySem PySem.Spec PyProof.Rows
section
variable {X : Cx} {x : Str} {p pos : Pos} {e : Expr} {es : List Expr} {t : TA} {id T : String} {r : List V → Hp → VK → Prop}
def tCB (r : List V → Hp → VK → Prop) (t : TA) : TE := fun σ H Q => t σ H fun vs H1 => r vs H1 Q
/-- f(e, ..), f a built-in function -/
theorem pe_callB (hc : CallR X (.builtin id) r) (hg : Gl X x) (hm : X.mg x = none) (hv : bootBuiltins x = some (.builtin id)) (ha : PA X (e :: es) t) (hn : x ≠ "__name__" := by decide) (hdb : (x == ("__debug__" : Str)) = false := by decide)
    (he : starEach (e :: es) X.env = (false, eval e X.env) :: starEach es X.env := by rfl) (hpl : (backTo pos (starEach es X.env)).any (·.1) = false := by rfl) : PE X (.Call (.Name x p) (e :: es) [] pos) (tCB r t) := by
  intro pins s σ H Q I h
  refine wpAny_Call_Name_kw (ld_blt I hg hm hv ?_ hn hdb)
  exact PyProof.Rows.callWith_builtin1 (thn (ha pos pins s σ H _ I h) fun us s1 ⟨vs, H1, I1, r1, q1⟩ => hc pins s1 σ H1 vs us Q I1 r1 q1) he hpl
/-- T(e, ..), T a built-in type -/
theorem pe_callTy (hc : CallR X (.type T) r) (hg : Gl X x) (hm : X.mg x = none) (hv : bootBuiltins x = some (.type T)) (ha : PA X (e :: es) t) (hn : x ≠ "__name__" := by decide) (hdb : (x == ("__debug__" : Str)) = false := by decide)
    (he : starEach (e :: es) X.env = (false, eval e X.env) :: starEach es X.env := by rfl) (hpl : (backTo pos (starEach es X.env)).any (·.1) = false := by rfl) : PE X (.Call (.Name x p) (e :: es) [] pos) (tCB r t) := by
  intro pins s σ H Q I h
  refine wpAny_Call_Name_kw (ld_blt I hg hm hv ?_ hn hdb)
  exact PyProof.Rows.callWith_type1 (thn (ha pos pins s σ H _ I h) fun us s1 ⟨vs, H1, I1, r1, q1⟩ => hc pins s1 σ H1 vs us Q I1 r1 q1) he hpl
end
end L2
namespace HT
open PySem PyProof.Rows
/-- t < u of tuples of ints -/
def lexLt : List Int → List Int → Bool
  | [], [] => false
  | [], _ :: _ => true
  | _ :: _, [] => false
  | x :: xs, y :: ys => if x = y then lexLt xs ys else decide (x < y)
section
open PySem.SeqAt
open PySem.AutoSeq1 (wpAny_loadPart')
open PySem.MeetsSeq PySem.MeetsSeq2 PySem.MeetsSeq3
end
section
variable {prog : Program} {w : World} {A : Around} {E : Value → Shared → Prop} {s : Shared}
/-- a slice's bound as a place among n (d where it is left out) -/
def sIx (n d : Nat) : Option Int → Nat
  | none => d
  | some v => if v < 0 then (v + (n : Int)).toNat else min v.toNat n
theorem sIx_nat (n d k : Nat) : sIx n d (some (k : Int)) = min k n := by
  show (if (k : Int) < 0 then ((k : Int) + (n : Int)).toNat else min (k : Int).toNat n) = min k n
  rw [if_neg (by omega), Int.toNat_natCast]
theorem sIx_le (n d : Nat) (hd : d ≤ n) (o : Option Int) : sIx n d o ≤ n := by
  cases o with
  | none => exact hd
  | some v =>
    show (if v < 0 then (v + (n : Int)).toNat else min v.toNat n) ≤ n
    by_cases hv : v < 0
    · rw [if_pos hv]; omega
    · rw [if_neg hv]; exact Nat.min_le_right _ _
theorem clip_eq (v : Int) (n d : Nat) : (if v < 0 then max (v + (n : Int)) 0 else min v (n : Int)) = ((sIx n d (some v) : Nat) : Int) := by
  show (if v < 0 then max (v + (n : Int)) 0 else min v (n : Int)) = (((if v < 0 then (v + (n : Int)).toNat else min v.toNat n) : Nat) : Int)
  by_cases hv : v < 0
  · simp only [if_pos hv]; omega
  · simp only [if_neg hv]; omega
theorem adjust_gen (lo hi : Option Int) (n : Nat) : Builtin.Slice.sliceAdjust lo hi 1 (n : Int) = (((sIx n 0 lo : Nat) : Int), ((sIx n n hi : Nat) : Int)) := by
  have h1 : ¬ ((1 : Int) < 0) := by omega
  unfold Builtin.Slice.sliceAdjust
  simp only [h1, if_false]
  refine Prod.ext ?_ ?_
  · cases lo with
    | none => rfl
    | some v => exact clip_eq v n 0
  · cases hi with
    | none => rfl
    | some v => exact clip_eq v n n
theorem places_gen (i j : Nat) : Builtin.Slice.slicePlaces (i : Int) (j : Int) 1 = j - i := by
  unfold Builtin.Slice.slicePlaces
  have h1 : (1 : Int) > 0 := by omega
  simp only [h1, if_true, Int.ediv_one]
  split <;> omega
theorem slicePart_ {v : Value} {o : Option Int} {Q : Option Int → Shared → Prop} (p : IsPart v o) (h : Q o s) : wpAny (model prog w) A (Builtin.Slice.slicePartIndex v) Q E s := by
  cases p with
  | none => exact slicePart_none h
  | int i t => exact slicePart_int h
theorem sliceApplied_gen {sl : Addr} {vl vu : Value} {lo hi : Option Int} {n : Nat} {Q : Int × Int × Nat → Shared → Prop} (hs : s.heap.IsSliceOf sl vl vu .none) (pl : IsPart vl lo) (pu : IsPart vu hi)
    (h : Q (((sIx n 0 lo : Nat) : Int), 1, sIx n n hi - sIx n 0 lo) s) : wpAny (model prog w) A (Builtin.Slice.sliceApplied (.ref sl) (pure (n : Int))) Q E s := by
  obtain ⟨os, hos, hcs, hds⟩ := id hs
  unfold Builtin.Slice.sliceApplied Builtin.Slice.sliceFields
  refine wpAny_bind (wpAny_bind (wpAny_field hos hds (x := vl) rfl (wpAny_bind (wpAny_field hos hds (x := vu) rfl (wpAny_bind (wpAny_field hos hds (x := .none) rfl (wpAny_pure ?_)))))))
  refine wpAny_bind (slicePart_none ?_)
  show wpAny _ _ (if ((1 : Int) == 0) = true then _ else _) _ _ s
  rw [if_neg (by decide)]
  refine wpAny_bind (slicePart_ pl (wpAny_bind (slicePart_ pu (wpAny_bind (wpAny_pure ?_)))))
  show wpAny _ _ (match Builtin.Slice.sliceAdjust lo hi 1 (n : Int) with | (lo, hi) => pure (lo, (1 : Int), Builtin.Slice.slicePlaces lo hi 1)) _ _ s
  rw [adjust_gen lo hi n]
  show wpAny _ _ (pure (((sIx n 0 lo : Nat) : Int), (1 : Int), Builtin.Slice.slicePlaces ((sIx n 0 lo : Nat) : Int) ((sIx n n hi : Nat) : Int) 1)) _ _ s
  rw [places_gen]
  exact wpAny_pure h
theorem pick_gen (xs : Array Value) (i k : Nat) : ((List.range k).filterMap fun (m : Nat) => xs[((i : Int) + (m : Int) * 1).toNat]?).toArray = ((xs.toList.drop i).take k).toArray := by
  have e : (fun (m : Nat) => xs[((i : Int) + (m : Int) * 1).toNat]?) = fun m => xs[i + m]? := by
    funext m
    have : ((i : Int) + (m : Int) * 1).toNat = i + m := by omega
    rw [this]
  rw [e]
  have := pick_run xs i k
  rw [List.filterMap_map] at this
  have e2 : ((fun x => xs[x]?) ∘ fun x => i + x) = fun m => xs[i + m]? := rfl
  rw [e2] at this
  rw [this]
theorem getItem_tuple_cut {t sl : Addr} {items : Array Value} {vl vu : Value} {lo hi : Option Int} {Q : Value → Shared → Prop} (ht : IsTup s.heap t items) (hs : s.heap.IsSliceOf sl vl vu .none) (pl : IsPart vl lo) (pu : IsPart vu hi)
    (hw : ¬ (sIx items.size 0 lo = 0 ∧ sIx items.size items.size hi = items.size))
    (h : Q (.ref s.heap.objs.size) { s with heap := s.heap.push { cls := .type "tuple", data := .seq ((items.toList.drop (sIx items.size 0 lo)).take (sIx items.size items.size hi - sIx items.size 0 lo)).toArray } })
    (hsz : items.size ≤ sizeLine) : wpAny (model prog w) A (getItem (.ref t) (.ref sl)) Q E s := by
  have htake : sizeOk (.seq ((items.toList.drop (sIx items.size 0 lo)).take (sIx items.size items.size hi - sIx items.size 0 lo)).toArray) := by
    show ((items.toList.drop (sIx items.size 0 lo)).take (sIx items.size items.size hi - sIx items.size 0 lo)).toArray.size ≤ sizeLine
    rw [List.size_toArray, List.length_take, List.length_drop, Array.length_toList]
    omega
  have hj : sIx items.size items.size hi ≤ items.size := sIx_le _ _ (Nat.le_refl _) hi
  obtain ⟨os, hos, hcs, hds⟩ := id hs
  have hTs : s.TypeIs (.ref sl) "slice" := ⟨os, hos, hcs⟩
  unfold getItem
  try with_reducible refine wpAny_holding ?_
  first | refine wpAny_bind (wpAny_pure ?_) | skip
  refine wpAny_bind (wpAny_sequenceKey ht.typeIs (by decide) ?_)
  refine wpAny_bind (wpAny_callSpecial?_slot (name := Str.ofString "__getitem__") ht.typeIs PyProof.Rows.slot_tuple_getitem
    (wpAny_call_entry PyProof.Rows.slot_tuple_getitem ht.typeIs entry_tuple_getitem ?_ (args_tuple_getitem _ _)))
  show wpAny _ _ (Builtin.Tuple.tupleItemsOf (.ref t) >>= _) _ _ s
  refine wpAny_bind (tupleItemsOf_ ht ?_)
  refine wpAny_bind (wpAny_typeOf hTs ?_)
  rw [if_pos (by decide)]
  refine wpAny_bind (sliceApplied_gen hs pl pu ?_)
  have hno : ¬ ((((sIx items.size 0 lo : Nat) : Int) == 0 && (1 : Int) == 1 && (sIx items.size items.size hi - sIx items.size 0 lo) == items.size) = true) := by
    intro q
    rw [Bool.and_eq_true, Bool.and_eq_true] at q
    have q1 : ((sIx items.size 0 lo : Nat) : Int) = 0 := eq_of_beq q.1.1
    have q2 : sIx items.size items.size hi - sIx items.size 0 lo = items.size := eq_of_beq q.2
    exact hw ⟨by omega, by omega⟩
  show wpAny _ _ (if (((sIx items.size 0 lo : Nat) : Int) == 0 && (1 : Int) == 1 && (sIx items.size items.size hi - sIx items.size 0 lo) == items.size) = true then _ else _) _ _ s
  rw [if_neg hno, pick_gen]
  first
    | exact wpAny_bind (m := Builtin.Tuple.tupleExact _) (wpAny_newObj_type (wpAny_pure ⟨_, rfl, wpAny_pure h⟩) htake)
    | exact wpAny_bind (m := Builtin.Tuple.tupleExact _) (wpAny_newObj_type (wpAny_bind (wpAny_pure (wpAny_pure ⟨_, rfl, wpAny_pure h⟩))) htake)
    | exact wpAny_bind (wpAny_bind (m := Builtin.Tuple.tupleExact _) (wpAny_newObj_type (wpAny_pure (wpAny_pure ⟨_, rfl, wpAny_pure h⟩)) htake))
    | exact wpAny_bind (wpAny_bind (m := Builtin.Tuple.tupleExact _) (wpAny_newObj_type (wpAny_pure ⟨_, rfl, wpAny_pure h⟩) htake))
end
end HT
namespace L2
open PySem PySem.Spec PyProof.Rows
abbrev TO := St → Hp → (Option Int → Hp → Prop) → Prop
/-- a slice's part (left out, or an int) -/
def PO (X : Cx) (e : Option Expr) (t : TO) : Prop :=
  ∀ (pins : List (Addr × Obj)) (s : Shared) (σ : St) (H : Hp) (Q : Option Int → Hp → Prop), Inv X pins σ H s → t σ H Q →
    wpAny (model X.prog X.w) X.A (evalPart e X.env) (fun u s' => ∃ o H', Inv X pins σ H' s' ∧ IsPart u o ∧ Q o H') X.xe s
def tNoPart : TO := fun _ H Q => Q none H
def tPart (t : TE) : TO := fun σ H Q => t σ H fun x H1 => ∃ i, x = .int i ∧ Q (some i) H1
theorem intsAre_of {ns : List Int} : ∀ {us : List Value}, Vals (ns.map V.int) us → IntsAre us ns := by
  induction ns with
  | nil => intro us r; rw [List.map_nil] at r; cases r; exact .nil
  | cons n ns ih =>
    intro us r
    rw [List.map_cons] at r
    cases r with
    | cons r1 r2 =>
      obtain ⟨t, e⟩ := r1
      subst e
      exact .cons n t (ih r2)
section
variable {X : Cx} {e : Expr} {te : TE} {lo hi : Option Expr} {tl th : TO} {pos p2 : Pos}
theorem po_none : PO X none tNoPart := by
  intro pins s σ H Q I h
  rw [evalPart_none]
  exact wpAny_pure ⟨none, H, I, .none, h⟩
theorem po_some (h : PE X e te) : PO X (some e) (tPart te) := by
  intro pins s σ H Q I hw
  rw [evalPart_some]
  refine thn (h pins s σ H _ I hw) fun u s1 ⟨x, H1, I1, r1, q1⟩ => ?_
  obtain ⟨i, rfl, q⟩ := q1
  obtain ⟨t, rfl⟩ := r1
  exact ⟨some i, H1, I1, .int i t, q⟩
/-- what a slice of a value is, by values: the slice object stands at sl -/
def SlR (X : Cx) (r : V → Option Int → Option Int → Hp → VK → Prop) : Prop :=
  ∀ (pins : List (Addr × Obj)) (s : Shared) (σ : St) (H : Hp) (x : V) (v vl vu : Value) (lo hi : Option Int) (sl : Addr) (Q : VK), Inv X pins σ H s → RelV x v → s.heap.IsSliceOf sl vl vu .none → IsPart vl lo → IsPart vu hi → r x lo hi H Q →
    ∃ T id, typeLookup (.type T) "__getitem__" = pure (some (.builtin id)) ∧ s.TypeIs v T ∧ wpAny (model X.prog X.w) X.A (getItem v (.ref sl)) (EP X pins σ Q) X.xe s
def tSl (r : V → Option Int → Option Int → Hp → VK → Prop) (te : TE) (tl th : TO) : TE := fun σ H Q => te σ H fun x H1 => tl σ H1 fun l H2 => th σ H2 fun u H3 => r x l u H3 Q
/-- a[lo:hi], any a -/
theorem pe_slice {r : V → Option Int → Option Int → Hp → VK → Prop} (hr : SlR X r) (he : PE X e te) (hl : PO X lo tl) (hu : PO X hi th) : PE X (.Subscript e (.Slice lo hi none p2) pos) (tSl r te tl th) := by
  intro pins s σ H Q I h
  refine Subscript_ (thn (he pins s σ H _ I h) fun v s1 ⟨x, H1, I1, r1, q1⟩ => ?_)
  refine wpAny_Slice (thn (hl pins s1 σ H1 _ I1 q1) fun vl s2 ⟨l, H2, I2, pl, q2⟩ => thn (hu pins s2 σ H2 _ I2 q2) fun vu s3 ⟨u, H3, I3, pu, q3⟩ => ?_)
  rw [evalPart_none]
  refine wpAny_pure ?_
  have I4 : Inv X pins σ H3 { s3 with heap := s3.heap.push { cls := .type "slice", data := .fields #[vl, vu, .none] } } := I3.kept (t' := s3.toks) fun b ob q => Heap.get?_push_of_some _ q
  obtain ⟨T, id, hT, ht, hg⟩ := hr pins { s3 with heap := s3.heap.push { cls := .type "slice", data := .fields #[vl, vu, .none] } } σ H3 x v vl vu l u s3.heap.objs.size Q I4 r1 (Heap.IsSliceOf.new ..) pl pu q3
  show wpAny (model X.prog X.w) X.A (subscriptTail e (.Slice lo hi none p2) v (.ref s3.heap.objs.size)) (EP X pins σ Q) X.xe { s3 with heap := s3.heap.push { cls := .type "slice", data := .fields #[vl, vu, .none] } }
  exact tail_any (ops := [.ref s3.heap.objs.size, v]) ht hT hg (by with_unfolding_all rfl)
/-- the items of xs[lo:hi] -/
def cutV (xs : List V) (lo hi : Option Int) : List V := (xs.drop (HT.sIx xs.length 0 lo)).take (HT.sIx xs.length xs.length hi - HT.sIx xs.length 0 lo)
theorem cutV_length (xs : List V) (lo hi : Option Int) : (cutV xs lo hi).length ≤ xs.length := by
  unfold cutV
  rw [List.length_take, List.length_drop]
  omega
/-- t[lo:hi], not the whole of it (the whole would be t itself) -/
def rSlT (K : PySem.W.Frag) : V → Option Int → Option Int → Hp → VK → Prop := fun x lo hi H Q => ∃ a xs, x = .ref a ∧ SqT K H a xs ∧
  ¬ (HT.sIx xs.length 0 lo = 0 ∧ HT.sIx xs.length xs.length hi = xs.length) ∧ ∀ p, H p = none → Q (.ref p) (upd H p (.tup (cutV xs lo hi)))
theorem sl_tup : SlR X (rSlT X.K) := by
  intro pins s σ H x v vl vu lo hi sl Q I rx hs pl pu h
  obtain ⟨a, xs, rfl, hx, hw, q⟩ := h
  cases rx
  obtain ⟨its, r, ht, hz⟩ := I.tuple hx
  have hlen : its.toArray.size = xs.length := by rw [List.size_toArray]; exact r.length.symm
  refine ⟨"tuple", _, PyProof.Rows.slot_tuple_getitem.lookup, ht.typeIs, ?_⟩
  refine HT.getItem_tuple_cut ht hs pl pu (by rw [hlen]; exact hw) ?_ (by rw [hlen]; exact hz)
  rw [hlen]
  refine ⟨.ref s.heap.objs.size, _, I.laid (t' := s.toks) (o := .tup (cutV xs lo hi)) (fun b ob q => Heap.get?_push_of_some _ q) (Nat.le_refl _) ?_, rfl, q _ (I.hok.fresh (Nat.le_refl _))⟩
  exact ⟨Nat.le_trans (cutV_length xs lo hi) hz, _, (r.drop (HT.sIx xs.length 0 lo)).take (HT.sIx xs.length xs.length hi - HT.sIx xs.length 0 lo), IsTup.new _ _⟩
def rLtT (K : PySem.W.Frag) : R2 := fun x y H Q => ∃ a b ns ms, x = .ref a ∧ y = .ref b ∧ SqT K H a (ns.map V.int) ∧ SqT K H b (ms.map V.int) ∧ Q (.bl (HT.lexLt ns ms)) H
/-- t + u, t not empty: u empty gives t itself -/
def rCatT (K : PySem.W.Frag) : R2 := fun x y H Q => ∃ a b xs ys, x = .ref a ∧ y = .ref b ∧ SqT K H a xs ∧ SqT K H b ys ∧ xs ≠ [] ∧ xs.length + ys.length ≤ sizeLine ∧
  (ys = [] → Q (.ref a) H) ∧ (ys ≠ [] → ∀ p, H p = none → Q (.ref p) (upd H p (.tup (xs ++ ys))))
end
end L2
namespace L2
open PySem PySem.Spec PyProof.Rows
/-- the place that an index of any sign means -/
def ixN (n : Nat) (i : Int) : Option Nat := if 0 ≤ i then (if i < n then some i.toNat else none) else if -(n : Int) ≤ i then some (i + n).toNat else none
def atI {α : Type} (xs : List α) (i : Int) : Option α := (ixN xs.length i).bind fun j => xs[j]?
theorem ixN_seq {n : Nat} {i : Int} {j : Nat} (h : ixN n i = some j) : seqIndex? i n = some j ∧ j < n ∧ -(n : Int) ≤ i ∧ i < n := by
  unfold ixN at h
  by_cases h0 : 0 ≤ i
  · rw [if_pos h0] at h
    by_cases h1 : i < n
    · rw [if_pos h1] at h
      have e : i.toNat = j := Option.some.inj h
      exact ⟨by rw [seqIndex_of h0 h1, e], by omega, by omega, h1⟩
    · rw [if_neg h1] at h; cases h
  · rw [if_neg h0] at h
    by_cases h1 : -(n : Int) ≤ i
    · rw [if_pos h1] at h
      have e : (i + n).toNat = j := Option.some.inj h
      exact ⟨by rw [seqIndex_neg (by omega) h1, e], by omega, h1, by omega⟩
    · rw [if_neg h1] at h; cases h
theorem atI_get {α : Type} {xs : List α} {i : Int} {v : α} (h : atI xs i = some v) : ∃ j, seqIndex? i xs.length = some j ∧ xs[j]? = some v ∧ j < xs.length ∧ -(xs.length : Int) ≤ i ∧ i < xs.length := by
  unfold atI at h
  cases e : ixN xs.length i with
  | none => rw [e] at h; cases h
  | some j =>
    rw [e] at h
    obtain ⟨h1, h2, h3, h4⟩ := ixN_seq e
    exact ⟨j, h1, h, h2, h3, h4⟩
theorem atI_nat {α : Type} {xs : List α} {j : Nat} {v : α} (h : xs[j]? = some v) : atI xs (j : Int) = some v := by
  have hj : j < xs.length := (List.getElem?_eq_some_iff.mp h).1
  have e : ixN xs.length (j : Int) = some j := by
    unfold ixN
    rw [if_pos (by omega), if_pos (by omega)]; simp
  unfold atI; rw [e]; exact h
/-- what stands as an index of a plain subscript -/
def PlainIx (b : Expr) : Prop := ∀ o i, subscripted b false o i = operate [o, i] (getItem o i)
/-- a subscript by values -/
def IxR (X : Cx) (r : R2) : Prop :=
  ∀ (value slice : Expr) (pins : List (Addr × Obj)) (s : Shared) (σ : St) (H : Hp) (x y : V) (v u : Value) (Q : VK), Inv X pins σ H s → RelV x v → RelV y u → r x y H Q →
    subscripted slice false v u = operate [v, u] (getItem v u) → wpAny (model X.prog X.w) X.A (subscriptTail value slice v u) (EP X pins σ Q) X.xe s
/-- a call of a builtin's method by values: the receiver, the arguments -/
def MtR (X : Cx) (id : String) (r : V → List V → Hp → VK → Prop) : Prop :=
  ∀ (pins : List (Addr × Obj)) (s : Shared) (σ : St) (H : Hp) (x : V) (xs : List V) (v : Value) (us : List Value) (Q : VK), Inv X pins σ H s → RelV x v → Vals xs us → r x xs H Q →
    wpAny (model X.prog X.w) X.A (call (.builtin id) (v :: us)) (EP X pins σ Q) X.xe s
section
variable {X : Cx} {a b : Expr} {ta tb : TE} {pos : Pos}
/-- a[b] -/
theorem pe_ix {r : R2} (hr : IxR X r) (ha : PE X a ta) (hb : PE X b tb) (hs : PlainIx b) : PE X (.Subscript a b pos) (tOp r ta tb) := by
  intro pins s σ H Q I h
  exact Subscript_ (binT ha hb I h fun v u s2 x y H2 I2 rx ry q => hr a b pins s2 σ H2 x y v u Q I2 rx ry q (hs _ _))
def rIxL (K : PySem.W.Frag) : R2 := fun x y H Q => ∃ p xs i v, x = .ref p ∧ y = .int i ∧ SqL K H p xs ∧ atI xs i = some v ∧ Q v H
def rIxT (K : PySem.W.Frag) : R2 := fun x y H Q => ∃ p xs i v, x = .ref p ∧ y = .int i ∧ SqT K H p xs ∧ atI xs i = some v ∧ Q v H
def rIxS : R2 := fun x y H Q => ∃ z i c, x = .str z ∧ y = .int i ∧ z.length ≤ sizeLine ∧ atI z.cps.toList i = some c ∧ Q (.str ⟨#[c]⟩) H
theorem ix_list : IxR X (rIxL X.K) := by
  intro value slice pins s σ H x y v u Q I rx ry h hs
  obtain ⟨p, xs, i, z, rfl, rfl, hq, he, q⟩ := h
  cases rx
  obtain ⟨t, rfl⟩ := ry
  obtain ⟨its, r, pl, hz⟩ := I.list hq
  obtain ⟨j, h1, h2, h3, h4, h5⟩ := atI_get he
  obtain ⟨w, ew, rw'⟩ := r.get h2
  have hl := r.length
  have hn := line63
  have fin : EP X pins σ Q w s := ⟨z, H, I, rw', q⟩
  by_cases h0 : 0 ≤ i
  · have hj : i.toNat = j := by
      rw [seqIndex_of h0 h5] at h1
      exact Option.some.inj h1
    exact item_listR pl.isList h0 (by omega) (by rw [hj]; simpa using ew) fin hs
  · have hj : (i + (its.toArray.size : Int)).toNat = j := by
      rw [seqIndex_neg (by omega) h4] at h1
      rw [List.size_toArray, ← hl]
      exact Option.some.inj h1
    exact subscriptTail_builtinR (x := w) pl.isList.typeIs slot_list_getitem.lookup
      (wpAny_getItem_list_neg (Q := fun r s' => r = w ∧ EP X pins σ Q r s') pl.isList (by omega) (by rw [List.size_toArray] <;> omega) (by omega) (by rw [hj]; simpa using ew) ⟨rfl, fin⟩) hs
theorem ix_tup : IxR X (rIxT X.K) := by
  intro value slice pins s σ H x y v u Q I rx ry h hs
  obtain ⟨p, xs, i, z, rfl, rfl, hq, he, q⟩ := h
  cases rx
  obtain ⟨t, rfl⟩ := ry
  obtain ⟨its, r, pl, hz⟩ := I.tuple hq
  obtain ⟨j, h1, h2, h3, h4, h5⟩ := atI_get he
  obtain ⟨w, ew, rw'⟩ := r.get h2
  have hl := r.length
  have hn := line63
  have fin : EP X pins σ Q w s := ⟨z, H, I, rw', q⟩
  exact subscriptTail_builtinR (x := w) pl.typeIs slot_tuple_getitem.lookup
    (getItem_tuple (j := j) (Q := fun r s' => r = w ∧ EP X pins σ Q r s') pl (by omega) (by omega) (by rw [List.size_toArray, ← hl]; exact h1) (by simpa using ew) ⟨rfl, fin⟩) hs
theorem ix_str : IxR X rIxS := by
  intro value slice pins s σ H x y v u Q I rx ry h hs
  obtain ⟨z, i, c, rfl, rfl, hz, he, q⟩ := h
  obtain ⟨t, rfl⟩ := rx
  obtain ⟨t', rfl⟩ := ry
  obtain ⟨j, h1, h2, h3, h4, h5⟩ := atI_get he
  have hl : z.cps.toList.length = z.length := by simp [Str.length]
  rw [hl] at h1 h4 h5
  have hn := line63
  exact tail_any (typeIs_str s z t) slot_str_getitem.lookup (getItem_str (c := c) (by
    have e1 : decide (i < -(2 ^ 63 : Int)) = false := decide_eq_false (by omega)
    have e2 : decide (i ≥ 2 ^ 63) = false := decide_eq_false (by omega)
    rw [e1, e2, Bool.or_false]) (by rw [h1]; simpa using h2) ⟨.str ⟨#[c]⟩, H, I.tok _, ⟨_, rfl⟩, q⟩) hs
/-- list, tuple or str -/
def rIx (K : PySem.W.Frag) : R2 := fun x y H Q => rIxL K x y H Q ∨ rIxT K x y H Q ∨ rIxS x y H Q
def rSetL : V → V → V → Hp → (Hp → Prop) → Prop := fun o i v H Q => ∃ p xs k j, o = .ref p ∧ i = .int k ∧ H p = some (.lst xs) ∧ ixN xs.length k = some j ∧ Q (upd H p (.lst (xs.set j v)))
theorem slice_bounds (lo hi : Option Int) (n : Nat) : (sliceBounds lo hi none n).1 = ((HT.sIx n 0 lo : Nat) : Int) ∧ (sliceBounds lo hi none n).2.1 = ((HT.sIx n n hi : Nat) : Int) ∧ (sliceBounds lo hi none n).2.2 = 1 := by
  refine ⟨?_, ?_, rfl⟩
  · cases lo with
    | none => simp [sliceBounds, HT.sIx]
    | some i =>
      simp only [sliceBounds, HT.sIx, Option.getD_none, show (1 : Int) > 0 by decide, if_true]
      by_cases h : i < 0
      · simp only [h, if_true] <;> omega
      · simp only [h, if_false] <;> omega
  · cases hi with
    | none => simp [sliceBounds, HT.sIx]
    | some i =>
      simp only [sliceBounds, HT.sIx, Option.getD_none, show (1 : Int) > 0 by decide, if_true]
      by_cases h : i < 0
      · simp only [h, if_true] <;> omega
      · simp only [h, if_false] <;> omega
theorem slicePick_cut (its : List Value) (lo hi : Option Int) : slicePick its.toArray lo hi none = ((its.drop (HT.sIx its.length 0 lo)).take (HT.sIx its.length its.length hi - HT.sIx its.length 0 lo)).toArray := by
  obtain ⟨h1, h2, h3⟩ := slice_bounds lo hi its.toArray.size
  unfold slicePick
  rw [h1, h2, h3]
  simp only [sliceRange_one, pick_run, List.size_toArray] <;> rfl
/-- xs[lo:hi] of a list: a new list -/
def rSlL (K : PySem.W.Frag) : V → Option Int → Option Int → Hp → VK → Prop := fun x lo hi H Q => ∃ a xs, x = .ref a ∧ SqL K H a xs ∧ ∀ p, H p = none → Q (.ref p) (upd H p (.lst (cutV xs lo hi)))
theorem sl_list : SlR X (rSlL X.K) := by
  intro pins s σ H x v vl vu lo hi sl Q I rx hs pl pu h
  obtain ⟨a, xs, rfl, hx, q⟩ := h
  cases rx
  obtain ⟨its, r, ht, hz⟩ := I.list hx
  have hlen := r.length
  refine ⟨"list", _, slot_list_getitem.lookup, ht.isList.typeIs, ?_⟩
  refine wpAny_getItem_list_slice ht.isList hs pl pu .none (by simp) ?_ (by rw [List.size_toArray] <;> omega)
  rw [slicePick_cut, ← hlen]
  refine ⟨.ref s.heap.objs.size, _, I.laid (t' := s.toks) (o := .lst (cutV xs lo hi)) (fun b ob q => Heap.get?_push_of_some _ q) (Nat.le_refl _) ?_, rfl, q _ (I.hok.fresh (Nat.le_refl _))⟩
  exact ⟨Nat.le_trans (cutV_length xs lo hi) hz, _, 0, (r.drop (HT.sIx xs.length 0 lo)).take (HT.sIx xs.length xs.length hi - HT.sIx xs.length 0 lo), Heap.get?_push_size _ rfl⟩
def flatV : V → Bool
  | .non => true
  | .bl _ => true
  | .int _ => true
  | .str _ => true
  | _ => false
/-- == of flat values -/
def eqV : V → V → Bool
  | .non, .non => true
  | .bl a, .bl b => a == b
  | .bl a, .int b => (if a then 1 else 0) == b
  | .int a, .bl b => a == (if b then 1 else 0)
  | .int a, .int b => a == b
  | .str a, .str b => a == b
  | _, _ => false
theorem eqAt_V {A : Around} {s : Shared} {y x : V} {u v : Value} (ry : RelV y u) (rx : RelV x v) (fy : flatV y = true) (fx : flatV x = true) : SeqAt.EqAt A s u v (eqV y x) := by
  cases y with
  | non =>
    cases ry
    cases x with
    | non => cases rx; exact SeqAt.EqAt.same _
    | bl b => cases rx; exact SeqAt.EqAt.none_bool b
    | int b => obtain ⟨t, rfl⟩ := rx; exact SeqAt.EqAt.none_int b t
    | str b => obtain ⟨t, rfl⟩ := rx; exact SeqAt.EqAt.none_str b t
    | _ => exact absurd (show false = true from fx) Bool.false_ne_true
  | bl a =>
    cases ry
    cases x with
    | non => cases rx; exact SeqAt.EqAt.bool_none a
    | bl b => cases rx; exact SeqAt.EqAt.bool_bool a b
    | int b => obtain ⟨t, rfl⟩ := rx; exact SeqAt.EqAt.bool_int a b t
    | str b => obtain ⟨t, rfl⟩ := rx; exact SeqAt.EqAt.bool_str a b t
    | _ => exact absurd (show false = true from fx) Bool.false_ne_true
  | int a =>
    obtain ⟨t', rfl⟩ := ry
    cases x with
    | non => cases rx; exact SeqAt.EqAt.int_none a t'
    | bl b => cases rx; exact SeqAt.EqAt.int_bool a t' b
    | int b => obtain ⟨t, rfl⟩ := rx; exact SeqAt.EqAt.int_int a t' b t
    | str b => obtain ⟨t, rfl⟩ := rx; exact SeqAt.EqAt.int_str a t' b t
    | _ => exact absurd (show false = true from fx) Bool.false_ne_true
  | str a =>
    obtain ⟨t', rfl⟩ := ry
    cases x with
    | non => cases rx; exact SeqAt.EqAt.str_none a t'
    | bl b => cases rx; exact SeqAt.EqAt.str_bool a t' b
    | int b => obtain ⟨t, rfl⟩ := rx; exact SeqAt.EqAt.str_int a t' b t
    | str b => obtain ⟨t, rfl⟩ := rx; exact SeqAt.EqAt.str_str a t' b t
    | _ => exact absurd (show false = true from fx) Bool.false_ne_true
  | _ => exact absurd (show false = true from fy) Bool.false_ne_true
/-- the items' answers, read off the values (a value's own answer does not lean on its token) -/
def eqU (x : V) (u : Value) : Bool := match u with
  | .none => eqV .non x
  | .bool b => eqV (.bl b) x
  | .int i _ => eqV (.int i) x
  | .str z _ => eqV (.str z) x
  | _ => false
theorem eqU_of {x y : V} {u : Value} (r : RelV y u) (f : flatV y = true) : eqU x u = eqV y x := by
  cases y with
  | non => cases r; rfl
  | bl b => cases r; rfl
  | int i => obtain ⟨t, rfl⟩ := r; rfl
  | str z => obtain ⟨t, rfl⟩ := r; rfl
  | _ => exact absurd (show false = true from f) Bool.false_ne_true
theorem any_eqU {x : V} : ∀ {xs : List V} {us : List Value}, Vals xs us → xs.all flatV = true → us.any (eqU x) = xs.any fun y => eqV y x
  | _, _, .nil, _ => rfl
  | y :: xs, u :: us, .cons r t, f => by
    rw [List.all_cons, Bool.and_eq_true] at f
    rw [List.any_cons, List.any_cons, eqU_of r f.1, any_eqU t f.2]
theorem mem_eqAt {A : Around} {s : Shared} {x : V} {v : Value} (rx : RelV x v) (fx : flatV x = true) : ∀ {xs : List V} {us : List Value}, Vals xs us → xs.all flatV = true → ∀ u ∈ us, SeqAt.EqAt A s u v (eqU x u)
  | _, _, .nil, _ => fun u hu => by cases hu
  | y :: xs, u :: us, .cons r t, f => fun u' hu => by
    rw [List.all_cons, Bool.and_eq_true] at f
    rcases List.mem_cons.mp hu with rfl | hu
    · rw [eqU_of r f.1]; exact eqAt_V r rx f.1 fx
    · exact mem_eqAt rx fx t f.2 u' hu
def inV (x : V) (xs : List V) : Bool := xs.any fun y => eqV y x
/-- x in a list or tuple of flat items -/
def rIn (K : PySem.W.Frag) (neg : Bool) : R2 := fun x y H Q => ∃ p xs, y = .ref p ∧ (SqL K H p xs ∨ SqT K H p xs) ∧ flatV x = true ∧ xs.all flatV = true ∧ Q (.bl (if neg then !inV x xs else inV x xs)) H
theorem op_in_seq : OpR X (compareOp .In) (rIn X.K false) := by
  intro pins s σ H x y v u Q I rx ry h
  obtain ⟨p, xs, rfl, hq, fx, fs, q⟩ := h
  cases ry
  rcases hq with hq | hq
  · obtain ⟨its, r, pl, hz⟩ := I.list hq
    refine SeqAt.in_listAt (eqU x) pl.isList (fun w hw => mem_eqAt rx fx r fs w (by simpa using hw)) ⟨.bl _, H, I, rfl, ?_⟩
    rw [show its.toArray.any (eqU x) = its.any (eqU x) by simp, any_eqU r fs]
    exact q
  · obtain ⟨its, r, pl, hz⟩ := I.tuple hq
    refine SeqAt.in_tupleAt (eqU x) pl (fun w hw => mem_eqAt rx fx r fs w (by simpa using hw)) ⟨.bl _, H, I, rfl, ?_⟩
    rw [show its.toArray.any (eqU x) = its.any (eqU x) by simp, any_eqU r fs]
    exact q
theorem op_notIn_seq : OpR X (compareOp .NotIn) (rIn X.K true) := by
  intro pins s σ H x y v u Q I rx ry h
  obtain ⟨p, xs, rfl, hq, fx, fs, q⟩ := h
  cases ry
  rcases hq with hq | hq
  · obtain ⟨its, r, pl, hz⟩ := I.list hq
    refine SeqAt.notIn_listAt (eqU x) pl.isList (fun w hw => mem_eqAt rx fx r fs w (by simpa using hw)) ⟨.bl _, H, I, rfl, ?_⟩
    rw [show its.toArray.any (eqU x) = its.any (eqU x) by simp, any_eqU r fs]
    exact q
  · obtain ⟨its, r, pl, hz⟩ := I.tuple hq
    refine SeqAt.notIn_tupleAt (eqU x) pl (fun w hw => mem_eqAt rx fx r fs w (by simpa using hw)) ⟨.bl _, H, I, rfl, ?_⟩
    rw [show its.toArray.any (eqU x) = its.any (eqU x) by simp, any_eqU r fs]
    exact q
theorem call_len_seq : CallR X (.builtin "len") (fun xs H Q => ∃ p ys, xs = [.ref p] ∧ (SqL X.K H p ys ∨ SqT X.K H p ys) ∧ Q (.int ys.length) H) := by
  intro pins s σ H xs us Q I r h
  obtain ⟨p, ys, rfl, hq, q⟩ := h
  obtain ⟨u, rfl, rx⟩ := vals1 r
  cases rx
  have hn := line63
  rcases hq with hq | hq
  · obtain ⟨its, r', pl, hz⟩ := I.list hq
    have hlen := r'.length
    exact Calls.call_len_list pl.isList (by simp only [List.size_toArray] <;> omega) ⟨.int ys.length, H, I.tok _, ⟨s.toks + 1, by rw [List.size_toArray, hlen]⟩, q⟩
  · obtain ⟨its, r', pl, hz⟩ := I.tuple hq
    have hlen := r'.length
    exact len_tuple pl (by simp only [List.size_toArray] <;> omega) ⟨.int ys.length, H, I.tok _, ⟨s.toks + 1, by rw [List.size_toArray, hlen]⟩, q⟩
theorem call_list_of : CallR X (.type "list") (fun xs H Q => ∃ p ys, xs = [.ref p] ∧ (SqL X.K H p ys ∨ SqT X.K H p ys) ∧ ∀ l, H l = none → Q (.ref l) (upd H l (.lst ys))) := by
  intro pins s σ H xs us Q I r h
  obtain ⟨p, ys, rfl, hq, q⟩ := h
  obtain ⟨u, rfl, rx⟩ := vals1 r
  cases rx
  have fin : ∀ (its : List Value), Vals ys its → ys.length ≤ sizeLine → ∀ (h' : Heap) (c' : Nat), (∀ b o', s.heap.get? b = some o' → h'.get? b = some o') →
      h'.get? s.heap.objs.size = some { cls := .type "list", dict := none, data := .seq its.toArray c', slots := #[] } → EP X pins σ Q (.ref s.heap.objs.size) { s with heap := h' } := fun its r' hz h' c' kp e =>
    ⟨.ref s.heap.objs.size, _, I.laid (t' := s.toks) kp (Nat.le_refl _) (show ObjOk X.prog X.w _ h' _ (.lst ys) from ⟨hz, its, c', r', e⟩), rfl, q _ (I.hok.fresh (Nat.le_refl _))⟩
  rcases hq with hq | hq
  · obtain ⟨its, r', pl, hz⟩ := I.list hq
    have hlen := r'.length
    obtain ⟨o, ho, hc, n, hd⟩ := pl.isList
    exact call_list_seq p (.inl rfl) ho hc hd (fun h' c' kp e => fin its r' hz h' c' kp e) (by simp only [List.size_toArray] <;> omega)
  · obtain ⟨its, r', pl, hz⟩ := I.tuple hq
    have hlen := r'.length
    obtain ⟨o, ho, hc, n, hd⟩ := pl
    exact call_list_seq p (.inr rfl) ho hc hd (fun h' c' kp e => fin its r' hz h' c' kp e) (by simp only [List.size_toArray] <;> omega)
theorem call_tuple_of : CallR X (.type "tuple") (fun xs H Q => ∃ p ys, xs = [.ref p] ∧ ((SqL X.K H p ys ∧ ∀ l, H l = none → Q (.ref l) (upd H l (.tup ys))) ∨ (SqT X.K H p ys ∧ Q (.ref p) H))) := by
  intro pins s σ H xs us Q I r h
  obtain ⟨p, ys, rfl, h⟩ := h
  obtain ⟨u, rfl, rx⟩ := vals1 r
  cases rx
  rcases h with ⟨hq, q⟩ | ⟨hq, q⟩
  · obtain ⟨its, r', pl, hz⟩ := I.list hq
    have hlen := r'.length
    refine call_tuple_list pl.isList (fun h' kp => ?_) (by simp only [List.size_toArray] <;> omega)
    have I1 : Inv X pins σ H { s with heap := h' } := I.kept (t' := s.toks) kp
    have I2 : Inv X pins σ (upd H h'.objs.size (.tup ys)) { s with heap := h'.push { cls := .type "tuple", data := .seq its.toArray } } :=
      I1.laid (t' := s.toks) (fun b o e => Heap.get?_push_of_some _ e) (Nat.le_refl _) (show ObjOk X.prog X.w _ _ _ (.tup ys) from ⟨hz, its, r', IsTup.new _ _⟩)
    exact ⟨.ref h'.objs.size, _, I2, rfl, q _ (I1.hok.fresh (Nat.le_refl _))⟩
  · obtain ⟨its, r', pl, hz⟩ := I.tuple hq
    exact call_tuple_same pl ⟨.ref p, H, I, rfl, q⟩
/-- the value is of that builtin type -/
def tyV (K : PySem.W.Frag) (T : String) (x : V) (H : Hp) : Prop := match x with
  | .str _ => T = "str"
  | .int _ => T = "int"
  | .ref p => (T = "list" ∧ ∃ xs, SqL K H p xs) ∨ (T = "tuple" ∧ ∃ o, K.lookup p = some o ∧ o.cls = .type "tuple" ∧ o.dict = none) ∨
      (T = "dict" ∧ ((∃ kvs, H p = some (.dK kvs)) ∨ ∃ kvs, H p = some (.dT kvs))) ∨ (T = "set" ∧ ∃ S n, H p = some (.set S n))
  | _ => False
theorem tyV_is {pins : List (Addr × Obj)} {σ : St} {H : Hp} {s : Shared} {T : String} {x : V} {v : Value} (I : Inv X pins σ H s) (r : RelV x v) (ty : tyV X.K T x H) :
    s.TypeIs v T ∧ ∀ a, v = .ref a → ∃ ob, s.heap.get? a = some ob ∧ ob.dict = none := by
  cases x with
  | str z =>
    obtain ⟨t, rfl⟩ := r
    cases (show T = "str" from ty)
    exact ⟨typeIs_str s z t, fun _ e => nomatch e⟩
  | int i =>
    obtain ⟨t, rfl⟩ := r
    cases (show T = "int" from ty)
    exact ⟨typeIs_int s i t, fun _ e => nomatch e⟩
  | ref p =>
    cases r
    rcases ty with ⟨rfl, xs, hq⟩ | ⟨rfl, o, hk, hc, hd⟩ | ⟨rfl, hk⟩ | ⟨rfl, S, n, hk⟩
    · obtain ⟨its, _, pl, _⟩ := I.list hq
      refine ⟨pl.isList.typeIs, fun a e => ?_⟩
      cases e
      obtain ⟨o, n, e, c, hd, _⟩ := pl
      exact ⟨o, e, hd⟩
    · refine ⟨⟨o, I.kIn p o hk, hc⟩, fun a e => ?_⟩
      cases e
      exact ⟨o, I.kIn _ o hk, hd⟩
    · have z : ∃ o, s.heap.get? p = some o ∧ o.ExactDict := by
        rcases hk with ⟨kvs, hk⟩ | ⟨kvs, hk⟩
        · obtain ⟨_, _, _, _, o, _, _, e, ex, _⟩ := I.hok p _ hk
          exact ⟨o, e, ex⟩
        · obtain ⟨_, _, _, _, o, _, _, e, ex, _⟩ := I.hok p _ hk
          exact ⟨o, e, ex⟩
      obtain ⟨o, e, ex⟩ := z
      refine ⟨⟨o, e, ex.1⟩, fun a e2 => ?_⟩
      cases e2
      exact ⟨o, e, ex.2.1⟩
    · obtain ⟨o, _, _, _, e, ex, _⟩ := I.hok p _ hk
      refine ⟨⟨o, e, ex.1⟩, fun a e2 => ?_⟩
      cases e2
      exact ⟨o, e, ex.2.1⟩
  | _ => exact False.elim ty
def tBM0 (K : PySem.W.Frag) (T : String) (r : V → List V → Hp → VK → Prop) (to : TE) : TE := fun σ H Q => to σ H fun x H1 => tyV K T x H1 ∧ r x [] H1 Q
def tBM (K : PySem.W.Frag) (T : String) (r : V → List V → Hp → VK → Prop) (to : TE) (t : TA) : TE := fun σ H Q => to σ H fun x H1 => tyV K T x H1 ∧ t σ H1 fun xs H2 => r x xs H2 Q
variable {o e : Expr} {es : List Expr} {to : TE} {t : TA} {name : Str} {apos cpos : Pos} {T id : String} {r : V → List V → Hp → VK → Prop}
theorem pe_bm0 (pa : PlainAttrs T) (slot : Slot T name id) (hty : typeOf (.builtin id) = pure (.type "method_descriptor")) (hm : MtR X id r) (ho : PE X o to)
    (hbase : attributeBase o name X.env (eval o X.env) = eval o X.env := by rfl) (hline : (apos.endLine == cpos.line) = true := by rfl) : PE X (.Call (.Attribute o name apos) [] [] cpos) (tBM0 X.K T r to) := by
  intro pins s σ H Q I h
  refine wpAny_Call_method0_late hbase hline (thn (ho pins s σ H _ I h) fun v s1 ⟨x, H1, I1, r1, ty, q1⟩ => ?_)
  obtain ⟨h1, h2⟩ := tyV_is I1 r1 ty
  exact ⟨T, id, pa, slot, hty, h1, h2, Calls.callWith_builtin rfl (PySem.evalArgs_none (hm pins s1 σ H1 x [] v [] Q I1 r1 .nil q1))⟩
theorem pe_bm (pa : PlainAttrs T) (slot : Slot T name id) (hty : typeOf (.builtin id) = pure (.type "method_descriptor")) (hm : MtR X id r) (ho : PE X o to) (ha : PA X (e :: es) t)
    (hbase : attributeBase o name X.env (eval o X.env) = eval o X.env := by rfl)
    (hfew : ((backTo cpos (starEach (e :: es) X.env)).all (fun x => !x.1) && (backToKw cpos (keywordEach [] X.env)).all (fun x => x.1.isSome)
      && decide ((e :: es).length + ([] : List Keyword).length + (if ([] : List Keyword).isEmpty then 0 else 1) < 30)) = true := by rfl)
    (hline : (apos.endLine == cpos.line) = true := by rfl) (hs : starEach (e :: es) X.env = (false, eval e X.env) :: starEach es X.env := by rfl) (hplain : (backTo cpos (starEach es X.env)).any (·.1) = false := by rfl) :
    PE X (.Call (.Attribute o name apos) (e :: es) [] cpos) (tBM X.K T r to t) := by
  intro pins s σ H Q I h
  refine wpAny_Call_method_late hbase hfew hline rfl (thn (ho pins s σ H _ I h) fun v s1 ⟨x, H1, I1, r1, ty, q1⟩ => ?_)
  obtain ⟨h1, h2⟩ := tyV_is I1 r1 ty
  refine ⟨T, id, pa, slot, hty, h1, h2, ?_⟩
  have hA := ha cpos pins s1 σ H1 _ I1 q1
  rw [hs] at hA ⊢
  refine Calls.callWith_builtin (by show (false || (backTo cpos (starEach es X.env)).any (·.1)) = false; rw [hplain] <;> rfl) (Calls.evalArgs_plain ?_)
  exact thn hA fun us s2 ⟨vs, H2, I2, r2, q2⟩ => hm pins s2 σ H2 x vs v us Q I2 r1 r2 q2
/- xs.append(e), list.index on a module's tuple .. are MtR facts of 06m -/
end
end L2
namespace L2
open PySem PySem.Spec PyProof.Rows
def MtM (X : Cx) (id : String) (r : V → List V → Hp → VK → Prop) : Prop :=
  ∀ (pins : List (Addr × Obj)) (s : Shared) (σ : St) (H : Hp) (x : V) (xs : List V) (v : Value) (us : List Value) (Q : VK), Inv X pins σ H s → RelV x v → Vals xs us → r x xs H Q →
    wpAny (model X.prog X.w) X.A (call (.builtin id) (v :: us)) (EP X pins σ Q) X.xe s
theorem Vals.one : ∀ {x : V} {us : List Value}, Vals [x] us → ∃ u, us = [u] ∧ RelV x u
  | _, _, .cons r .nil => ⟨_, rfl, r⟩
theorem Vals.zero : ∀ {us : List Value}, Vals [] us → us = []
  | _, .nil => rfl
theorem Vals.dropLast {xs : List V} {us : List Value} (h : Vals xs us) : Vals xs.dropLast us.dropLast := by
  induction h with
  | nil => exact .nil
  | cons r t ih =>
    cases t with
    | nil => exact .nil
    | cons q t' => exact .cons r ih
theorem erase_last {α : Type} (l : List α) : l.eraseIdx (l.length - 1) = l.dropLast := by
  induction l with
  | nil => rfl
  | cons a r ih =>
    cases r with
    | nil => rfl
    | cons b r =>
      have e : (a :: b :: r).length - 1 = ((b :: r).length - 1) + 1 := by
        have h1 : (a :: b :: r).length = r.length + 2 := rfl
        have h2 : (b :: r).length = r.length + 1 := rfl
        omega
      rw [e, List.eraseIdx_cons_succ, ih]
      all_goals rfl
section
variable {X : Cx} {pins : List (Addr × Obj)} {σ : St} {H : Hp} {s : Shared} {l b : Addr} {xs ys zs : List V}
theorem Inv.lset {its its' : List Value} {n : Nat} {f : Array Value → Array Value} {t' : Nat} (I : Inv X pins σ H s) (hH : H l = some (.lst xs))
    (e : s.heap.get? l = some { cls := .type "list", data := .seq its.toArray n }) (hf : f its.toArray = its'.toArray) (hv : Vals ys its') (hz : ys.length ≤ sizeLine) :
    Inv X pins σ (upd H l (.lst ys)) { s with heap := s.heap.update l (Obj.mapSeq f), toks := t' } := by
  have q := PySem.IsL.update e f
  rw [hf] at q
  refine I.write (x := l) (e := l) (by rw [hH]; exact trivial) (.inl rfl) (fun b' u hb hu => (Heap.get?_update_other s.heap (Obj.mapSeq f) (Ne.symm hb)).trans hu) ⟨_, q⟩ ?_
  exact ⟨hz, its', _, hv, q⟩
theorem Inv.lnew {its : List Value} {t' : Nat} (I : Inv X pins σ H s) (hv : Vals ys its) (hz : ys.length ≤ sizeLine) :
    Inv X pins σ (upd H s.heap.objs.size (.lst ys)) { s with heap := s.heap.push { cls := .type "list", data := .seq its.toArray }, toks := t' } :=
  I.laid (fun _ _ q => Heap.get?_push_of_some _ q) (Nat.le_refl _) ⟨hz, its, 0, hv, Heap.get?_push_size _ rfl⟩
theorem Inv.fresh (I : Inv X pins σ H s) : H s.heap.objs.size = none := I.hok.fresh (Nat.le_refl _)
theorem Inv.lstM (I : Inv X pins σ H s) (hH : H l = some (.lst xs)) : xs.length ≤ sizeLine ∧ ∃ (its : List Value) (n : Nat), Vals xs its ∧ xs.length = its.length ∧ s.heap.get? l = some { cls := .type "list", data := .seq its.toArray n } := by
  obtain ⟨z, its, n, r, e⟩ := I.hok l _ hH
  exact ⟨z, its, n, r, r.length, e⟩
theorem notLongL {n : Nat} (h : n ≤ sizeLine) : Builtin.List.listTooLong n = false := by
  unfold Builtin.List.listTooLong
  exact decide_eq_false (by omega)
end
section
variable {X : Cx}
def rAppend : V → List V → Hp → VK → Prop := fun x vs H Q => ∃ l xs y, x = .ref l ∧ vs = [y] ∧ H l = some (.lst xs) ∧ xs.length < sizeLine ∧ Q .non (upd H l (.lst (xs ++ [y])))
theorem mt_append : MtM X "list.append" rAppend := by
  intro pins s σ H x vs v us Q I rx rv h
  obtain ⟨l, xs, y, rfl, rfl, hH, hz, q⟩ := h
  cases rx
  obtain ⟨u, rfl, ru⟩ := rv.one
  obtain ⟨z, its, n, r, hl, e⟩ := I.lstM hH
  refine call_meets F.slot_list_append ⟨_, e, rfl⟩ F.entry_list_append (F.args_list_append_2 _ _) (PySem.list_append l its.toArray n u (by rw [List.size_toArray]; omega)) ⟨e, ?_⟩
  refine ⟨.non, _, I.lset (its' := its ++ [u]) hH e (by simp) (r.append (.cons ru .nil)) ?_, rfl, q⟩
  rw [List.length_append, List.length_singleton]
  omega
def rExtend : V → List V → Hp → VK → Prop := fun x vs H Q => ∃ l b xs zs, x = .ref l ∧ vs = [.ref b] ∧ H l = some (.lst xs) ∧ H b = some (.lst zs) ∧ xs.length + zs.length ≤ sizeLine ∧ Q .non (upd H l (.lst (xs ++ zs)))
theorem mt_extend : MtM X "list.extend" rExtend := by
  intro pins s σ H x vs v us Q I rx rv h
  obtain ⟨l, b, xs, zs, rfl, rfl, hH, hB, hz, q⟩ := h
  cases rx
  obtain ⟨u, rfl, ru⟩ := rv.one
  cases ru
  obtain ⟨z, its, n, r, hl, e⟩ := I.lstM hH
  obtain ⟨z2, its2, n2, r2, hl2, e2⟩ := I.lstM hB
  have hsz : its.toArray.size + its2.toArray.size ≤ sizeLine := by rw [List.size_toArray, List.size_toArray]; omega
  have hlong : ¬ (!its.toArray.isEmpty && Builtin.List.listTooLong (its.toArray.size + its2.toArray.size)) = true := by
    rw [notLongL hsz, Bool.and_false]
    exact Bool.false_ne_true
  refine call_meets F.slot_list_extend ⟨_, e, rfl⟩ F.entry_list_extend (F.args_list_extend_2 _ _)
    (AutoSeq1.list_extend_list_list_0 l its.toArray n b its2.toArray n2 hlong (by rw [List.size_toArray]; omega) (by omega)) ⟨e, e2, ?_⟩
  refine ⟨.non, _, I.lset (its' := its ++ its2) hH e (by simp) (r.append r2) ?_, rfl, q⟩
  rw [List.length_append]
  omega
def rPop : V → List V → Hp → VK → Prop := fun x vs H Q => ∃ l xs y, x = .ref l ∧ vs = [] ∧ H l = some (.lst xs) ∧ xs[xs.length - 1]? = some y ∧ Q y (upd H l (.lst xs.dropLast))
theorem mt_pop : MtM X "list.pop" rPop := by
  intro pins s σ H x vs v us Q I rx rv h
  obtain ⟨l, xs, y, rfl, rfl, hH, hy, q⟩ := h
  cases rx
  have hus := rv.zero
  subst hus
  obtain ⟨z, its, n, r, hl, e⟩ := I.lstM hH
  obtain ⟨u, hu, ru⟩ := r.get hy
  have hy' : its.toArray[its.toArray.size - 1]? = some u := by
    show its.toArray[its.length - 1]? = some u
    rw [← Array.getElem?_toList, ← hl]
    exact hu
  refine call_meets F.slot_list_pop ⟨_, e, rfl⟩ F.entry_list_pop (F.args_list_pop_1 _) (MeetsSeq.list_pop_last l its.toArray n u hy' (by rw [List.size_toArray]; omega)) ⟨e, ?_⟩
  refine ⟨y, _, I.lset (its' := its.dropLast) hH e ?_ r.dropLast ?_, ru, q⟩
  · show its.toArray.eraseIdxIfInBounds (its.toArray.size - 1) = its.dropLast.toArray
    rw [List.size_toArray, List.eraseIdxIfInBounds_toArray, erase_last]
  · rw [List.length_dropLast]
    omega
def rPopAt : V → List V → Hp → VK → Prop := fun x vs H Q => ∃ l xs i k y, x = .ref l ∧ vs = [.int i] ∧ H l = some (.lst xs) ∧ -(2 ^ 63) ≤ i ∧ i < 2 ^ 63 ∧ seqIndex? i xs.length = some k ∧ xs[k]? = some y ∧ Q y (upd H l (.lst (xs.eraseIdx k)))
def rReverse : V → List V → Hp → VK → Prop := fun x vs H Q => ∃ l xs, x = .ref l ∧ vs = [] ∧ H l = some (.lst xs) ∧ Q .non (upd H l (.lst xs.reverse))
def rClear : V → List V → Hp → VK → Prop := fun x vs H Q => ∃ l xs, x = .ref l ∧ vs = [] ∧ H l = some (.lst xs) ∧ Q .non (upd H l (.lst []))
def rCat : R2 := fun x y H Q => ∃ l b xs zs, x = .ref l ∧ y = .ref b ∧ H l = some (.lst xs) ∧ H b = some (.lst zs) ∧ xs.length + zs.length ≤ sizeLine ∧ ∀ p, H p = none → Q (.ref p) (upd H p (.lst (xs ++ zs)))
theorem op_cat : OpR X (binaryOp .Add) rCat := by
  intro pins s σ H x y v u Q I rx ry h
  obtain ⟨l, b, xs, zs, rfl, rfl, hH, hB, hz, q⟩ := h
  cases rx
  cases ry
  obtain ⟨z, its, n, r, hl, e⟩ := I.lstM hH
  obtain ⟨z2, its2, n2, r2, hl2, e2⟩ := I.lstM hB
  refine PySem.P.add_list e e2 ?_ (by rw [List.size_toArray, List.size_toArray]; omega)
  have ea : its.toArray ++ its2.toArray = (its ++ its2).toArray := by simp
  rw [ea]
  exact ⟨.ref _, _, I.lnew (t' := s.toks) (r.append r2) (by rw [List.length_append]; omega), rfl, q _ I.fresh⟩
/-- a list times an int (a negative one is nothing) -/
def rRep : R2 := fun x y H Q => ∃ l k xs, x = .ref l ∧ y = .int k ∧ H l = some (.lst xs) ∧ -(2 ^ 63) ≤ k ∧ k < 2 ^ 63 ∧ xs.length * k.toNat ≤ sizeLine ∧
  ∀ p, H p = none → Q (.ref p) (upd H p (.lst (List.replicate k.toNat xs).flatten))
end
section
variable {prog : Program} {w : World} {A : Around} {E : Value → Shared → Prop} {s : Shared}
end
section
variable {X : Cx}
end
end L2
namespace Att
open PySem PySem.W PySem.Calls PyProof.Rows
theorem ints_of_wellAll {P : Params} {h : Heap} : ∀ (ns : List Int) (vs : List Value), WellAll P h vs (ns.map WData.int) → IntsAre vs ns := by
  intro ns
  induction ns with
  | nil =>
    intro vs w
    rw [List.map_nil] at w
    cases w
    exact .nil
  | cons n ns ih =>
    intro vs w
    rw [List.map_cons] at w
    cases w with
    | cons a b =>
      cases a
      exact .cons _ _ (ih _ b)
theorem script_of {l : OpenLaw} {n : Nat} (hn : l.most = some n) {P : Params} {h : Heap} {args : List WData} {vals : List Value}
    (hpre : l.row.toRowW.claim.pre args = true) (hwl : WellAll P h vals args) :
    ∃ a vs ns, vals = [Value.ref a] ∧ args = [WData.list (ns.map WData.int)] ∧ h.get? a = some { cls := .type "list", data := .seq vs.toArray } ∧ IntsAre vs ns ∧ ns.length ≤ n := by
  have hsh : WShape.hasAll [] args [.list .int] = true := (pre_splitW hpre).1
  have hc : l.pre.holds [] { args := args } = true := (pre_splitW hpre).2
  obtain ⟨d, r, rfl, h1, h2⟩ := hasAllW_cons hsh
  obtain rfl := hasAllW_nil h2
  obtain ⟨xs, rfl, h3⟩ := hasW_list h1
  obtain ⟨ns, rfl⟩ := items_int h3
  have hlen : ns.length ≤ n := by
    unfold OpenLaw.pre at hc
    have h4 : (WTm.not (.lt (.lit (.int (n : Int))) (.len (.arg 0)))).holds [] { args := [.list (ns.map .int)] } = true := by
      have h4 := (holds_andW hc).1
      rw [hn] at h4
      exact h4
    have h5 := condW_of h4 (w_not (w_lt w_lit (w_len_list (w_arg rfl))))
    rw [List.length_map] at h5
    refine Nat.le_of_not_lt fun q => ?_
    have q' : (n : Int) < ((ns.length : Nat) : Int) := by omega
    first
      | (rw [decide_eq_true q'] at h5; exact absurd h5 (by decide))
      | (simp at h5; omega)
  cases hwl with
  | cons w1 w2 =>
    cases w2
    cases w1 with
    | list ho hall => exact ⟨_, _, ns, rfl, rfl, ho, ints_of_wellAll ns _ hall, hlen⟩
theorem post_true (l : OpenLaw) (args : List WData) : l.row.toRowW.claim.post args (.bool true) args = true :=
  postW_of (r := l.row.toRowW) (X := (true == true))
    (show WShape.has [] (.bool true) .bool = true by first | rfl | decide | simp [WShape.has, WShape.arms, WShape.armsAll])
    (show (WTm.eq .res (.lit (.bool true))).value [] { args := args, res := some (.bool true), after := args } = some (.bool (true == true)) from w_eq_bool (w_res rfl) w_lit) rfl
section
variable {prog : Program} {w : World} {A : Around} {E : Value → Shared → Prop} {s : Shared} {K : Frag}
def noObjs (h : Heap) : Heap := { h with objs := #[] }
def ledger (h : Heap) (L d : Addr) : List (Addr × Obj) := (List.range h.objs.size).filterMap fun a => if a = L ∨ a = d then none else (h.get? a).map fun o => (a, o)
end
end Att
namespace L2
open PySem PySem.Spec PyProof.Rows
theorem vals_ints : ∀ {vs : List Value} {ns : List Int}, IntsAre vs ns → Vals (ns.map V.int) vs
  | _, _, .nil => .nil
  | _, _, .cons n t h => .cons ⟨t, rfl⟩ (vals_ints h)
/-- nothing is tracked but the script, known to the object (or it is an object of the module) -/
def Only (H : Hp) : Prop := ∀ b, H b = none ∨ ∃ o xs, H b = some (.frz o (.lst xs))
/-- THE HEAD: the law's promise, at the heap behind the top. F, the promise of the law's def, may use that base is part of the heap (so K.In base, base.Ns mainGlobals mg stand in Mod) -/
theorem law_call {P : Program} {w : World} {K : PySem.W.Frag} {mg mb : Str → Option Value} {CX : CXT} {k : Nat} {fa a : Addr} {fd : FuncData} {x : Str} {sp : Sp} {s₁ : Shared} {vs : List Value} {ns : List Int}
    (KX : K.In s₁.heap) (hns : s₁.heap.Ns mainGlobals mg) (hb : s₁.heap.Ns builtinsNs mb) (hbb : ∀ x : Str, x ≠ "__name__" → mb x = bootBuiltins x) (hlim : s₁.heap.NoLimit) (hg : s₁.gens = #[])
    (ha : s₁.heap.get? a = some { cls := .type "list", data := .seq vs.toArray }) (hi : IntsAre vs ns) (hl : ns.length ≤ sizeLine) (hr : Room k callerA)
    (F : ∀ base : Heap, K.In base → base.Ns mainGlobals mg → FnOk P w K mg base CX k fa fd [x] sp) (hbind : ∀ (s : Shared) (u : Value), BindsTo s fd ⟨[u], []⟩ [(x, u)])
    (hsp : ∀ H : Hp, Only H → SqL K H a (ns.map V.int) → sp [.ref a] H (fun v _ => v = .bl true) fun _ _ _ => False)
    (hCX : ∀ H e s', CX [] H s₁ (fun _ _ _ => False) e s' → False) :
    codeAny (model P w) callerA (.call (.ref fa) ⟨[.ref a], []⟩) (fun r s' => r = .ok (.ret (.bool true)) ∧ OldK s₁.heap s'.heap ∧ s'.os = s₁.os ∧ AllBare s'.gens) s₁ := by
  have rv := vals_ints hi
  have lenV := hi.length
  -- from an abstract heap in which nothing but the script may be tracked
  have core : ∀ H : Hp, Only H → SqL K H a (ns.map V.int) → HOk P w H s₁.heap → (∀ b, H b ≠ none → b = a) → (H a ≠ none → K.lookup a = none) →
      codeAny (model P w) callerA (.call (.ref fa) ⟨[.ref a], []⟩) (fun r s' => r = .ok (.ret (.bool true)) ∧ OldK s₁.heap s'.heap ∧ s'.os = s₁.os ∧ AllBare s'.gens) s₁ := by
    intro H hO hS hok hA hK
    have base_of : ∀ {b : Addr} {o : Obj}, s₁.heap.get? b = some o → H b = none → (hidT s₁.heap H).get? b = some o := fun e n => hidT_get e n
    have noA : ∀ {b : Addr} {o : Obj} {es : Array DictEntry} {ep : Nat}, s₁.heap.get? b = some o → o.data = .dict es ep → H b = none := fun {b o es ep} e d => by
      cases q : H b with
      | none => rfl
      | some u =>
        have e' : b = a := hA b (by rw [q]; simp)
        subst e'
        rw [ha] at e; cases e
        have d' : Data.seq vs.toArray _ = Data.dict es ep := d
        cases d'
    have nsK : ∀ {b : Addr} {m : Str → Option Value}, s₁.heap.Ns b m → (hidT s₁.heap H).Ns b m := fun {b m} ⟨o, es, ep, e, d, r⟩ => ⟨o, es, ep, base_of e (noA e d), d, r⟩
    have hKb : K.In (hidT s₁.heap H) := fun b o e => base_of (KX b o e) (by
      cases q : H b with
      | none => rfl
      | some u =>
        have e' : b = a := hA b (by rw [q]; simp)
        subst e'
        rw [hK (by rw [q]; simp)] at e; cases e)
    have hM : Mod K mg (hidT s₁.heap H) := ⟨hKb, nsK hns, ⟨mb, nsK hb, hbb⟩, let ⟨mc, h1, h2⟩ := hlim; ⟨mc, nsK h1, h2⟩⟩
    have e0 : Env0 P w K mg (hidT s₁.heap H) callerA [] s₁ H := ⟨rfl, hM, fun b o e => of_hidT e, Nat.le_of_eq (hidT_size _ _), trivial, fun b hb => absurd (show b ∈ ([] : List Addr) from hb) (by simp), hok, .of_eq hg⟩
    refine codeAny_mono ((F _ hKb (nsK hns)).run callerA [] s₁ H ⟨[.ref a], []⟩ [.ref a] [.ref a] _ _ hr e0 (hbind s₁ (.ref a)) (.cons rfl .nil) (hsp H hO hS)) fun r s' h => ?_
    cases r with
    | error e => exact (hCX H e s' h).elim
    | ok fl =>
      cases fl with
      | next => exact False.elim h
      | brk => exact False.elim h
      | cont => exact False.elim h
      | ret u =>
        obtain ⟨v, H', os, bare, un, hok', r', q⟩ := h
        have q' : v = .bl true := q
        subst q'
        obtain rfl : u = Value.bool true := r'
        refine ⟨rfl, OldK.of_keep fun b o e => ?_, os, bare⟩
        cases q : H b with
        | none => exact un.keep b o e q (by intro z; exact absurd (show b ∈ ([] : List Addr) from z) (by simp)) (by simp)
        | some u =>
          rcases hO b with z | ⟨ob, xs, z⟩
          · rw [q] at z; cases z
          · have z2 := un.frzs b ob _ z
            obtain ⟨e1, _⟩ := hok b _ z
            obtain ⟨e2, _⟩ := hok' b _ z2
            rw [e] at e1; cases e1
            exact e2
  cases hk : K.lookup a with
  | some o =>
    -- the script is one of the module's own objects
    have e := KX a o hk
    rw [ha] at e
    cases e
    refine core (fun _ => none) (fun _ => .inl rfl) (.inr ⟨_, vs.toArray, _, hk, rfl, rfl, rfl, by rw [List.size_toArray, lenV]; exact hl, by simpa using rv⟩) (fun b u z => by have z' : (none : Option HO) = some u := z; cases z') (fun b z => absurd rfl z) fun z => absurd rfl z
  | none =>
    refine core (fun b => if b = a then some (.frz { cls := .type "list", data := .seq vs.toArray } (.lst (ns.map V.int))) else none) (fun b => ?_) (.inl (.inr ⟨{ cls := .type "list", data := .seq vs.toArray }, if_pos rfl⟩)) (fun b u z => ?_) (fun b z => ?_) fun _ => hk
    · by_cases hb : b = a
      · exact .inr ⟨_, _, if_pos hb⟩
      · exact .inl (if_neg hb)
    · by_cases hb : b = a
      · have z' := (if_pos hb).symm.trans z
        cases z'
        subst hb
        exact ⟨ha, by rw [List.length_map]; exact hl, vs, _, rv, ha⟩
      · have z' := (if_neg hb).symm.trans z
        cases z'
    · by_cases hb : b = a
      · exact hb
      · exact absurd (if_neg hb) z
end L2
namespace L2
open PySem PySem.Spec PyProof.Rows
abbrev KOf {K : PySem.W.Frag} {h : Heap} (_ : K.In h) : PySem.W.Frag := K
end L2
/- THE LAST THEOREM (shape; LID, My.* are yours):
   My.Adr: a structure of the addresses that your layer names (classes, functions); My.Txt K t: a structure (Prop) of the equations over K;
   My.txt_mk : {K} {implicit addresses ..} (e1 : nsIn K mainGlobals "law" = some (some (.ref f))) (e2 : K.lookup f = some ⟨oc, od, .func (fnOf "law" "law" params body scope dV kV doc pm an cdv ct), sl⟩) (e3 : codeIn K cdv "law" = true) .. : ∃ t, My.Txt K t
set_option maxRecDepth 100000 in
set_option maxHeartbeats 0 in
theorem PySem.Challenge.cw_LID_holds : PySem.Challenge.rw_LID.Holds := by
  w_on; o_law; k_head; (case hw => w_witness2)
  k_fill
  refine L2.walk_of (l := PySem.Challenge.rw_LID) (n := 63) (k := 40) (x := "script") (CX := fun w => ..) (sp := fun _ => My.sp_law) rfl (by decide) rfl ⟨rfl, by decide, by decide⟩ (fun w h Y => PySem.W.kIn_of Y) ?F ?S ?C
  case F =>
    intro w mg fa h KX G hmg
    have T : ∃ t, My.Txt (L2.KOf KX) t := by
      dsimp only [L2.KOf]                          -- K must stand as «<heap const> w.params» for k_is
      refine' My.txt_mk ?e1 ?e2 ?e3 ..
      (case e1 => PySem.W.k_is)                    -- in the order: a name -> its address -> its object -> its parts
      (case e2 => PySem.W.k_is)
      ..
    obtain ⟨t, T⟩ := T
    have e0 := hmg.symm.trans (PySem.W.mg_of KX G T.law)
    cases e0                                       -- fa is the law's own address
    exact ⟨_, fun s u => .of_eq rfl, fun base kb nb => My.law_fn T kb nb⟩     -- if «.of_eq rfl» comes too early: refine' ⟨_, ?b, fun base kb nb => My.law_fn T kb nb⟩; exact fun s u => .of_eq rfl
  case S => exact fun w H a ns hl hO hS => ..
  case C => exact ..
(the tactic k_is has no namespace: write k_is) -/
namespace L2
open PySem PySem.Spec PyProof.Rows
/-- the j-th statement of a class's body -/
def inClass (s : Stmt) (j : Nat) : Stmt := match s with
  | .ClassDef _ _ _ body _ _ _ _ _ _ _ => body.getD j (.Pass ⟨0, 0, 0, 0⟩)
  | _ => .Pass ⟨0, 0, 0, 0⟩
def defArgs (s : Stmt) : Arguments := match s with
  | .FunctionDef _ a _ _ _ _ _ _ _ _ => a
  | _ => { posonlyargs := [], args := [], vararg := none, kwonlyargs := [], kw_defaults := [], kwarg := none, defaults := [] }
def defBody (s : Stmt) : List Stmt := match s with
  | .FunctionDef _ _ b _ _ _ _ _ _ _ => b
  | _ => []
def defScope (s : Stmt) : Scope := match s with
  | .FunctionDef _ _ _ _ _ _ sc _ _ _ => sc
  | _ => { kind := .function, names := [], isGenerator := false, isCoroutine := false }
abbrev CX0 : CXT := fun _ _ _ _ _ _ => False
abbrev E0 : XK := fun _ _ _ => False
theorem pass0 {X : Cx} : Passes CX0 X E0 := fun _ _ _ _ _ _ _ h => h.elim
structure Fun (K : PySem.W.Frag) (x qual : Str) (st : Stmt) (f : Addr) (fd : FuncData) : Prop where
  ex : ∃ (oc : Value) (od : Option Addr) (kV doc pm : Value) (an : Option Addr) (cdv ct : Value) (osl : Array (Option Value)),
    fd = PySem.W.fnOf x qual (defArgs st) (defBody st) (defScope st) .none kV doc pm an cdv ct ∧ K.lookup f = some ⟨oc, od, .func fd, osl⟩ ∧ PySem.W.codeIn K cdv qual = true
  kp : PySem.W.keepIn K (.ref f) = true
section
variable {P : Program} {w : World} {K : PySem.W.Frag} {mg : Str → Option Value} {base : Heap}
/-- THE RULE for a def: its body as a term of rules, and the reading of that term -/
theorem Fun.ok {x qual : Str} {st : Stmt} {f : Addr} {fd : FuncData} {N ps : List Str} {k : Nat} {sp : Sp} (F : Fun K x qual st f fd) (S : FnScope N ps (defScope st)) (len : ∀ vs H Q E, sp vs H Q E → vs.length = ps.length)
    (hbody : ∀ (cdv : Value) (A : Around) (outer : List Env) (s : Shared) (H : Hp) (vs : List V) (Q : VK) (E : XK), Room k (A.deeper (envOfC qual (defScope st) s.heap.objs.size f cdv)) → sp vs H Q E →
      ∃ t, PSs (cxOf CX0 P w K mg base N qual (defScope st) f cdv A outer s H E).nox (defBody st) t ∧ t { nx := fun _ H' => Q .non H', rt := Q } (start N vs) H) : FnOk P w K mg base CX0 (k + 1) f fd ps sp := by
  obtain ⟨oc, od, kV, doc, pm, an, cdv, ct, osl, rfl, lk, hcd⟩ := F.ex
  refine fn_of lk hcd S len fun A outer s H vs Q E hr hsp => ?_
  obtain ⟨t, h, q⟩ := hbody cdv A outer s H vs Q E hr hsp
  exact ⟨t, h.nox, q⟩
/-- how its arguments bind (no defaults): h is «fun _ _ _ _ _ _ us hl => match us, hl with | [_, _], _ => rfl», one _ a parameter -/
theorem Fun.binds {x qual : Str} {st : Stmt} {f : Addr} {fd : FuncData} {ps : List Str} (F : Fun K x qual st f fd)
    (h : ∀ (kV doc pm : Value) (an : Option Addr) (cdv ct : Value) (us : List Value), us.length = ps.length → bindArgs (PySem.W.fnOf x qual (defArgs st) (defBody st) (defScope st) .none kV doc pm an cdv ct) ⟨us, []⟩ = pure (ps.zip us)) : Binds K fd ps [] := by
  obtain ⟨oc, od, kV, doc, pm, an, cdv, ct, osl, rfl, lk, hcd⟩ := F.ex
  exact .all (h kV doc pm an cdv ct)
theorem fun_mk {x qual : Str} {st : Stmt} {f : Addr} {oc : Value} {od an : Option Addr} {osl : Array (Option Value)} {kV doc pm cdv ct : Value} (l : K.lookup f = some ⟨oc, od, .func (PySem.W.fnOf x qual (defArgs st) (defBody st) (defScope st) .none kV doc pm an cdv ct), osl⟩)
    (c : PySem.W.codeIn K cdv qual = true) (k : PySem.W.keepIn K (.ref f) = true) : Fun K x qual st f (PySem.W.fnOf x qual (defArgs st) (defBody st) (defScope st) .none kV doc pm an cdv ct) := ⟨⟨oc, od, kV, doc, pm, an, cdv, ct, osl, rfl, l, c⟩, k⟩
end
theorem hu_of {A : Around} {k : Nat} (hr : Room k A) : A.units + 1 < cLine := Nat.lt_of_le_of_lt (Nat.add_le_add_left (by decide : 1 ≤ 64) _) hr.units
section
variable {X : Cx}
theorem pv (i : Nat) {x : Str} {pos : Pos} (hN : X.N[i]? = some x := by rfl) (hv : Vis X.env.scope x := by first | exact Or.inl rfl | exact Or.inr (Or.inl rfl) | exact Or.inr (Or.inr rfl)) (hd : (x == ("__debug__" : Str)) = false := by decide)
    (hcd : (x == ("__classdict__" : Str)) = false := by decide) : PE X (.Name x pos) (tVar i) := pe_var hN hv hd hcd
end
theorem iteF {A B : Prop} (h : B) : if false = true then A else B := by
  rw [if_neg Bool.false_ne_true]
  exact h
theorem iteT {A B : Prop} (h : A) : if true = true then A else B := by
  rw [if_pos rfl]
  exact h
/-- all that was tracked is as it was -/
def Same (H H' : Hp) : Prop := ∀ b o, H b = some o → H' b = some o
theorem Same.refl (H : Hp) : Same H H := fun _ _ h => h
theorem Same.trans {H H1 H2 : Hp} (a : Same H H1) (b : Same H1 H2) : Same H H2 := fun c o h => b c o (a c o h)
theorem Same.free {H H' : Hp} (e : Same H H') {l : Addr} (h : H' l = Option.none) : H l = Option.none := by
  cases q : H l with
  | none => rfl
  | some o =>
    rw [e l o q] at h
    cases h
theorem Same.seq {K : PySem.W.Frag} {H H' : Hp} {a : Addr} {xs : List V} (e : Same H H') (h : SqL K H a xs) : SqL K H' a xs := by
  rcases h with (h | ⟨o, h⟩) | h
  · exact .inl (.inl (e _ _ h))
  · exact .inl (.inr ⟨o, e _ _ h⟩)
  · exact .inr h
end L2
namespace FW
structure Low (a b : Int) : Prop where
  pos : 0 < b
  cop : Int.gcd a b = 1
abbrev g (a b : Int) : Int := ((Int.gcd a b : Nat) : Int)
/-- what the law and the program make of two numbers, the second above 0 -/
def low (t b : Int) : Int × Int := (t / g t b, b / g t b)
def plusM (a b c d : Int) : Int × Int :=
  let s := g b d
  let top := a * (d / s) + c * (b / s)
  (top / g top s, b / g top s * (d / s))
def timesM (a b c d : Int) : Int × Int := (a / g a d * (c / g c b), b / g c b * (d / g a d))
/-- a fraction that is W over S -/
structure IsQ (p : Int × Int) (W S : Int) : Prop where
  lo : Low p.1 p.2
  eq : p.1 * S = W * p.2
end FW
namespace L2
open PySem PySem.Spec PyProof.Rows
/-- a def of the text as it stands behind the top, under its own name -/
structure FnAt (K : PySem.W.Frag) (mg : Str → Option Value) (x : Str) (st : Stmt) (ps : List Str) (f : Addr) (fd : FuncData) : Prop where
  F : Fun K x x st f fd
  b : Binds K fd ps []
  m : mg x = some (.ref f)
theorem Same.upd {H : Hp} {p : Addr} {o : HO} (h : H p = Option.none) : Same H (upd H p o) := fun b u e => by
  rw [upd_ne (ne_of_none e h)]
  exact e
theorem Same.updR {H H' : Hp} {p : Addr} {o : HO} (e : Same H H') (h : H' p = Option.none) : Same H (L2.upd H' p o) := e.trans (.upd h)
theorem Same.tup {K : PySem.W.Frag} {H H' : Hp} {a : Addr} {xs : List V} (e : Same H H') (h : SqT K H a xs) : SqT K H' a xs := by
  rcases h with (h | ⟨o, h⟩) | h
  · exact .inl (.inl (e _ _ h))
  · exact .inl (.inr ⟨o, e _ _ h⟩)
  · exact .inr h
theorem iteBB {c : Bool} {A B : Prop} (h1 : c = true → A) (h2 : c = false → B) : if c = true then A else B := by
  cases c with
  | true => exact iteT (h1 rfl)
  | false => exact iteF (h2 rfl)
theorem two_le : (2 : Nat) ≤ sizeLine := by decide
/-- an int of less than 2 ^ 2000 -/
def Sm (x : Int) : Prop := x.natAbs < 2 ^ 2000
end L2
namespace Att
open PySem PySem.W PySem.Calls PyProof.Rows
theorem weight_mem : ∀ {ns : List Int} {n : Int}, n ∈ ns → WData.weight (.int n) ≤ WData.weightAll (ns.map WData.int)
  | m :: r, n, h => by
    show WData.weight (.int n) ≤ WData.weight (.int m) + 1 + WData.weightAll (r.map WData.int)
    rcases List.mem_cons.mp h with e | e
    · subst e
      omega
    · have := weight_mem (ns := r) e
      omega
theorem bits_of_lay {ns : List Int} (h : WData.layableAll [WData.list (ns.map WData.int)] = true) : ∀ n ∈ ns, Builtin.Int.intBits n ≤ 2 ^ 20 := by
  intro n hn
  have h1 : (WData.list (ns.map WData.int)).layable = true := (layW_cons h).1
  have h2 : WData.weight (WData.list (ns.map WData.int)) ≤ 2 ^ 20 := of_decide_eq_true (Bool.and_eq_true_iff.mp h1).2
  have h3 : WData.weightAll (ns.map WData.int) ≤ 2 ^ 20 := by simpa only [WData.weight] using h2
  have h4 := weight_mem hn
  have h5 : WData.weight (.int n) ≤ 2 ^ 20 := Nat.le_trans h4 h3
  simpa only [WData.weight, Builtin.Int.intBits] using h5
/-- attach_call, with the bound of the script's ints -/
theorem attach_callB {l : OpenLaw} {n : Nat} {q : Program} {loose : List Str} {XP : (Str → Option Value) → Heap → Prop} {YP : World → Heap → Prop} {d : DefRec}
    (hn : l.most = some n) (hdf : d.params.defaults = [])
    (call : ∀ (w : World) (s₀ s₁ : Shared) (mg mb : Str → Option Value) (fa : Addr) (a : Addr) (vs : List Value) (ns : List Int),
      Ground q loose [] XP w s₀ mg mb s₁.heap → YP w s₁.heap → mg d.name = some (.ref fa) →
      s₁.heap.get? a = some { cls := .type "list", data := .seq vs.toArray } → IntsAre vs ns → ns.length ≤ n → (∀ x ∈ ns, Builtin.Int.intBits x ≤ 2 ^ 20) → s₁.gens = #[] →
      codeAny (model l.prog w) callerA (.call (.ref fa) ⟨[.ref a], []⟩) (fun r s' => r = .ok (.ret (.bool true)) ∧ OldK s₁.heap s'.heap ∧ s'.os = s₁.os ∧ AllBare s'.gens) s₁) :
    WalkO q loose XP YP l.row.toRowW d [] (fun f vs => PySem.call f vs) := by
  intro w s₀ s₁ mg mb G Y fa o pm cd doc dV kV ho hd hcd hD hmg hg args vals as hpre hlay hrd hwl hlo
  obtain rfl : dV = .none := Dflts.none hD hdf
  obtain rfl : kV = .none := Dflts.noKw hD
  obtain ⟨a, vs, ns, rfl, rfl, hobj, hints, hlen⟩ := script_of hn hpre hwl
  refine enter_call (codeAny_mono (call w s₀ s₁ mg mb fa a vs ns G Y hmg hobj hints hlen (bits_of_lay hlay) hg) fun r s' hq => ?_)
  obtain ⟨rfl, h2, h3, h4⟩ := hq
  exact ⟨.inl ⟨.bool true, .bool true, [], rfl, fun _ => rfl, .bool true, post_true l _, fun _ => ⟨List.Pairwise.nil, fun _ hm => (nomatch hm)⟩⟩, h2, h3, h4⟩
end Att
namespace L2
open PySem PySem.Spec PyProof.Rows
theorem walk_ofB {l : PySem.W.OpenLaw} {n k : Nat} {q : Program} {loose : List Str} {XP : (Str → Option Value) → Heap → Prop} {YP : World → Heap → Prop} {d : DefRec} {K : Params → PySem.W.Frag} {CX : World → CXT} {sp : World → Sp} {x : Str}
    (hn : l.most = some n) (hn2 : n ≤ sizeLine) (hdf : d.params.defaults = []) (hr : Room k callerA)
    (hY : ∀ (w : World) (h : Heap), YP w h → (K w.params).In h)
    (F : ∀ (w : World) (mg : Str → Option Value) (fa : Addr) (h : Heap), (K w.params).In h → h.Ns mainGlobals mg → mg d.name = some (.ref fa) →
      ∃ fd : FuncData, (∀ (s : Shared) (u : Value), BindsTo s fd ⟨[u], []⟩ [(x, u)]) ∧
        ∀ base : Heap, (K w.params).In base → base.Ns mainGlobals mg → FnOk l.prog w (K w.params) mg base (CX w) k fa fd [x] (sp w))
    (hsp : ∀ (w : World) (H : Hp) (a : Addr) (ns : List Int), ns.length ≤ n → (∀ x ∈ ns, Builtin.Int.intBits x ≤ 2 ^ 20) → Only H → SqL (K w.params) H a (ns.map V.int) → sp w [.ref a] H (fun v _ => v = .bl true) fun _ _ _ => False)
    (hCX : ∀ (w : World) (H : Hp) (s : Shared) (e : Value) (s' : Shared), CX w [] H s (fun _ _ _ => False) e s' → False) :
    PySem.W.WalkO q loose XP YP l.row.toRowW d [] (fun f vs => PySem.call f vs) := by
  refine Att.attach_callB hn hdf fun w s₀ s₁ mg mb fa a vs ns G Y hmg hobj hints hlen hbits hg => ?_
  have KX := hY w _ Y
  obtain ⟨fd, hb, hF⟩ := F w mg fa _ KX G.T.g hmg
  exact law_call KX G.T.g G.T.b G.T.builtins G.T.nolimit hg hobj hints (Nat.le_trans hlen hn2) hr hF hb (fun H hO hS => hsp w H a ns hlen hbits hO hS) fun H e s' => hCX w H s₁ e s'
/-- a def by what the top has written -/
theorem fnAt_mk {K : PySem.W.Frag} {mg : Str → Option Value} {h : Heap} {x : Str} {st : Stmt} {ps : List Str} {f : Addr} {oc : Value} {od an : Option Addr} {osl : Array (Option Value)} {kV doc pm cdv ct : Value} (X : K.In h) (G : h.Ns mainGlobals mg)
    (a : PySem.W.nsIn K mainGlobals x = some (some (.ref f)))
    (l : K.lookup f = some ⟨oc, od, .func (PySem.W.fnOf x x (defArgs st) (defBody st) (defScope st) .none kV doc pm an cdv ct), osl⟩)
    (c : PySem.W.codeIn K cdv x = true) (k : PySem.W.keepIn K (.ref f) = true)
    (b : ∀ (kV doc pm : Value) (an : Option Addr) (cdv ct : Value) (us : List Value), us.length = ps.length → bindArgs (PySem.W.fnOf x x (defArgs st) (defBody st) (defScope st) .none kV doc pm an cdv ct) ⟨us, []⟩ = pure (ps.zip us)) :
    FnAt K mg x st ps f (PySem.W.fnOf x x (defArgs st) (defBody st) (defScope st) .none kV doc pm an cdv ct) :=
  ⟨fun_mk l c k, (fun_mk l c k).binds b, PySem.W.mg_of X G a⟩
end L2
namespace L2
open PySem PySem.Spec PyProof.Rows
section
variable {X : Cx}
theorem op_mulB : OpR X (binaryOp .Mult) (rI IntMulOk fun i j => .int (i * j)) := opI fun _ _ _ _ _ _ _ hc q => mul_int q hc
def CDivP (_ j : Int) : Prop := 0 < j ∧ j.natAbs.log2 < 9000
theorem op_fdivP : OpR X (binaryOp .FloorDiv) (rI CDivP fun i j => .int (i / j)) := opI fun i j _ _ _ _ _ hc q => by
  have h0 : (0 : Int) < j := hc.1
  refine floordiv_int (by omega) ?_ (.inl (PyProof.noPylong_of_log2 hc.2))
  rw [Int.fdiv_eq_ediv_of_nonneg _ (Int.le_of_lt h0)]
  exact q
def CDivB (_ j : Int) : Prop := j ≠ 0 ∧ j.natAbs.log2 < 9000
def rIsi (K : PySem.W.Frag) : List V → Hp → VK → Prop := fun xs H Q => ∃ x n t b, xs = [x, .ty n] ∧ TyOf K H x t ∧ PySem.W.kitOne K t (.type n) = some b ∧ Q (.bl b) H
theorem call_isi : CallR X (.builtin "isinstance") (rIsi X.K) := by
  intro pins s σ H xs us Q I r h
  obtain ⟨x, n, t, b, rfl, ty, e, q⟩ := h
  obtain ⟨u, w', rfl, r1, r2⟩ := vals2 r
  cases (show w' = Value.type n from r2)
  exact isinst_ok I r1 ty e fun tk => ⟨.bl b, H, I.tok tk, rfl, q⟩
def rIsiC (K : PySem.W.Frag) : List V → Hp → VK → Prop := fun xs H Q => ∃ x C t b, xs = [x, .ref C] ∧ TyOf K H x t ∧ PySem.W.kitOne K t (.ref C) = some b ∧ Q (.bl b) H
theorem call_isiC : CallR X (.builtin "isinstance") (rIsiC X.K) := by
  intro pins s σ H xs us Q I r h
  obtain ⟨x, n, t, b, rfl, ty, e, q⟩ := h
  obtain ⟨u, w', rfl, r1, r2⟩ := vals2 r
  cases (show w' = Value.ref n from r2)
  exact isinst_ok I r1 ty e fun tk => ⟨.bl b, H, I.tok tk, rfl, q⟩
def rEqT (K : PySem.W.Frag) : R2 := fun x y H Q => ∃ (a b : Addr) (ns ms : List Int), x = .ref a ∧ y = .ref b ∧ SqT K H a (ns.map V.int) ∧ SqT K H b (ms.map V.int) ∧ Q (.bl (decide (ns = ms))) H
end
def cCx (X : Cx) (scope : Scope) (cl : List (Str × Addr)) (C : Addr) (Nc : List Str) (s : Shared) (H : Hp) (fp : List Addr) : Cx where
  prog := X.prog
  w := X.w
  K := X.K
  mg := X.mg
  base := X.base
  A := X.A
  N := Nc
  s₀ := s
  H₀ := H
  env := compEnvC scope cl C X.env
  outer := X.stack
  stack := X.stack
  ex := fp
  fn := fun _ => false
  calm := X.calm
  pn := []
  xe := fun _ _ => False
/-- the tests of a clause -/
def PTs (X : Cx) (ifs : List Expr) (t : TT) : Prop :=
  ∀ (pins : List (Addr × Obj)) (s : Shared) (σ : St) (H : Hp) (Q : Bool → Hp → Prop), Inv X pins σ H s → t σ H Q →
    wpAny (model X.prog X.w) X.A (forIn ifs true fun c r => if r = true then do let ok ← isTrue c X.env (eval c X.env); pure (ForInStep.yield ok) else pure (ForInStep.yield r)) (TP X pins σ Q) X.xe s
def tTrue : TT := fun _ H Q => Q true H
theorem pts_nil {X : Cx} : PTs X [] tTrue := fun _ _ _ H _ I h => wpAny_tests_nil ⟨H, I, h⟩
theorem pts_one {X : Cx} {c : Expr} {t : TT} (h : PT X c t) : PTs X [c] t := fun pins s σ H Q I q => wpAny_tests_one (h pins s σ H Q I q)
theorem comp_loop0 {prog : Program} {w : World} {A : Around} {R : Result → Shared → Prop} {s : Shared} {elt target iter : Expr} {ifs : List Expr} {scope : Scope} {pos : Pos} {it acc : Value} {env : Env} (I : Nat → Shared → Prop)
    (turn : ∀ n s, I n s → wpAny (model prog w) A (pyNext it) (fun r s₁ => match r with
      | none => R (.ok .next) s₁
      | some v => wpAny (model prog w) A (letOwnedTupleGo target it v) (fun _ s₂ => wpAny (model prog w) A (assign target env v) (fun _ s₃ =>
          wpAny (model prog w) A (forIn ifs true fun c r => if r = true then do let ok ← isTrue c env (eval c env); pure (ForInStep.yield ok) else pure (ForInStep.yield r)) (fun ok s₄ =>
            if ok = true then wpAny (model prog w) A (eval elt env) (fun x s₅ =>
              wpAny (model prog w) A (call (.builtin "list.append") [acc, x]) (fun _ s₆ => ∃ m, m < n ∧ I m s₆) (fun _ _ => False) s₅) (fun _ _ => False) s₄
            else ∃ m, m < n ∧ I m s₄) (fun _ _ => False) s₃) (fun _ _ => False) s₂) (fun _ _ => False) s₁) (fun _ _ => False) s)
    (n : Nat) (h : I n s) :
    codeAny (model prog w) A (.compLoop (.ListComp elt [⟨target, iter, ifs, 0⟩] scope pos) 0 it acc env) R s := by
  refine codeAny_loop rfl I (fun n s hI => ?_) n h
  show wpAny _ A ((compTurn (.ListComp elt [⟨target, iter, ifs, 0⟩] scope pos) 0 it acc env).onRaise (fun x => do noteFrame x env; theTreesLotGoes x)) _ _ s
  refine wpAny_noted ?_
  rw [compTurn_list]
  refine wpAny_bind (wpAny_standAt (wpAny_bind (wpAny_mono (turn n s hI) (fun r s₁ h₁ => ?_) fun _ _ h' => h'.elim)))
  cases r with
  | none => exact wpAny_pure h₁
  | some v =>
    refine wpAny_bind (wpAny_mono h₁ (fun _ s₂ h₂ => wpAny_bind (wpAny_mono h₂ (fun _ s₃ h₃ => wpAny_bind (wpAny_mono h₃ (fun ok s₄ h₄ => ?_) fun _ _ h' => h'.elim)) fun _ _ h' => h'.elim)) fun _ _ h' => h'.elim)
    cases ok with
    | false => exact wpAny_pure ⟨rfl, h₄⟩
    | true =>
      exact wpAny_bind (wpAny_bind (wpAny_mono h₄ (fun x s₅ h₅ => wpAny_bind (wpAny_mono h₅ (fun _ s₆ h₆ => wpAny_pure (wpAny_pure ⟨rfl, h₆⟩)) fun _ _ h' => h'.elim)) fun _ _ h' => h'.elim))
/-- the reading: W, the invariant by turn, measure, the block's slots, the list so far, heap -/
def CompW (J : It) (g : TG) (tt : TT) (te : TE) (σ0 : St) (Q : VK) (D : Addr) (H1 : Hp) : Prop :=
  ∃ W : Nat → Nat → St → List V → Hp → Prop, (∃ m, W 0 m σ0 [] H1) ∧ ∀ i m σ2 ys H2, W i m σ2 ys H2 → H2 D = some (.lst ys) ∧ ys.length < sizeLine ∧
    ((J.stop i H2 ∧ Q (.ref D) H2) ∨ (J.go i H2 ∧ ∀ x H3, J.yld i H2 x H3 → g x σ2 H3 fun σ4 H4 => tt σ4 H4 fun b H5 =>
      if b = true then te σ4 H5 fun v H6 => H6 D = some (.lst ys) ∧ ∃ m', m' < m ∧ W (i + 1) m' σ4 (ys ++ [v]) (upd H6 D (.lst (ys ++ [v])))
      else ∃ m', m' < m ∧ W (i + 1) m' σ4 ys H5))
def tComp (wi : TI) (g : TG) (tt : TT) (te : TE) (σc : St → St) : TE := fun σ H Q => wi σ H fun J H1 => ∀ D, H1 D = none → CompW J g tt te (σc σ) Q D (upd H1 D (.lst []))
/-- what the block takes from the frame around -/
structure Caps (X : Cx) (scope : Scope) (cl : List (Str × Addr)) (Nc : List Str) (σc : St → St) : Prop where
  clos : closureFor scope X.env = pure cl
  kind : scope.kind = .function
  nocell : ∀ y ∈ scope.names, y.2 ≠ .cell
  names : ∀ y ∈ scope.names, y.2 = .local → scope.names.lookup y.1 = some .local
  cells : ∀ x c, cl.lookup x = some c → X.env.cells.lookup x = some c
  has : ∀ x, ((relabel scope X.env).names.lookup x = some .cell ∨ (relabel scope X.env).names.lookup x = some .free) → ∃ c, cl.lookup x = some c
  len : ∀ σ, (σc σ).length = Nc.length
  cap : ∀ σ (i : Nat) x v, Nc[i]? = some x → (σc σ)[i]? = some (some v) → Vis (relabel scope X.env) x →
    ((relabel scope X.env).names.lookup x = some .cell ∨ (relabel scope X.env).names.lookup x = some .free) ∧
    (X.env.kindOf x = some .cell ∨ X.env.kindOf x = some .free) ∧ ∃ j : Nat, X.N[j]? = some x ∧ σ[j]? = some (some v) ∧ Vis X.env.scope x
section
variable {X : Cx} {tg iter elt : Expr} {ifs : List Expr} {scope : Scope} {cl : List (Str × Addr)} {Nc : List Str} {σc : St → St} {pos : Pos} {wi : TI} {g : TG} {tt : TT} {te : TE}
theorem cCx_ok {pins : List (Addr × Obj)} {σ : St} {H : Hp} {s : Shared} {fp : List Addr} {C : Addr} (I : Inv X pins σ H s) (c : Caps X scope cl Nc σc) (hC : s.heap.objs.size ≤ C) (hf : ∀ b ∈ fp, FpOk X pins H b) (hlt : ∀ b ∈ fp, b < s.heap.objs.size) :
    (cCx X scope cl C Nc s H fp).Ok where
  mod := I.ok.mod
  kind := c.kind
  glob := I.ok.glob
  blt := I.ok.blt
  above := hC
  inj := fun x y a h1 h2 => I.ok.inj x y a (c.cells x a h1) (c.cells y a h2)
  has := c.has
  cab := fun _ _ h _ => absurd (show false = true from h) Bool.false_ne_true
  hd := I.ok.hd
  frames := I.ok.frames
  stk := .inl rfl
  exf := fun b hb => ⟨fun z => absurd (Nat.lt_of_lt_of_le (hlt b hb) hC) (by
      have z' : b = C := z
      rw [z']
      exact Nat.lt_irrefl _), fun x a h z => (hf b hb).2.2.2.2.1 x a (c.cells x a h) z⟩
  bs := I.bs
  bsz := Nat.le_trans I.ok.bsz I.sz
  noex := fun b o e hb => by
    rcases (hf b hb).2.2.2.1 with z | z
    · exact I.ok.noex b o e z
    · exact absurd (Nat.lt_of_lt_of_le (Heap.lt_size e) (Nat.le_trans I.ok.bsz z)) (Nat.lt_irrefl _)
  exfs := fun b hb z => by
    rcases List.mem_cons.mp (I.stkSub b z) with q | q
    · exact (hf b hb).2.1 q
    · exact (hf b hb).2.2.1 q
  funs := I.stack
  frf := I.stkFree
theorem cCx_inv {pins : List (Addr × Obj)} {σ : St} {H : Hp} {s : Shared} {fp : List Addr} {C : Addr} {h' : Heap} {t' : Nat} {m : Str → Option Value} (I : Inv X pins σ H s) (c : Caps X scope cl Nc σc) (hC : s.heap.objs.size ≤ C)
    (hf : ∀ b ∈ fp, FpOk X pins H b) (hlt : ∀ b ∈ fp, b < s.heap.objs.size) (hk : ∀ b o, s.heap.get? b = some o → h'.get? b = some o) (hn : h'.Ns C m) :
    Inv (cCx X scope cl C Nc s H fp) [] (σc σ) H { s with heap := h', toks := t' } := by
  refine ⟨cCx_ok I c hC hf hlt, rfl, I.bare, Un.kept hk, ⟨m, hn, fun i x v e1 e2 e3 => ?_⟩, fun x a h => ?_, I.hok.fresh hC, fun x a h => I.freeC x a (c.cells x a h), fun p hp => absurd (show p ∈ ([] : List (Addr × Obj)) from hp) (by simp), I.hok.kept hk, c.len σ⟩
  · obtain ⟨k1, k2, j, n1, n2, n3⟩ := c.cap σ i x v e1 e2 e3
    obtain ⟨m0, _, hl⟩ := I.loc
    obtain ⟨u, ru, lk⟩ := hl j x v n1 n2 n3
    refine ⟨u, ru, .inr ⟨k1, ?_⟩⟩
    rcases lk with ⟨z, _⟩ | ⟨_, a, ha, hcell⟩
    · rcases k2 with k2 | k2 <;> rw [k2] at z <;> cases z
    · obtain ⟨a', ha'⟩ := c.has x k1
      have e := c.cells x a' ha'
      rw [ha] at e
      cases e
      obtain ⟨o, ho, hd⟩ := hcell
      exact ⟨a, ha', ⟨o, hk _ _ ho, hd⟩⟩
  · obtain ⟨v, o, ho, hd⟩ := I.cell x a (c.cells x a h)
    exact ⟨v, o, hk _ _ ho, hd⟩
/-- the block runs -/
theorem comp_block {pins : List (Addr × Obj)} {σ : St} {H : Hp} {s : Shared} {Q : VK} {J : It} {fp : List Addr} {it : Addr} {tn : Nat → Heap → Prop} {RR : Value → Addr → Result → Shared → Prop} {E : Value → Shared → Prop}
    (hc : X.calm = true) (c : Caps X scope cl Nc σc)
    (hg : ∀ C s H fp, PG (cCx X scope cl C Nc s H fp) tg g) (ht : ∀ C s H fp, PTs (cCx X scope cl C Nc s H fp) ifs tt) (he : ∀ C s H fp, PE (cCx X scope cl C Nc s H fp) elt te)
    (I : Inv X pins σ H s) (T : Turn X.prog X.w X.K tg J fp it tn) (st : tn 0 s.heap) (hf : ∀ b ∈ fp, FpOk X pins H b)
    (h : ∀ D, H D = none → CompW J g tt te (σc σ) Q D (upd H D (.lst [])))
    (hRR : ∀ D C H' s' m, Inv X pins σ H' s' → H' C = none → s.heap.objs.size ≤ C → s'.heap.Ns C m → Q (.ref D) H' → RR (.ref D) C (.ok .next) s') :
    wpAny (model X.prog X.w) X.A (newList []) (fun acc s₃ => wpAny (model X.prog X.w) X.A (newFunctionEnv scope X.env.globals cl [] X.env.qual none .none (some X.env)) (fun cenv s₄ =>
      codeAny (model X.prog X.w) X.A (.compStart (.ListComp elt [⟨tg, iter, ifs, 0⟩] scope pos) 0 (.ref it) acc { cenv with scope := relabel scope X.env }) (RR acc cenv.locals) s₄) E s₃) E s := by
  have fit : ∀ b ∈ fp, b < s.heap.objs.size := fun b hb => by
    obtain ⟨o, e, _⟩ := T.obj _ _ st b hb
    exact Heap.lt_size e
  obtain ⟨W, ⟨m0, w0⟩, turn⟩ := h s.heap.objs.size (I.hok.fresh (Nat.le_refl _))
  refine wpAny_newObj_type (wpAny_newFunctionEnv c.nocell (by intro y hy; simp at hy) (fun h₁ hns₁ hsb₁ => ?_) c.kind)
  dsimp only at hns₁ hsb₁ ⊢
  have I1 : Inv X pins σ (upd H s.heap.objs.size (.lst [])) { s with heap := s.heap.push { cls := .type "list", dict := none, data := .seq ([] : List Value).toArray } } :=
    I.laid (t' := s.toks) (fun b u e => Heap.get?_push_of_some _ e) (Nat.le_refl _) ⟨Nat.zero_le _, [], 0, .nil, Heap.get?_push_size _ rfl⟩
  generalize hH2 : s.heap.push { cls := .type "list", dict := none, data := .seq ([] : List Value).toArray } = G at hns₁ hsb₁ I1 ⊢
  have hG : G.objs.size = s.heap.objs.size + 1 := by rw [← hH2, Heap.size_push]
  have old : ∀ b o, G.get? b = some o → h₁.get? b = some o := fun b o e => hsb₁.extBut b o (Nat.ne_of_lt (Heap.lt_size e)) (Heap.get?_push_of_some _ e)
  have hf1 : ∀ b ∈ fp, FpOk X pins (upd H s.heap.objs.size (.lst [])) b := fun b hb =>
    ⟨by rw [upd_ne (Nat.ne_of_lt (fit b hb))]; exact (hf b hb).1, (hf b hb).2⟩
  have hlt1 : ∀ b ∈ fp, b < G.objs.size := fun b hb => Nat.lt_of_lt_of_le (fit b hb) (by rw [hG]; exact Nat.le_succ _)
  have I2 := cCx_inv (C := G.objs.size) (t' := s.toks + ([] : List (Str × Value)).length) I1 c (Nat.le_refl _) hf1 hlt1 old hns₁
  have st1 : tn 0 h₁ := T.keep _ _ _ st fun b hb o e => old b o (by rw [← hH2]; exact Heap.get?_push_of_some _ e)
  -- the iterator's own objects, seen from the block
  have fpB : ∀ {H' : Hp}, (∀ b ∈ fp, H' b = none) → ∀ b ∈ fp, FpOk (cCx X scope cl G.objs.size Nc { s with heap := G } (upd H s.heap.objs.size (.lst [])) fp) [] H' b := fun {H'} hn b hb => by
    have ok := cCx_ok (C := G.objs.size) I1 c (Nat.le_refl _) hf1 hlt1
    obtain ⟨e1, e2⟩ := ok.exf b hb
    exact ⟨hn b hb, e1, ok.exfs b hb, .inl hb, e2, fun p hp => absurd (show p ∈ ([] : List (Addr × Obj)) from hp) (by simp)⟩
  have loop : ∀ s₃ : Shared, s₃ = { s with heap := h₁, toks := s.toks + ([] : List (Str × Value)).length } →
      codeAny (model X.prog X.w) X.A (.compLoop (.ListComp elt [⟨tg, iter, ifs, 0⟩] scope pos) 0 (.ref it) (.ref s.heap.objs.size) (compEnvC scope cl G.objs.size X.env))
        (RR (.ref s.heap.objs.size) G.objs.size) s₃ := by
    rintro s₃ rfl
    refine comp_loop0 (fun n s' => ∃ i σ' ys H', Inv (cCx X scope cl G.objs.size Nc { s with heap := G } (upd H s.heap.objs.size (.lst [])) fp) [] σ' H' s' ∧ tn i s'.heap ∧ (∀ b ∈ fp, H' b = none) ∧ W i n σ' ys H') ?_ m0
      ⟨0, σc σ, [], _, I2, st1, fun b hb => (hf1 b hb).1, w0⟩
    rintro n s5 ⟨i, σ5, ys, H5, I5, st5, fr5, w5⟩
    obtain ⟨hD, hsz, alt⟩ := turn i n σ5 ys H5 w5
    rcases alt with ⟨stop, q⟩ | ⟨go, step⟩
    · refine thn (T.done (cCx X scope cl G.objs.size Nc { s with heap := G } (upd H s.heap.objs.size (.lst [])) fp) rfl rfl rfl hc i [] s5 σ5 H5 _ I5 (fpB fr5) st5 stop) fun r s6 ⟨hr, I6⟩ => ?_
      subst hr
      obtain ⟨m6, n6, _⟩ := I6.loc
      have I7 : Inv X pins σ H5 s6 := I1.call' I6.os I6.base I6.hok I6.bare fun b hb => ⟨(hf1 b hb).2.2.2.1, (hf1 b hb).2.1, (hf1 b hb).2.2.2.2.1, (hf1 b hb).2.2.2.2.2⟩
      exact hRR _ _ H5 s6 m6 I7 I6.free (by rw [hG]; exact Nat.le_succ _) n6 q
    · refine thn (T.item (cCx X scope cl G.objs.size Nc { s with heap := G } (upd H s.heap.objs.size (.lst [])) fp) rfl rfl rfl hc i [] s5 σ5 H5 _ I5 (fpB fr5) st5 go) fun r s6 ⟨u, hr, h6⟩ => ?_
      subst hr
      refine thn h6 fun _ s7 ⟨x, H7, I7, r7, y7, st7, fr7⟩ => ?_
      have I7' := I7.pinned (fpB fr7) (T.obj _ _ st7)
      refine thn (hg _ _ _ _ _ s7 σ5 H7 x u _ I7' r7 (step x H7 y7)) fun _ s8 ⟨σ8, H8, I8, q8⟩ => ?_
      refine thn (ht _ _ _ _ _ s8 σ8 H8 _ I8 q8) fun ok s9 ⟨H9, I9, q9⟩ => ?_
      have again : ∀ {σ' : St} {H' : Hp} {s' : Shared} {ys' : List V} {m' : Nat}, Inv (cCx X scope cl G.objs.size Nc { s with heap := G } (upd H s.heap.objs.size (.lst [])) fp) ([] ++ pinsAt fp s7.heap) σ' H' s' → m' < n → W (i + 1) m' σ' ys' H' →
          ∃ m, m < n ∧ ∃ i σ' ys H', Inv (cCx X scope cl G.objs.size Nc { s with heap := G } (upd H s.heap.objs.size (.lst [])) fp) [] σ' H' s' ∧ tn i s'.heap ∧ (∀ b ∈ fp, H' b = none) ∧ W i m σ' ys H' := fun {σ' H' s' ys' m'} J7 hm hw => by
        refine ⟨m', hm, i + 1, σ', ys', H', J7.unpinned, T.keep _ _ _ st7 fun b hb o e => (J7.pin (b, o) (List.mem_append_right _ (List.mem_append_right _ (mem_pinsAt hb e)))).1, fun b hb => ?_, hw⟩
        obtain ⟨o, e, d⟩ := T.obj _ _ st7 b hb
        exact (J7.pin (b, o) (List.mem_append_right _ (List.mem_append_right _ (mem_pinsAt hb e)))).2.1
      cases ok with
      | false =>
        rw [if_neg Bool.false_ne_true] at q9 ⊢
        obtain ⟨m', hm, hw⟩ := q9
        exact again I9 hm hw
      | true =>
        rw [if_pos rfl] at q9 ⊢
        refine thn (he _ _ _ _ _ s9 σ8 H9 _ I9 q9) fun v s10 ⟨y, H10, I10, r10, hD10, m', hm, hw⟩ => ?_
        refine thn (mt_append _ s10 σ8 H10 (.ref s.heap.objs.size) [y] (.ref s.heap.objs.size) [v] (fun _ H' => H' = upd H10 s.heap.objs.size (.lst (ys ++ [y]))) I10 rfl (.cons r10 .nil) ⟨_, ys, y, rfl, rfl, hD10, hsz, rfl⟩) fun _ s11 ⟨z, H11, I11, _, e11⟩ => ?_
        subst e11
        exact again I11 hm hw
  exact codeAny_compStart_list (loop _ rfl) (T.self _ 0 _ _ _ st1 (loop _ rfl))
/-- [elt for tg in iter if ..], as a value -/
theorem pe_comp (hc : X.calm = true) (c : Caps X scope cl Nc σc) (hi : PI X tg iter wi)
    (hg : ∀ C s H fp, PG (cCx X scope cl C Nc s H fp) tg g) (ht : ∀ C s H fp, PTs (cCx X scope cl C Nc s H fp) ifs tt) (he : ∀ C s H fp, PE (cCx X scope cl C Nc s H fp) elt te)
    (hs : ∀ x, foldedSetIterable iter X.env x = pure x := by intro _; rfl) : PE X (.ListComp elt [⟨tg, iter, ifs, 0⟩] scope pos) (tComp wi g tt te σc) := by
  intro pins s σ H Q I h
  rw [eval_ListComp]
  refine wpAny_comprehension_free (use := none) rfl hs c.clos c.kind c.names (thn (hi pins s σ H _ I h) fun v s1 h1 => thn h1 fun itv s2 h2 => ?_)
  obtain ⟨it, fp, tn, J, H2, rfl, I2, T, st2, f2, W⟩ := h2
  refine comp_block (Q := Q) hc c hg ht he I2 T st2 f2 W ?_
  intro D C H' s' m I' hC hCs hn q
  refine ⟨m, hn, fun h' sb => ⟨.ref D, H', ?_, rfl, q⟩⟩
  have nl : C ≠ X.env.locals := Nat.ne_of_gt (Nat.lt_of_lt_of_le I2.lt hCs)
  refine I'.turned (t' := s'.toks) (it := C) (fun b o hb e => sb.extBut b o hb e) hC nl (.inr (Nat.le_trans I2.sz hCs)) (fun x a e z => ?_) (fun p hp z => ?_)
  · obtain ⟨v, q⟩ := I2.cell x a e
    exact absurd (Nat.lt_of_lt_of_le q.lt hCs) (by rw [z]; exact Nat.lt_irrefl _)
  · exact absurd (Nat.lt_of_lt_of_le (Heap.lt_size (I2.pin p hp).1) hCs) (by rw [z]; exact Nat.lt_irrefl _)
/-- y = [elt for tg in iter if ..], the store ahead of the block's end -/
theorem ps_comp {i : Nat} {y : Str} {py spos : Pos} (hc : X.calm = true) (hN : X.N.Nodup) (hiy : X.N[i]? = some y) (hy : Loc X.env.scope y) (c : Caps X scope cl Nc σc) (hi : PI X tg iter wi)
    (hg : ∀ C s H fp, PG (cCx X scope cl C Nc s H fp) tg g) (ht : ∀ C s H fp, PTs (cCx X scope cl C Nc s H fp) ifs tt) (he : ∀ C s H fp, PE (cCx X scope cl C Nc s H fp) elt te)
    (hsw : swapsWith (.ListComp elt [⟨tg, iter, ifs, 0⟩] scope pos) (some (.Name y py)) spos.line X.env = pure true := by rfl)
    (hs : ∀ x, foldedSetIterable iter X.env x = pure x := by intro _; rfl) (hf : X.fn y = true ∨ X.env.scope.names.lookup y = some .local := by first | exact .inl rfl | exact .inr rfl | assumption) :
    PS X (.Assign [.Name y py] (.ListComp elt [⟨tg, iter, ifs, 0⟩] scope pos) spos) (tAsg (tComp wi g tt te σc) (gName i)) := by
  intro pins s σ H D I h
  rw [exec_Assign_Name_used _ _ _ _ hsw]
  refine wpAny_bind (wpAny_standAt (wpAny_bind ?_))
  show wpAny _ X.A (do let _ ← comprehension (.ListComp elt [⟨tg, iter, ifs, 0⟩] scope pos) scope X.env _ (newList []) false (eval iter X.env) (some (assign (.Name y py) X.env))) _ _ s
  refine wpAny_bind (wpAny_mono (wpAny_comprehension_free (use := some (assign (.Name y py) X.env)) (Q := fun _ s' => SP X pins D .next s') rfl hs c.clos c.kind c.names
    (thn (hi pins s σ H _ I h) fun v s1 h1 => thn h1 fun itv s2 h2 => ?_)) (fun _ s' hq => wpAny_pure (wpAny_pure hq)) fun _ _ e => e)
  obtain ⟨it, fp, tn, J, H2, rfl, I2, T, st2, f2, W⟩ := h2
  refine comp_block (Q := fun v H' => D.nx (σ.set i (some v)) H') hc c hg ht he I2 T st2 f2 W ?_
  intro L C H' s' m I' hC hCs hn q
  have nl : C ≠ X.env.locals := Nat.ne_of_gt (Nat.lt_of_lt_of_le I2.lt hCs)
  have nfs : C ∉ X.fs := I2.nofs hCs
  obtain ⟨oC, es, ep, hoC, hdC, hrC⟩ := id hn
  have ncell : ∀ v, oC.data ≠ .cell v := fun v z => by rw [hdC] at z; cases z
  have I'' : Inv X (pins ++ [(C, oC)]) σ H' s' := I'.pins_of fun p hp => by
    rcases List.mem_append.mp hp with z | z
    · exact I'.pin p (List.mem_append_right _ z)
    · have e : p = (C, oC) := by simpa using z
      subst e
      exact ⟨hoC, hC, nl, nfs, ncell⟩
  show wpAny _ X.A (assign (.Name y py) X.env (.ref L)) _ _ _
  refine wpAny_assign_Name (store_ok I'' hN hiy hy (v := .ref L) rfl (fun s3 I3 => ?_) hf)
  have hn3 : s3.heap.Ns C m := ⟨oC, es, ep, (I3.pin (C, oC) (by simp)).1, hdC, hrC⟩
  refine ⟨m, hn3, fun h' sb => ⟨σ.set i (some (.ref L)), H', ?_, q⟩⟩
  refine I3.unpinned.turned (t' := s3.toks) (it := C) (fun b o hb e => sb.extBut b o hb e) hC nl (.inr (Nat.le_trans I2.sz hCs)) (fun x a e z => ?_) (fun p hp z => ?_)
  · obtain ⟨v, q⟩ := I2.cell x a e
    exact absurd (Nat.lt_of_lt_of_le q.lt hCs) (by rw [z]; exact Nat.lt_irrefl _)
  · exact absurd (Nat.lt_of_lt_of_le (Heap.lt_size (I2.pin p hp).1) hCs) (by rw [z]; exact Nat.lt_irrefl _)
/-- no name of the frame around is taken -/
theorem caps0 (hk : scope.kind = .function) (hfree : ∀ x ∈ scope.names, x.2 ≠ .free) (hcell : ∀ x ∈ scope.names, x.2 ≠ .cell) (hnames : ∀ y ∈ scope.names, y.2 = .local → scope.names.lookup y.1 = some .local) :
    Caps X scope [] Nc (fun _ => List.replicate Nc.length none) where
  clos := closureFor_none hfree
  kind := hk
  nocell := hcell
  names := hnames
  cells := fun x c e => by cases e
  has := fun x h => by
    have hm : (relabel scope X.env).names = scope.names := by
      unfold relabel
      refine map_eq_self fun y hy => ?_
      obtain ⟨n, k⟩ := y
      have : (k == NameKind.free) = false := by simpa using hfree _ hy
      simp [this]
    rw [hm] at h
    rcases h with h | h
    · exact absurd rfl (hcell _ (PySem.mem_of_lookup h))
    · exact absurd rfl (hfree _ (PySem.mem_of_lookup h))
  len := fun _ => by simp
  cap := fun σ i x v _ e _ => by
    rw [List.getElem?_replicate] at e
    split at e <;> cases e
end
end L2
namespace L2
open PySem PySem.Spec PyProof.Rows
/-- the pairs of the lists at a and b -/
def Itz (K : PySem.W.Frag) (a b : Addr) : It :=
  ⟨fun i H => ∃ xs ys x y, SqL K H a xs ∧ SqL K H b ys ∧ xs[i]? = some x ∧ ys[i]? = some y,
   fun i H v H' => ∃ p, v = .ref p ∧ H p = none ∧ ∀ xs ys x y, SqL K H a xs → SqL K H b ys → xs[i]? = some x → ys[i]? = some y → H' = upd H p (.tup [x, y]),
   fun i H => ∃ xs ys, SqL K H a xs ∧ SqL K H b ys ∧ (xs.length ≤ i ∨ ys.length ≤ i)⟩
section
variable {X : Cx} {pins : List (Addr × Obj)} {σ : St} {H : Hp} {s : Shared} {h' : Heap}
/-- some untracked records of ours have turned, a new object is laid -/
theorem Inv.turnedLaid {t' : Nat} {ch : List Addr} {p : Addr} {o : HO} (I : Inv X pins σ H s) (k : ∀ b u, b ∉ ch → s.heap.get? b = some u → h'.get? b = some u) (hf : ∀ b ∈ ch, FpOk X pins H b)
    (hp : s.heap.objs.size ≤ p) (new : ObjOk X.prog X.w (upd H p o) h' p o) : Inv X pins σ (upd H p o) { s with heap := h', toks := t' } := by
  have hn := I.hok.fresh hp
  have nch : ∀ b u, H b = some u → b ∉ ch := fun b u e z => by rw [(hf b z).1] at e; cases e
  refine I.call (g' := s.gens) (d' := s.drawn) (ch := ch) ⟨fun b u e _ _ hc => k b u hc e, fun b u e _ _ hc => ⟨u.slots, k b u hc e⟩, fun b u e n _ => ?_, fun b u e hc => ⟨u, k b u hc e⟩, fun b xs e => ?_, fun b u xs e => ?_, fun b ps e => ?_⟩ (fun b u e => ?_) I.bare
    fun b hb => ⟨(hf b hb).2.2.2.1, (hf b hb).2.1, (hf b hb).2.2.2.2.1, (hf b hb).2.2.2.2.2⟩
  · rw [upd_ne (Nat.ne_of_lt (Nat.lt_of_lt_of_le (Heap.lt_size e) hp))]
    exact n
  · rw [upd_ne (ne_of_none e hn)]
    exact e
  · rw [upd_ne (ne_of_none e hn)]
    exact e
  · exact ⟨#[], by rw [upd_ne (ne_of_none e hn), e]; simp⟩
  · by_cases hb : b = p
    · subst hb
      rw [upd_same] at e
      cases e
      exact new
    · rw [upd_ne hb] at e
      refine (I.hok b u e).stay (fun c v hc q => k c v ?_ q) (fun c q => by rw [upd_ne (ne_of_none q hn)]; exact q) fun c xs q => by rw [upd_ne (ne_of_none q hn)]; exact q
      rcases hc with z | z
      · rw [z]
        exact nch b u e
      · exact nch c _ z
/-- .. nothing laid -/
theorem Inv.turnedAll {t' : Nat} {ch : List Addr} (I : Inv X pins σ H s) (k : ∀ b u, b ∉ ch → s.heap.get? b = some u → h'.get? b = some u) (hf : ∀ b ∈ ch, FpOk X pins H b) : Inv X pins σ H { s with heap := h', toks := t' } := by
  have nch : ∀ b u, H b = some u → b ∉ ch := fun b u e z => by rw [(hf b z).1] at e; cases e
  refine I.call (g' := s.gens) (d' := s.drawn) (ch := ch) ⟨fun b u e _ _ hc => k b u hc e, fun b u e _ _ hc => ⟨u.slots, k b u hc e⟩, fun b u e n _ => n, fun b u e hc => ⟨u, k b u hc e⟩, fun b xs e => e, fun b u xs e => e, fun b ps e => ⟨#[], by rw [e]; simp⟩⟩ (fun b u e => ?_) I.bare
    fun b hb => ⟨(hf b hb).2.2.2.1, (hf b hb).2.1, (hf b hb).2.2.2.2.1, (hf b hb).2.2.2.2.2⟩
  refine (I.hok b u e).stay (fun c v hc q => k c v ?_ q) (fun c q => q) fun c xs q => q
  rcases hc with z | z
  · rw [z]
    exact nch b u e
  · exact nch c _ z
end
section
variable {X : Cx} {elts : List Expr} {kk : Nat} {tpos : Pos}
def iZip (K : PySem.W.Frag) (ta : TA) : TI := fun σ H R => ta σ H fun vs H1 => ∃ a b, vs = [.ref a, .ref b] ∧ (∃ xs, SqL K H1 a xs) ∧ (∃ ys, SqL K H1 b ys) ∧ R (Itz K a b) H1
end
end L2
namespace L2
open PySem PySem.Spec PyProof.Rows
/-- an own error class of the text, under ValueError -/
structure ExcCls (K : PySem.W.Frag) (mg : Str → Option Value) (x : Str) (C : Addr) : Prop where
  m : mg x = some (.ref C)
  ex : PySem.W.excIn K C [.type "ValueError", .type "Exception", .type "BaseException", .type "object"] "ValueError.__new__" = true
/-- how an exception lies behind a call: B is what of the state stands as it stood -/
def CXe (P : Program) (w : World) : CXT := fun outer H s E e s' => ∃ (ea : Addr) (cls a0 : Value) (H' : Hp) (B : Heap),
  e = .ref ea ∧ s'.os = s.os ∧ AllBare s'.gens ∧ Un (frs outer) [] H H' s.heap s'.heap ∧ HOk P w H' s'.heap ∧ Heap.FlyingW B outer ea cls a0 s'.heap ∧
  (∀ b o, s'.heap.get? b = some o → b ∉ frs outer → (H' b ≠ none ∨ s.heap.get? b ≠ none) → B.get? b = some o) ∧ H' ea = none ∧ s.heap.get? ea = none ∧ E cls none H'
/-- an exception made here reaches what is wanted of it -/
def Throws (X : Cx) (C : Addr) (R : Hp → Prop) : Prop :=
  ∀ (pins : List (Addr × Obj)) (σ : St) (H : Hp) (s : Shared) (h' : Heap) (ea : Addr) (vs : List Value), Inv X pins σ H s → Heap.MadeExcOf s.heap h' ea (.ref C) vs → R H → X.xe (.ref ea) { s with heap := h' }
section
variable {X : Cx}
def tRaise (te : TE) (R : Hp → Prop) : TS := fun _ σ H => te σ H fun v H1 => ([v] : List V).length = 1 ∧ R H1
end
end L2
namespace L2
open PySem PySem.Spec PyProof.Rows
/-- within the suite of an except -/
abbrev Cx.marked (X : Cx) (ea : Addr) : Cx := { X with A := X.A.mark (some (.ref ea)), calm := false, xe := fun _ _ => False }
section
variable {X : Cx} {pins : List (Addr × Obj)} {σ : St} {H : Hp} {s : Shared} {ea : Addr}
/-- an exception of the class cls stands there -/
def ExcAt (p : Addr) (cls : Value) (h : Heap) : Prop := ∃ o, h.get? p = some o ∧ o.cls = cls
end
end L2
namespace L2
open PySem PySem.Spec PySem.W PySem.Calls PyProof.Rows
/-- what isinstance asks of an own error class -/
structure ExcKit (K : Frag) (C : Addr) : Prop where
  ga : findIn K (.ref C) "__getattribute__" = some (some (.builtin "BaseException.__getattribute__"))
  gx : findIn K (.ref C) "__getattr__" = some none
  cl : findIn K (.ref C) "__class__" = some (some (.builtin "object.__class__"))
  mo : mroIn K C (.type "object") = some true
  mb : mroIn K C (.type "BaseException") = some true
section
variable {prog : Program} {w : World} {A : Around} {E : Value → Shared → Prop} {h : Heap} {g : Array GenState} {d : Drawn} {t : Nat} {os : OsState} {a C : Addr} {o : Obj} {K : Frag}
open Builtin Builtin.ObjectAttr Builtin.Getset_descriptor in
end
section
variable {X : Cx}
/-- isinstance of an exception that was caught -/
def rIsiX (K : Frag) : List V → Hp → VK → Prop := fun xs H Q => ∃ p c cv C b, xs = [.ref p, c] ∧ RelV c cv ∧ H p = some (.ext (ExcAt p (.ref C))) ∧ ExcKit K C ∧ kitOne K (.ref C) cv = some b ∧ Q (.bl b) H
end
end L2
namespace L2
open PySem PySem.Spec PyProof.Rows
/-- try: f(..) / except C as n: suite; what the suite leaves, without n -/
def tTry (K : PySem.W.Frag) (Ch : Value) (i : Nat) (sp : Sp) (t : TA) (ts : TS) : TS := fun D σ H => t σ H fun vs H1 => sp vs H1 (fun _ H2 => D.nx σ H2)
  (fun cls _ H2 => (∃ C, cls = .ref C) ∧ PySem.W.exmOne K cls Ch = some true ∧ ∀ ea, H2 ea = none → ts { nx := fun σ' H' => D.nx (σ'.set i none) H', rt := fun _ _ => False } (σ.set i (some (.ref ea))) (upd H2 ea (.ext (ExcAt ea cls))))
section
variable {X : Cx} {k : Nat} {f : Addr} {fd : FuncData} {ps : List Str} {sp : Sp} {x c n : Str} {p cpos epos np hpos pos : Pos} {e : Expr} {es : List Expr} {t : TA} {b₀ : Stmt} {suite : List Stmt} {ts : TS} {i : Nat} {Ch : Value}
end
end L2
namespace L2
open PySem PySem.Spec PyProof.Rows
section
variable {X : Cx}
theorem ints_get {its : List Value} {ns : List Int} (i : IntsAre its ns) : ∀ (j : Nat) v, its[j]? = some v → ∃ t, v = Value.int (ns.getD j 0) t := by
  induction i with
  | nil => intro j v h; simp at h
  | cons n t i ih =>
    intro j v h
    cases j with
    | zero => simp at h; exact ⟨t, h.symm⟩
    | succ j =>
      obtain ⟨t', e⟩ := ih j v (by simpa using h)
      exact ⟨t', by simpa using e⟩
/-- sum(xs), xs a list of numbers -/
theorem call_sum (hc : X.calm = true) : CallR X (.builtin "sum") (fun xs H Q => ∃ (p : Addr) (ns : List Int), xs = [.ref p] ∧ SqL X.K H p (ns.map V.int) ∧ Q (.int ns.sum) H) := by
  intro pins s σ H xs us Q I r h
  obtain ⟨p, ns, rfl, hp, q⟩ := h
  obtain ⟨u, rfl, ru⟩ := vals1 r
  cases ru
  obtain ⟨its, rv, pl, _⟩ := I.list hp
  have i1 : IntsAre its ns := intsAre_of rv
  have lp : p < s.heap.objs.size := by obtain ⟨_, e, _⟩ := pl.isList; exact Heap.lt_size e
  refine call_sum_walkG (wpAny_pyIter_list pl.isList ?_)
  refine ⟨s.heap.objs.size, _, _, _, _, _, fun j => ns.getD j 0, rfl, Walks.list (A := X.A.in1) (I.ok.hd hc) s.heap.objs.size p (Nat.ne_of_lt lp) its.toArray, ⟨⟨_, Heap.get?_push_size _ rfl, rfl, rfl⟩, pl.isList.at fun o e => Heap.get?_push_of_some _ e⟩, fun b hb => ?_, fun j v hj => ints_get i1 j v (by simpa using hj), fun h' tk t' kk => ?_⟩
  · have hb' : b = s.heap.objs.size ∨ b = p := by simpa using hb
    rcases hb' with rfl | rfl
    · rw [Heap.size_push]; exact Nat.lt_succ_self _
    · rw [Heap.size_push]; exact Nat.lt_succ_of_lt lp
  · refine ⟨.int ns.sum, H, I.kept (t' := tk) fun b o e => kk b o (fun z => ?_) (Heap.get?_push_of_some _ e), ⟨t', ?_⟩, q⟩
    · have z' : b = s.heap.objs.size := by simpa using z
      exact absurd (Heap.lt_size e) (by rw [z']; exact Nat.lt_irrefl _)
    · have l1 : its.toArray.size = ns.length := by rw [List.size_toArray]; exact i1.length
      rw [preSum_getD, l1, List.take_of_length_le (Nat.le_refl _)]
end
end L2
namespace L2
open PySem PySem.Spec PyProof.Rows
section
variable {X : Cx}
def rLeS : R2 := fun x y H Q => ∃ i j, x = .str i ∧ y = .str j ∧ Q (.bl (!decide (j.cps.toList < i.cps.toList))) H
/-- z[i:j] of a text -/
def rSlS : V → Option Int → Option Int → Hp → VK → Prop := fun x lo hi H Q => ∃ z i j, x = .str z ∧ lo = some i ∧ hi = some j ∧ z.length ≤ sizeLine ∧ Q (.str (Txt.slice z (some i) (some j))) H
end
def MonE (t : TE) : Prop := ∀ σ H Q Q', (∀ v H1, Q v H1 → Q' v H1) → t σ H Q → t σ H Q'
def MonT (t : TT) : Prop := ∀ σ H Q Q', (∀ b H1, Q b H1 → Q' b H1) → t σ H Q → t σ H Q'
def MonA (t : TA) : Prop := ∀ σ H Q Q', (∀ v H1, Q v H1 → Q' v H1) → t σ H Q → t σ H Q'
def MonR (r : R2) : Prop := ∀ x y H Q Q', (∀ v H1, Q v H1 → Q' v H1) → r x y H Q → r x y H Q'
def MonS (sp : Sp) : Prop := ∀ vs H Q Q' E, (∀ v H1, Q v H1 → Q' v H1) → sp vs H Q E → sp vs H Q' E
def MonB (r : List V → Hp → VK → Prop) : Prop := ∀ xs H Q Q', (∀ v H1, Q v H1 → Q' v H1) → r xs H Q → r xs H Q'
end L2
namespace L2
open PySem PySem.Spec PyProof.Rows
inductive Dt where
  | non | int (i : Int) | str (x : Str) | tup (ds : List Dt)
mutual
def Dt.beq : Dt → Dt → Bool
  | .non, .non => true
  | .int i, .int j => i == j
  | .str x, .str y => x == y
  | .tup a, .tup b => Dt.beqs a b
  | _, _ => false
def Dt.beqs : List Dt → List Dt → Bool
  | [], [] => true
  | x :: xs, y :: ys => Dt.beq x y && Dt.beqs xs ys
  | _, _ => false
end
mutual
def Dt.hgt : Dt → Nat
  | .tup ds => Dt.hgts ds + 1
  | _ => 0
def Dt.hgts : List Dt → Nat
  | [] => 0
  | d :: r => max (Dt.hgt d) (Dt.hgts r)
end
mutual
def DatAt (K : PySem.W.Frag) (H : Hp) : V → Dt → Prop
  | v, .non => v = .non
  | v, .int i => v = .int i
  | v, .str x => v = .str x
  | v, .tup ds => ∃ r vs, v = .ref r ∧ SqT K H r vs ∧ DatsAt K H vs ds
def DatsAt (K : PySem.W.Frag) (H : Hp) : List V → List Dt → Prop
  | [], [] => True
  | v :: vs, d :: ds => DatAt K H v d ∧ DatsAt K H vs ds
  | _, _ => False
end
mutual
theorem Dt.beq_iff : ∀ (x y : Dt), Dt.beq x y = true ↔ x = y
  | .non, y => by cases y <;> simp [Dt.beq]
  | .int i, y => by cases y <;> simp [Dt.beq]
  | .str i, y => by cases y <;> simp [Dt.beq]
  | .tup a, y => by
    cases y with
    | tup b =>
      have := Dt.beqs_iff a b
      simp [Dt.beq, this]
    | _ => simp [Dt.beq]
theorem Dt.beqs_iff : ∀ (x y : List Dt), Dt.beqs x y = true ↔ x = y
  | [], y => by cases y <;> simp [Dt.beqs]
  | a :: r, y => by
    cases y with
    | nil => simp [Dt.beqs]
    | cons b t =>
      have h1 := Dt.beq_iff a b
      have h2 := Dt.beqs_iff r t
      simp [Dt.beqs, h1, h2]
end
theorem Dt.beq_self (x : Dt) : Dt.beq x x = true := (Dt.beq_iff x x).mpr rfl
theorem Dt.beqs_self (x : List Dt) : Dt.beqs x x = true := (Dt.beqs_iff x x).mpr rfl
theorem Dt.beqs_ne {x y : List Dt} (h : x ≠ y) : Dt.beqs x y = false := by
  cases e : Dt.beqs x y with
  | false => rfl
  | true => exact absurd ((Dt.beqs_iff x y).mp e) h
theorem Dt.hgt_mem : ∀ {ds : List Dt} {d : Dt}, d ∈ ds → d.hgt ≤ Dt.hgts ds
  | e :: r, d, h => by
    have e1 : Dt.hgts (e :: r) = max (Dt.hgt e) (Dt.hgts r) := by simp [Dt.hgts]
    rw [e1]
    rcases List.mem_cons.mp h with z | z
    · rw [z]; omega
    · have := Dt.hgt_mem z
      omega
section
variable {K : PySem.W.Frag} {H H' : Hp}
theorem DatAt.int (i : Int) : DatAt K H (.int i) (.int i) := by simp [DatAt]
theorem DatAt.str (i : Str) : DatAt K H (.str i) (.str i) := by simp [DatAt]
theorem DatAt.tup {r : Addr} {vs : List V} {ds : List Dt} (h : SqT K H r vs) (k : DatsAt K H vs ds) : DatAt K H (.ref r) (.tup ds) := by
  simp only [DatAt]
  exact ⟨r, vs, rfl, h, k⟩
theorem DatsAt.nil : DatsAt K H [] [] := by simp [DatsAt]
theorem DatsAt.cons {v : V} {d : Dt} {vs : List V} {ds : List Dt} (h : DatAt K H v d) (k : DatsAt K H vs ds) : DatsAt K H (v :: vs) (d :: ds) := by
  simp only [DatsAt]
  exact ⟨h, k⟩
theorem DatAt.un {v : V} {ds : List Dt} (h : DatAt K H v (.tup ds)) : ∃ r vs, v = .ref r ∧ SqT K H r vs ∧ DatsAt K H vs ds := by
  simp only [DatAt] at h
  exact h
theorem DatsAt.un {vs : List V} {d : Dt} {ds : List Dt} (h : DatsAt K H vs (d :: ds)) : ∃ v r, vs = v :: r ∧ DatAt K H v d ∧ DatsAt K H r ds := by
  cases vs with
  | nil => simp [DatsAt] at h
  | cons v r =>
    simp only [DatsAt] at h
    exact ⟨v, r, rfl, h.1, h.2⟩
theorem DatsAt.un0 {vs : List V} (h : DatsAt K H vs []) : vs = [] := by
  cases vs with
  | nil => rfl
  | cons v r => simp [DatsAt] at h
mutual
theorem DatAt.same (e : Same H H') : ∀ {v : V} {d : Dt}, DatAt K H v d → DatAt K H' v d
  | v, .non, h => by simpa [DatAt] using h
  | v, .int i, h => by simpa [DatAt] using h
  | v, .str i, h => by simpa [DatAt] using h
  | v, .tup ds, h => by
    obtain ⟨r, vs, rfl, h1, h2⟩ := h.un
    exact .tup (e.tup h1) (DatsAt.same e h2)
theorem DatsAt.same (e : Same H H') : ∀ {vs : List V} {ds : List Dt}, DatsAt K H vs ds → DatsAt K H' vs ds
  | vs, [], h => by
    rw [h.un0]
    exact .nil
  | vs, d :: ds, h => by
    obtain ⟨v, r, rfl, h1, h2⟩ := h.un
    exact .cons (DatAt.same e h1) (DatsAt.same e h2)
end
theorem DatsAt.length : ∀ {vs : List V} {ds : List Dt}, DatsAt K H vs ds → vs.length = ds.length
  | vs, [], h => by rw [h.un0]; rfl
  | vs, d :: ds, h => by
    obtain ⟨v, r, rfl, _, h2⟩ := h.un
    simp [DatsAt.length h2]
theorem DatsAt.get : ∀ {vs : List V} {ds : List Dt} {i : Nat} {d : Dt}, DatsAt K H vs ds → ds[i]? = some d → ∃ v, vs[i]? = some v ∧ DatAt K H v d
  | vs, [], i, d, h, e => by simp at e
  | vs, c :: ds, i, d, h, e => by
    obtain ⟨v, r, rfl, h1, h2⟩ := h.un
    cases i with
    | zero =>
      have e' : c = d := by simpa using e
      subst e'
      exact ⟨v, rfl, h1⟩
    | succ i =>
      obtain ⟨u, e1, e2⟩ := DatsAt.get (i := i) (d := d) h2 (by simpa using e)
      exact ⟨u, by simpa using e1, e2⟩
theorem DatsAt.get' {vs : List V} {ds : List Dt} {i : Nat} {v : V} (h : DatsAt K H vs ds) (e : vs[i]? = some v) : ∃ d, ds[i]? = some d ∧ DatAt K H v d := by
  have hl := h.length
  have hi : i < ds.length := by
    have := (List.getElem?_eq_some_iff.mp e).1
    omega
  obtain ⟨u, e1, e2⟩ := h.get (List.getElem?_eq_getElem hi)
  rw [e] at e1
  cases e1
  exact ⟨_, List.getElem?_eq_getElem hi, e2⟩
theorem DatsAt.append : ∀ {vs ws : List V} {ds es : List Dt}, DatsAt K H vs ds → DatsAt K H ws es → DatsAt K H (vs ++ ws) (ds ++ es)
  | vs, ws, [], es, h, k => by
    rw [h.un0]
    exact k
  | vs, ws, d :: ds, es, h, k => by
    obtain ⟨v, r, rfl, h1, h2⟩ := h.un
    exact .cons h1 (DatsAt.append h2 k)
end
theorem Dt.all_beqs : ∀ (a b : List Dt), ((List.range (min a.length b.length)).all (fun j => Dt.beq (a.getD j .non) (b.getD j .non)) && a.length == b.length) = Dt.beqs a b
  | [], [] => by simp [Dt.beqs]
  | [], _ :: _ => by simp [Dt.beqs]
  | _ :: _, [] => by simp [Dt.beqs]
  | x :: a, y :: b => by
    have ih := Dt.all_beqs a b
    have e : min (x :: a).length (y :: b).length = min a.length b.length + 1 := by simp
    rw [e, List.range_succ_eq_map]
    simp only [List.all_cons, List.all_map, Dt.beqs, List.length_cons]
    rw [← ih, Bool.and_assoc]
    congr 1
    congr 1
    rw [Bool.eq_iff_iff]
    simp
section
variable {X : Cx} {pins : List (Addr × Obj)} {σ : St} {H : Hp} {s : Shared}
mutual
theorem DatAt.inj (I : Inv X pins σ H s) : ∀ {v : V} {d e : Dt}, DatAt X.K H v d → DatAt X.K H v e → d = e
  | v, .non, e, h, k => by
    have h' : v = .non := by simpa [DatAt] using h
    subst h'
    cases e <;> simp [DatAt] at k ⊢
  | v, .int i, e, h, k => by
    have h' : v = .int i := by simpa [DatAt] using h
    subst h'
    cases e <;> simp [DatAt] at k ⊢
    exact k
  | v, .str i, e, h, k => by
    have h' : v = .str i := by simpa [DatAt] using h
    subst h'
    cases e <;> simp [DatAt] at k ⊢
    exact k
  | v, .tup ds, e, h, k => by
    obtain ⟨r, vs, rfl, h1, h2⟩ := h.un
    cases e with
    | tup es =>
      obtain ⟨r', ws, e', k1, k2⟩ := k.un
      cases e'
      have := I.tuple_inj h1 k1
      subst this
      rw [DatsAt.inj I h2 k2]
    | _ => simp [DatAt] at k
theorem DatsAt.inj (I : Inv X pins σ H s) : ∀ {vs : List V} {ds es : List Dt}, DatsAt X.K H vs ds → DatsAt X.K H vs es → ds = es
  | vs, [], es, h, k => by
    have := h.un0
    subst this
    cases es with
    | nil => rfl
    | cons _ _ => simp [DatsAt] at k
  | vs, d :: ds, es, h, k => by
    obtain ⟨v, r, rfl, h1, h2⟩ := h.un
    cases es with
    | nil => simp [DatsAt] at k
    | cons e es =>
      simp only [DatsAt] at k
      rw [DatAt.inj I h1 k.1, DatsAt.inj I h2 k.2]
end
theorem getD_of {α : Type} {xs : List α} {i : Nat} {x d : α} (h : xs[i]? = some x) : xs.getD i d = x := by
  rw [List.getD_eq_getElem?_getD, h]
  rfl
/-- what is told of the items -/
theorem items_eq {A : Around} {vs ws : List V} {ds es : List Dt} {its its2 : List Value} (h : DatsAt X.K H vs ds) (k : DatsAt X.K H ws es) (r1 : Vals vs its) (r2 : Vals ws its2)
    (ih : ∀ (d e : Dt) (x y : V) (u v : Value), d ∈ ds → DatAt X.K H x d → DatAt X.K H y e → RelV x u → RelV y v → SeqAt.EqAt A s u v (Dt.beq d e)) (j : Nat) (h1 : j < its.toArray.size) (h2 : j < its2.toArray.size) :
    SeqAt.EqAt A s its.toArray[j] its2.toArray[j] (Dt.beq (ds.getD j .non) (es.getD j .non)) := by
  have l1 := r1.length
  have l2 := r2.length
  have m1 := h.length
  have m2 := k.length
  rw [List.size_toArray] at h1 h2
  have g1 : ds[j]? = some ds[j] := List.getElem?_eq_getElem (by omega)
  have g2 : es[j]? = some es[j] := List.getElem?_eq_getElem (by omega)
  obtain ⟨x, ex, hx⟩ := h.get g1
  obtain ⟨y, ey, hy⟩ := k.get g2
  obtain ⟨u, eu, ru⟩ := r1.get ex
  obtain ⟨v, ev, rv⟩ := r2.get ey
  have f1 : its.toArray[j] = u := by
    have := (List.getElem?_eq_some_iff.mp eu).2
    simpa using this
  have f2 : its2.toArray[j] = v := by
    have := (List.getElem?_eq_some_iff.mp ev).2
    simpa using this
  rw [f1, f2, getD_of g1, getD_of g2]
  exact ih _ _ x y u v (List.getElem_mem _) hx hy ru rv
theorem tuple_all {vs ws : List V} {ds es : List Dt} {its its2 : List Value} (h : DatsAt X.K H vs ds) (k : DatsAt X.K H ws es) (r1 : Vals vs its) (r2 : Vals ws its2) :
    ((List.range (min its.toArray.size its2.toArray.size)).all (fun j => Dt.beq (ds.getD j .non) (es.getD j .non)) && its.toArray.size == its2.toArray.size) = Dt.beqs ds es := by
  have l1 := r1.length
  have l2 := r2.length
  have m1 := h.length
  have m2 := k.length
  rw [← Dt.all_beqs, List.size_toArray, List.size_toArray, ← l1, ← l2, m1, m2]
theorem eqAt_dat (I : Inv X pins σ H s) : ∀ (n : Nat) (A : Around) (d e : Dt) (x y : V) (u v : Value), d.hgt ≤ n → A.units + n < cLine → DatAt X.K H x d → DatAt X.K H y e → RelV x u → RelV y v → SeqAt.EqAt A s u v (Dt.beq d e) := by
  intro n
  induction n with
  | zero => 
    intro A d e x y u v hd hu hx hy ru rv
    have hu' : A.units < cLine := by omega
    cases d with
    | non =>
      have hx' : x = .non := by simpa [DatAt] using hx
      subst hx'
      cases (show u = Value.none from ru)
      cases e with
      | non =>
        have hy' : y = .non := by simpa [DatAt] using hy
        subst hy'
        cases (show v = Value.none from rv)
        exact SeqAt.EqAt.same _
      | int j =>
        have hy' : y = .int j := by simpa [DatAt] using hy
        subst hy'
        obtain ⟨t, rfl⟩ := (show ∃ t, v = Value.int j t from rv)
        exact SeqAt.EqAt.none_int _ _
      | str j =>
        have hy' : y = .str j := by simpa [DatAt] using hy
        subst hy'
        obtain ⟨t, rfl⟩ := (show ∃ t, v = Value.str j t from rv)
        exact SeqAt.EqAt.none_str _ _
      | tup es =>
        obtain ⟨r, ws, rfl, k1, k2⟩ := hy.un
        cases (show v = Value.ref r from rv)
        obtain ⟨its, _, p, _⟩ := I.tuple k1
        exact SeqAt.EqAt.none_tuple p hu'
    | int i =>
      have hx' : x = .int i := by simpa [DatAt] using hx
      subst hx'
      obtain ⟨t, rfl⟩ := (show ∃ t, u = Value.int i t from ru)
      cases e with
      | non =>
        have hy' : y = .non := by simpa [DatAt] using hy
        subst hy'
        cases (show v = Value.none from rv)
        exact SeqAt.EqAt.int_none _ _
      | int j =>
        have hy' : y = .int j := by simpa [DatAt] using hy
        subst hy'
        obtain ⟨t, rfl⟩ := (show ∃ t, v = Value.int j t from rv)
        exact SeqAt.EqAt.int_int _ _ _ _
      | str j =>
        have hy' : y = .str j := by simpa [DatAt] using hy
        subst hy'
        obtain ⟨t, rfl⟩ := (show ∃ t, v = Value.str j t from rv)
        exact SeqAt.EqAt.int_str _ _ _ _
      | tup es =>
        obtain ⟨r, ws, rfl, k1, k2⟩ := hy.un
        cases (show v = Value.ref r from rv)
        obtain ⟨its, _, p, _⟩ := I.tuple k1
        exact SeqAt.EqAt.int_tuple _ _ p hu'
    | str i =>
      have hx' : x = .str i := by simpa [DatAt] using hx
      subst hx'
      obtain ⟨t, rfl⟩ := (show ∃ t, u = Value.str i t from ru)
      cases e with
      | non =>
        have hy' : y = .non := by simpa [DatAt] using hy
        subst hy'
        cases (show v = Value.none from rv)
        exact SeqAt.EqAt.str_none _ _
      | int j =>
        have hy' : y = .int j := by simpa [DatAt] using hy
        subst hy'
        obtain ⟨t, rfl⟩ := (show ∃ t, v = Value.int j t from rv)
        exact SeqAt.EqAt.str_int _ _ _ _
      | str j =>
        have hy' : y = .str j := by simpa [DatAt] using hy
        subst hy'
        obtain ⟨t, rfl⟩ := (show ∃ t, v = Value.str j t from rv)
        exact SeqAt.EqAt.str_str _ _ _ _
      | tup es =>
        obtain ⟨r, ws, rfl, k1, k2⟩ := hy.un
        cases (show v = Value.ref r from rv)
        obtain ⟨its, _, p, _⟩ := I.tuple k1
        exact SeqAt.EqAt.str_tuple _ _ p hu'
    | tup ds => simp [Dt.hgt] at hd
  | succ n ih =>
    intro A d e x y u v hd hu hx hy ru rv
    have hu' : A.units < cLine := by omega
    by_cases hflat : d.hgt ≤ n
    · exact ih A d e x y u v hflat (by omega) hx hy ru rv
    · cases d with
      | tup ds =>
        have hds : Dt.hgts ds ≤ n := by simpa [Dt.hgt] using hd
        obtain ⟨a, vs, rfl, h1, h2⟩ := hx.un
        cases (show u = Value.ref a from ru)
        obtain ⟨its, r1, p1, _⟩ := I.tuple h1
        cases e with
        | non =>
          have hy' : y = .non := by simpa [DatAt] using hy
          subst hy'
          cases (show v = Value.none from rv)
          exact SeqAt.EqAt.tuple_none p1 hu'
        | int j =>
          have hy' : y = .int j := by simpa [DatAt] using hy
          subst hy'
          obtain ⟨t, rfl⟩ := (show ∃ t, v = Value.int j t from rv)
          exact SeqAt.EqAt.tuple_int _ _ p1 hu'
        | str j =>
          have hy' : y = .str j := by simpa [DatAt] using hy
          subst hy'
          obtain ⟨t, rfl⟩ := (show ∃ t, v = Value.str j t from rv)
          exact SeqAt.EqAt.tuple_str _ _ p1 hu'
        | tup es =>
          obtain ⟨b, ws, rfl, k1, k2⟩ := hy.un
          cases (show v = Value.ref b from rv)
          obtain ⟨its2, r2, p2, _⟩ := I.tuple k1
          by_cases hab : a = b
          · subst hab
            have e1 : Dt.tup ds = Dt.tup es := DatAt.inj I hx hy
            rw [e1, Dt.beq_self]
            exact SeqAt.EqAt.same _
          · have e2 : Dt.beq (.tup ds) (.tup es) = Dt.beqs ds es := by simp [Dt.beq]
            rw [e2, ← tuple_all h2 k2 r1 r2]
            refine SeqAt.EqAt.of_refs hab (SeqAt.RcAt.tuples p1 p2 hu' fun j j1 j2 => items_eq h2 k2 r1 r2 (fun d e x y u v hm q1 q2 q3 q4 => ?_) j j1 j2)
            exact ih A.in1 d e x y u v (Nat.le_trans (Dt.hgt_mem hm) hds) (by show A.units + 1 + n < cLine; omega) q1 q2 q3 q4
      | _ => exact absurd (Nat.zero_le n) (by simpa [Dt.hgt] using hflat)
/-- the rule of a comparison of data, at the top -/
def rEqD (K : PySem.W.Frag) : R2 := fun x y H Q => ∃ d e, DatAt K H x d ∧ DatAt K H y e ∧ d.hgt ≤ 30 ∧ Q (.bl (Dt.beq d e)) H
def rNeD (K : PySem.W.Frag) : R2 := fun x y H Q => ∃ d e, DatAt K H x d ∧ DatAt K H y e ∧ d.hgt ≤ 30 ∧ Q (.bl (!Dt.beq d e)) H
theorem list_all {vs ws : List V} {ds es : List Dt} {its its2 : List Value} (h : DatsAt X.K H vs ds) (k : DatsAt X.K H ws es) (r1 : Vals vs its) (r2 : Vals ws its2) (hsz : its.toArray.size = its2.toArray.size) :
    (List.range its.toArray.size).all (fun j => Dt.beq (ds.getD j .non) (es.getD j .non)) = Dt.beqs ds es := by
  have e := tuple_all h k r1 r2
  rw [hsz, Nat.min_self, beq_self_eq_true, Bool.and_true] at e
  rw [hsz]
  exact e
theorem list_len {vs ws : List V} {ds es : List Dt} {its its2 : List Value} (h : DatsAt X.K H vs ds) (k : DatsAt X.K H ws es) (r1 : Vals vs its) (r2 : Vals ws its2) (hsz : its.toArray.size ≠ its2.toArray.size) : Dt.beqs ds es = false := by
  refine Dt.beqs_ne fun z => hsz ?_
  have l1 := r1.length
  have l2 := r2.length
  have m1 := h.length
  have m2 := k.length
  rw [z] at m1
  rw [List.size_toArray, List.size_toArray]
  omega
/-- == and != of two lists of data -/
def rEqL (K : PySem.W.Frag) : R2 := fun x y H Q => ∃ a b vs ws ds es, x = .ref a ∧ y = .ref b ∧ SqL K H a vs ∧ SqL K H b ws ∧ DatsAt K H vs ds ∧ DatsAt K H ws es ∧ Dt.hgts ds ≤ 30 ∧ Q (.bl (Dt.beqs ds es)) H
def rNeL (K : PySem.W.Frag) : R2 := fun x y H Q => ∃ a b vs ws ds es, x = .ref a ∧ y = .ref b ∧ SqL K H a vs ∧ SqL K H b ws ∧ DatsAt K H vs ds ∧ DatsAt K H ws es ∧ Dt.hgts ds ≤ 30 ∧ Q (.bl (!Dt.beqs ds es)) H
theorem op_neL (hu : X.A.units + 64 < cLine) : OpR X (compareOp .NotEq) (rNeL X.K) := by
  intro pins s σ H x y u v Q I ru rv h
  obtain ⟨a, b, vs, ws, ds, es, rfl, rfl, ha, hb, h2, k2, hd, q⟩ := h
  have hu' : X.A.units < cLine := by omega
  cases (show u = Value.ref a from ru)
  cases (show v = Value.ref b from rv)
  obtain ⟨its, r1, p1, _⟩ := I.list ha
  obtain ⟨its2, r2, p2, _⟩ := I.list hb
  by_cases hsz : its.toArray.size = its2.toArray.size
  · have r := SeqAt.RcNeAt.lists p1.isList p2.isList hsz hu' fun j j1 j2 => items_eq h2 k2 r1 r2 (fun d e x y u v hm q1 q2 q3 q4 =>
      eqAt_dat I 30 X.A.in1 d e x y u v (Nat.le_trans (Dt.hgt_mem hm) hd) (by show X.A.units + 1 + 30 < cLine; omega) q1 q2 q3 q4) j j1 j2
    rw [list_all h2 k2 r1 r2 hsz] at r
    exact r _ _ _ _ (fin_bl I q rfl)
  · have r := SeqAt.RcNeAt.lists_lengths p1.isList p2.isList (by simpa using hsz) hu'
    rw [list_len h2 k2 r1 r2 hsz] at q
    exact r _ _ _ _ (fin_bl I q rfl)
/-- isinstance of a tuple, also of one that stands in the text -/
theorem call_isiT : CallR X (.builtin "isinstance") (fun xs H Q => ∃ a vs n b, xs = [.ref a, .ty n] ∧ SqT X.K H a vs ∧ PySem.W.kitOne X.K (.type "tuple") (.type n) = some b ∧ Q (.bl b) H) := by
  intro pins s σ H xs us Q I r h
  obtain ⟨a, vs, n, b, rfl, ht, e, q⟩ := h
  obtain ⟨u, w', rfl, r1, r2⟩ := vals2 r
  cases (show u = Value.ref a from r1)
  cases (show w' = Value.type n from r2)
  obtain ⟨its, _, ⟨o, h1, h2, _⟩, _⟩ := I.tuple ht
  exact PySem.W.kia_one PySem.W.kitx_tuple I.kIn ⟨o, h1, h2⟩ e (fun z => nomatch z) fun tk => ⟨.bl b, H, I.tok tk, rfl, q⟩
end
end L2
namespace L2
open PySem PySem.Spec PySem.W PyProof.Rows
/-- every question of the tree lies below N, every end of it satisfies P -/
def Tr {α : Type} (N : Nat) (P : α → Prop) : KasT α → Prop
  | .ret a => P a
  | .ask i j k => i < N ∧ j < N ∧ ∀ b, Tr N P (k b)
/-- a row of the places 0, 1, .. N - 1, each once -/
def Pl (N : Nat) (p : Array Nat) : Prop := p.Perm (List.range N).toArray
section
variable {N : Nat} (hN : 0 < N)
include hN
end
section
variable {prog : Program} {w : World} {A : Around} {E : Value → Shared → Prop} {s : Shared}
end
end L2
namespace L2
open PySem PySem.Spec PySem.W PyProof.Rows
def pairD (f : Str × Int) : Dt := .tup [.str f.1, .int f.2]
def pairLt (f g : Str × Int) : Bool := if f.1 == g.1 then (if f.2 == g.2 then false else decide (f.2 < g.2)) else decide (f.1.cps.toList < g.1.cps.toList)
section
variable {X : Cx} {pins : List (Addr × Obj)} {σ : L2.St} {H : Hp} {s : Shared}
end
end L2
namespace L2
open PySem PySem.Spec PyProof.Rows
/-- an iterator of its own at i, over what stands at l -/
structure Feed (i l : Addr) (P : Nat → Heap → Prop) (f : Nat → Option Value) : Prop where
  obj : ∀ k h, P k h → ∃ o, h.get? i = some o ∧ ∀ v, o.data ≠ .cell v
  keep : ∀ k (h g : Heap), P k h → (∀ b o, b = i ∨ b = l → h.get? b = some o → g.get? b = some o) → P k g
  item : ∀ {prog : Program} {w : World} {A : Around} {E : Value → Shared → Prop} {s : Shared} {k : Nat} {x : Value} {Q : Value → Shared → Prop}, P k s.heap → f k = some x →
    (∀ g, P (k + 1) g → Heap.SameBut i s.heap g → Q x { s with heap := g }) → wpAny (model prog w) A (Builtin.SmallTypes.nextOf (.ref i)) Q E s
  stop : ∀ {prog : Program} {w : World} {A : Around} {E : Value → Shared → Prop} {s : Shared} {k : Nat} {Q : Value → Shared → Prop}, A.handled = none → P k s.heap → f k = none →
    (∀ g e, Heap.ExtBut i s.heap g → (∃ o, g.get? e = some o ∧ o.cls = .type "StopIteration") → E (.ref e) { s with heap := g }) → wpAny (model prog w) A (Builtin.SmallTypes.nextOf (.ref i)) Q E s
section
variable {prog : Program} {w : World} {A : Around} {E : Value → Shared → Prop} {s : Shared}
/-- a tuple's own iterator is such a one -/
theorem feed_tuple {i l : Addr} (hil : l ≠ i) (xs : Array Value) : Feed i l (fun k h => h.IsTupleIter i l k ∧ h.IsTuple l xs) (fun k => xs[k]?) where
  obj := fun k h p => by
    obtain ⟨⟨o, e, _, d⟩, _⟩ := p
    exact ⟨o, e, fun v z => by rw [d] at z; cases z⟩
  keep := fun k h g p q => ⟨p.1.at fun o e => q i o (.inl rfl) e, by
    obtain ⟨o, e, r⟩ := p.2
    exact ⟨o, q l o (.inr rfl) e, r⟩⟩
  item := by
    intro prog w A E s k x Q p hx hQ
    obtain ⟨⟨oi, ei, ci, di⟩, ⟨ol, el, cl, nl, dl⟩⟩ := id p
    unfold Builtin.SmallTypes.nextOf
    refine wpAny_bind (wpAny_callSpecial?_slot (name := Str.ofString "__next__") p.1.typeIs PySem.F.slot_tuple_iterator_next (wpAny_call_entry PySem.F.slot_tuple_iterator_next p.1.typeIs PySem.F.entry_tuple_iterator_next ?_ (PySem.F.args_tuple_iterator_next_1 _)))
    show wpAny _ _ (field (.ref i) 0 >>= _) _ _ s
    refine wpAny_bind (wpAny_field ei di (x := .ref l) rfl ?_)
    show wpAny _ _ (if (Value.ref l == Value.none) = true then _ else _) _ _ s
    rw [if_neg (show ¬ ((Value.ref l == Value.none) = true) from Bool.false_ne_true)]
    show wpAny _ _ (field (.ref i) 1 >>= _) _ _ s
    refine wpAny_bind (wpAny_field ei di (x := .int k 0) rfl ?_)
    show wpAny _ _ (seqItems? (.ref l) >>= _) _ _ s
    refine wpAny_bind (wpAny_seqItems el dl ?_)
    have hx' : xs[k]? = some x := hx
    simp only [Int.toNat_natCast, hx']
    refine wpAny_bind (wpAny_setField ei di (by simp) (wpAny_pure ⟨x, rfl, wpAny_pure (hQ _ ⟨?_, ?_⟩ (Heap.SameBut.update ..))⟩))
    · exact ⟨_, Heap.get?_update_self _ ei (Obj.isFreed_of_fields (Obj.data_mapFields di _)), (Obj.cls_mapFields ..).trans ci, by rw [Obj.data_mapFields di]; simp [rawInt]⟩
    · exact ⟨ol, ((Heap.SameBut.update ..).2 l hil).trans el, cl, nl, dl⟩
  stop := by
    intro prog w A E s k Q hh p hx hE
    obtain ⟨⟨oi, ei, ci, di⟩, ⟨ol, el, cl, nl, dl⟩⟩ := id p
    unfold Builtin.SmallTypes.nextOf
    refine wpAny_bind (wpAny_callSpecial?_slot (name := Str.ofString "__next__") p.1.typeIs PySem.F.slot_tuple_iterator_next (wpAny_call_entry PySem.F.slot_tuple_iterator_next p.1.typeIs PySem.F.entry_tuple_iterator_next ?_ (PySem.F.args_tuple_iterator_next_1 _)))
    show wpAny _ _ (field (.ref i) 0 >>= _) _ _ s
    refine wpAny_bind (wpAny_field ei di (x := .ref l) rfl ?_)
    show wpAny _ _ (if (Value.ref l == Value.none) = true then _ else _) _ _ s
    rw [if_neg (show ¬ ((Value.ref l == Value.none) = true) from Bool.false_ne_true)]
    show wpAny _ _ (field (.ref i) 1 >>= _) _ _ s
    refine wpAny_bind (wpAny_field ei di (x := .int k 0) rfl ?_)
    show wpAny _ _ (seqItems? (.ref l) >>= _) _ _ s
    refine wpAny_bind (wpAny_seqItems el dl ?_)
    have hx' : xs[k]? = none := hx
    simp only [Int.toNat_natCast, hx']
    refine wpAny_bind (wpAny_rule (wpAny_bind (wpAny_setField ei di (by simp) ?_)))
    show wpAny _ _ (newExc (.type "StopIteration") [] >>= _) _ _ _
    refine wpAny_bind ?_
    simp only [newExc, newTuple]
    refine wpAny_bind (wpAny_newObj_type ?_ (by size_fits))
    refine wpAny_bind (m := firstArgMember _ _) (wpAny_of_eq (a := Value.none) (by first | rfl | (simp only [firstArgMember]; rfl)) (wpAny_newObj_type ?_ (by size_fits)))
    simp only [raiseNew]
    refine wpAny_bind (wpAny_handled ?_)
    first | rw [show A.in1.handled = none from hh] | rw [hh]
    refine wpAny_bind (wpAny_pure (wpAny_throw ?_))
    exact hE _ _ (((Heap.SameBut.update ..).extBut.push _).push _) ⟨_, Heap.get?_push_size _ rfl, rfl⟩
variable {z TI TO i1 i2 l1 l2 : Addr} {P1 P2 : Nat → Heap → Prop} {f1 f2 : Nat → Option Value} {k1 k2 : Nat} {x y a b : Value}
/-- one more pair of the two -/
theorem zipF_item {Q : Option Value → Shared → Prop} (F1 : Feed i1 l1 P1 f1) (F2 : Feed i2 l2 P2 f2) (D : ZipApart z TI TO i1 i2 l1 l2) (hz : IsZip s.heap z TI TO .none) (hI : IsPair s.heap TI (.ref i1) (.ref i2)) (hO : IsPair s.heap TO a b)
    (p1 : P1 k1 s.heap) (p2 : P2 k2 s.heap) (hx : f1 k1 = some x) (hy : f2 k2 = some y)
    (hQ : ∀ g, IsZip g z TI TO (rawInt s.heap.objs.size) → IsPair g TO x y → P1 (k1 + 1) g → P2 (k2 + 1) g → IsPair g s.heap.objs.size x y →
      (∀ c o, c ≠ z → c ≠ TO → c ≠ i1 → c ≠ i2 → s.heap.get? c = some o → g.get? c = some o) → Q (some (.ref s.heap.objs.size)) { s with heap := g }) :
    wpAny (model prog w) A (pyNext (.ref z)) Q E s := by
  have ty : s.TypeIs (.ref z) "zip" := ⟨_, hz, rfl⟩
  unfold pyNext
  refine wpAny_bind (wpAny_attempt (wpAny_callSpecial?_slot (name := Str.ofString "__next__") ty PySem.F.slot_zip_next (wpAny_call_entry PySem.F.slot_zip_next ty PySem.F.entry_zip_next ?_ (PySem.F.args_zip_next_1 _))))
  show wpAny _ _ (field (.ref z) 2 >>= _) _ _ _
  refine wpAny_bind (wpAny_field hz rfl (x := .bool false) rfl ?_)
  show wpAny _ _ (field (.ref z) 3 >>= _) _ _ _
  refine wpAny_bind (wpAny_field hz rfl (x := .ref TI) rfl (wpAny_bind (wpAny_seqItems hI rfl ?_)))
  show wpAny _ _ (Builtin.SmallTypes.ownedTupleIsFree (.ref z) >>= _) _ _ _
  refine wpAny_bind ?_
  unfold Builtin.SmallTypes.ownedTupleIsFree
  refine wpAny_bind (wpAny_field hz rfl (x := .none) rfl (wpAny_pure ?_))
  simp only [if_true]
  refine wpAny_bind (wpAny_rule (wpAny_bind (wpAny_field hz rfl (x := .ref TO) rfl ?_)))
  refine wpAny_bind (wpAny_setField_rec hz (by simp) fun g1 z1 b1 => ?_)
  replace z1 : IsZip g1 z TI TO .ellipsis := z1
  refine wpAny_bind ?_
  simp only [List.zipIdx_cons, List.zipIdx_nil, List.forIn_cons, List.forIn_nil]
  refine wpAny_bind (wpAny_bind (wpAny_onRaise ?_))
  show wpAny _ _ (Builtin.SmallTypes.nextOf (.ref i1) >>= _) _ _ _
  have q1 : P1 k1 g1 := F1.keep _ _ _ p1 fun c o hc e => b1.extBut _ _ (by rcases hc with rfl | rfl; exact D.i1z; exact D.l1z) e
  refine wpAny_bind (F1.item q1 hx fun g2 r1 b2 => wpAny_pure ?_)
  have O2 : IsPair g2 TO a b := b2.extBut _ _ D.TOi1 (b1.extBut _ _ D.TOz hO)
  refine wpAny_bind (wpAny_seqItems O2 rfl (wpAny_bind (wpAny_updateSeq_pair O2 fun g3 O3 b3 => ?_)))
  replace O3 : IsPair g3 TO x b := O3
  refine wpAny_bind (wpAny_letGo (wpAny_pure (wpAny_bind (wpAny_bind (wpAny_onRaise ?_)))))
  show wpAny _ _ (Builtin.SmallTypes.nextOf (.ref i2) >>= _) _ _ _
  have q2 : P2 k2 g3 := F2.keep _ _ _ p2 fun c o hc e => b3.extBut _ _ (by rcases hc with rfl | rfl; exact D.TOi2.symm; exact D.l2TO) (b2.extBut _ _ (by rcases hc with rfl | rfl; exact D.i12.symm; exact D.l2i1) (b1.extBut _ _ (by rcases hc with rfl | rfl; exact D.i2z; exact D.l2z) e))
  refine wpAny_bind (F2.item q2 hy fun g4 r2 b4 => wpAny_pure ?_)
  have O4 : IsPair g4 TO x b := b4.extBut _ _ D.TOi2 O3
  refine wpAny_bind (wpAny_seqItems O4 rfl (wpAny_bind (wpAny_updateSeq_pair O4 fun g5 O5 b5 => ?_)))
  replace O5 : IsPair g5 TO x y := O5
  refine wpAny_bind (wpAny_letGo (wpAny_pure (wpAny_pure (wpAny_bind (wpAny_seqItems O5 rfl (wpAny_bind (wpAny_newTuple ?_)))))))
  have sz : g5.objs.size = s.heap.objs.size := by rw [b5.1, b4.1, b3.1, b2.1, b1.1]
  have z5 : IsZip g5 z TI TO .ellipsis := b5.extBut _ _ D.TOz.symm (b4.extBut _ _ D.i2z.symm (b3.extBut _ _ D.TOz.symm (b2.extBut _ _ D.i1z.symm z1)))
  have all5 : ∀ c o, c ≠ z → c ≠ TO → c ≠ i1 → c ≠ i2 → s.heap.get? c = some o → g5.get? c = some o := fun c o n1 n2 n3 n4 e =>
    b5.extBut _ _ n2 (b4.extBut _ _ n4 (b3.extBut _ _ n2 (b2.extBut _ _ n3 (b1.extBut _ _ n1 e))))
  have s1 : P1 (k1 + 1) g5 := F1.keep _ _ _ r1 fun c o hc e => b5.extBut _ _ (by rcases hc with rfl | rfl; exact D.TOi1.symm; exact D.l1TO) (b4.extBut _ _ (by rcases hc with rfl | rfl; exact D.i12; exact D.l1i2) (b3.extBut _ _ (by rcases hc with rfl | rfl; exact D.TOi1.symm; exact D.l1TO) e))
  have s2 : P2 (k2 + 1) g5 := F2.keep _ _ _ r2 fun c o hc e => b5.extBut _ _ (by rcases hc with rfl | rfl; exact D.TOi2.symm; exact D.l2TO) e
  have ltz : z < g5.objs.size := Heap.lt_size z5
  show wpAny _ _ (Builtin.SmallTypes.ownedTupleHandOut (.ref z) (.ref g5.objs.size) >>= _) _ _ _
  refine wpAny_bind ?_
  unfold Builtin.SmallTypes.ownedTupleHandOut
  have z6 : IsZip (g5.push { cls := .type "tuple", data := .seq #[x, y] }) z TI TO .ellipsis := Heap.get?_push_of_some _ z5
  refine wpAny_bind (wpAny_setField_rec z6 (by simp) fun g7 z7 b7 => ?_)
  replace z7 : IsZip g7 z TI TO (rawInt g5.objs.size) := z7
  refine wpAny_setField_rec z7 (by simp) fun g8 z8 b8 => ?_
  replace z8 : IsZip g8 z TI TO (rawInt g5.objs.size) := z8
  have up : ∀ c o, c ≠ z → g5.get? c = some o → g8.get? c = some o := fun c o n e => b8.extBut _ _ n (b7.extBut _ _ n (Heap.get?_push_of_some _ e))
  have T8 : IsPair g8 g5.objs.size x y := b8.extBut _ _ (Nat.ne_of_gt ltz) (b7.extBut _ _ (Nat.ne_of_gt ltz) (Heap.get?_push_size _ rfl))
  rw [sz] at z8 T8
  refine wpAny_pure ⟨_, rfl, wpAny_pure ?_⟩
  show Q (some (.ref g5.objs.size)) _
  rw [sz]
  exact hQ g8 z8 (up _ _ D.TOz O5) (F1.keep _ _ _ s1 fun c o hc e => up c o (by rcases hc with rfl | rfl; exact D.i1z; exact D.l1z) e) (F2.keep _ _ _ s2 fun c o hc e => up c o (by rcases hc with rfl | rfl; exact D.i2z; exact D.l2z) e) T8
    fun c o n1 n2 n3 n4 e => up c o n1 (all5 c o n1 n2 n3 n4 e)
/-- one of the two is at its end -/
theorem zipF_end {Q : Option Value → Shared → Prop} (hh : A.handled = none) (F1 : Feed i1 l1 P1 f1) (F2 : Feed i2 l2 P2 f2) (D : ZipApart z TI TO i1 i2 l1 l2) (hz : IsZip s.heap z TI TO .none) (hI : IsPair s.heap TI (.ref i1) (.ref i2)) (hO : IsPair s.heap TO a b)
    (p1 : P1 k1 s.heap) (p2 : P2 k2 s.heap) (ends : f1 k1 = none ∨ f2 k2 = none)
    (hQ : ∀ g, (∀ c o, c ≠ z → c ≠ TO → c ≠ i1 → c ≠ i2 → s.heap.get? c = some o → g.get? c = some o) → Q none { s with heap := g }) : wpAny (model prog w) A (pyNext (.ref z)) Q E s := by
  have ty : s.TypeIs (.ref z) "zip" := ⟨_, hz, rfl⟩
  have last : ∀ (g : Heap) (e : Addr), (∀ c o, c ≠ z → c ≠ TO → c ≠ i1 → c ≠ i2 → s.heap.get? c = some o → g.get? c = some o) → (∃ o, g.get? e = some o ∧ o.cls = .type "StopIteration") →
      wpAny (model prog w) A (do let b ← isInstance (.ref e) (.type "StopIteration"); if b = true then pure none else throw (.ref e)) Q E { s with heap := g } := fun g e k1 k2 => by
    obtain ⟨o, ho, hc⟩ := k2
    refine wpAny_bind (wpAny_isInstance (T := "StopIteration") (b := true) ⟨o, ho, hc⟩ isSubtype_stop ?_)
    exact wpAny_pure (hQ g k1)
  unfold pyNext
  refine wpAny_bind (wpAny_attempt (wpAny_callSpecial?_slot (name := Str.ofString "__next__") ty PySem.F.slot_zip_next (wpAny_call_entry PySem.F.slot_zip_next ty PySem.F.entry_zip_next ?_ (PySem.F.args_zip_next_1 _))))
  show wpAny _ _ (field (.ref z) 2 >>= _) _ _ _
  refine wpAny_bind (wpAny_field hz rfl (x := .bool false) rfl ?_)
  show wpAny _ _ (field (.ref z) 3 >>= _) _ _ _
  refine wpAny_bind (wpAny_field hz rfl (x := .ref TI) rfl (wpAny_bind (wpAny_seqItems hI rfl ?_)))
  show wpAny _ _ (Builtin.SmallTypes.ownedTupleIsFree (.ref z) >>= _) _ _ _
  refine wpAny_bind ?_
  unfold Builtin.SmallTypes.ownedTupleIsFree
  refine wpAny_bind (wpAny_field hz rfl (x := .none) rfl (wpAny_pure ?_))
  simp only [if_true]
  refine wpAny_bind (wpAny_rule (wpAny_bind (wpAny_field hz rfl (x := .ref TO) rfl ?_)))
  refine wpAny_bind (wpAny_setField_rec hz (by simp) fun g1 z1 b1 => ?_)
  replace z1 : IsZip g1 z TI TO .ellipsis := z1
  refine wpAny_bind ?_
  simp only [List.zipIdx_cons, List.zipIdx_nil, List.forIn_cons, List.forIn_nil]
  refine wpAny_bind (wpAny_bind (wpAny_onRaise ?_))
  show wpAny _ _ (Builtin.SmallTypes.nextOf (.ref i1) >>= _) _ _ _
  have q1 : P1 k1 g1 := F1.keep _ _ _ p1 fun c o hc e => b1.extBut _ _ (by rcases hc with rfl | rfl; exact D.i1z; exact D.l1z) e
  cases hx : f1 k1 with
  | none =>
    refine wpAny_bind (F1.stop hh q1 hx fun g2 e b2 he => ?_)
    obtain ⟨oe, hoe, hce⟩ := he
    have z2 : IsZip g2 z TI TO .ellipsis := b2 _ _ D.i1z.symm z1
    have ez : e ≠ z := fun q => by subst q; rw [z2] at hoe; cases hoe; simp at hce
    exact wpAny_setField_rec z2 (by simp) fun g3 _ b3 => last g3 e (fun c o n1 _ n3 _ q => b3.extBut _ _ n1 (b2 _ _ n3 (b1.extBut _ _ n1 q))) ⟨oe, b3.extBut _ _ ez hoe, hce⟩
  | some x =>
    have hy : f2 k2 = none := by
      rcases ends with q | q
      · rw [hx] at q; cases q
      · exact q
    refine wpAny_bind (F1.item q1 hx fun g2 r1 b2 => wpAny_pure ?_)
    have O2 : IsPair g2 TO a b := b2.extBut _ _ D.TOi1 (b1.extBut _ _ D.TOz hO)
    refine wpAny_bind (wpAny_seqItems O2 rfl (wpAny_bind (wpAny_updateSeq_pair O2 fun g3 O3 b3 => ?_)))
    refine wpAny_bind (wpAny_letGo (wpAny_pure (wpAny_bind (wpAny_bind (wpAny_onRaise ?_)))))
    show wpAny _ _ (Builtin.SmallTypes.nextOf (.ref i2) >>= _) _ _ _
    have q2 : P2 k2 g3 := F2.keep _ _ _ p2 fun c o hc e => b3.extBut _ _ (by rcases hc with rfl | rfl; exact D.TOi2.symm; exact D.l2TO) (b2.extBut _ _ (by rcases hc with rfl | rfl; exact D.i12.symm; exact D.l2i1) (b1.extBut _ _ (by rcases hc with rfl | rfl; exact D.i2z; exact D.l2z) e))
    refine wpAny_bind (F2.stop hh q2 hy fun g4 e b4 he => ?_)
    obtain ⟨oe, hoe, hce⟩ := he
    have z4 : IsZip g4 z TI TO .ellipsis := b4 _ _ D.i2z.symm (b3.extBut _ _ D.TOz.symm (b2.extBut _ _ D.i1z.symm z1))
    have ez : e ≠ z := fun q => by subst q; rw [z4] at hoe; cases hoe; simp at hce
    exact wpAny_setField_rec z4 (by simp) fun g5 _ b5 => last g5 e (fun c o n1 n2 n3 n4 q => b5.extBut _ _ n1 (b4 _ _ n4 (b3.extBut _ _ n2 (b2.extBut _ _ n3 (b1.extBut _ _ n1 q))))) ⟨oe, b5.extBut _ _ ez hoe, hce⟩
end
end L2
namespace L2
open PySem PySem.Spec PyProof.Rows
abbrev zA (h : Heap) (l : Addr) : Heap := h.push { cls := .type "tuple_iterator", data := .fields #[.ref l, .int 0 0] }
abbrev zB (h : Heap) (l m : Addr) : Heap := zA (zA h l) m
abbrev zC (h : Heap) (l m : Addr) : Heap := (zB h l m).push { cls := .type "tuple", data := .seq #[.ref h.objs.size, .ref (zA h l).objs.size] }
abbrev zD (h : Heap) (l m : Addr) : Heap := (zC h l m).push { cls := .type "tuple", data := .seq #[.none, .none] }
abbrev zE (h : Heap) (l m : Addr) : Heap := (zD h l m).push { cls := .type "zip", data := .fields #[.none, .bool false, .bool false, .ref (zB h l m).objs.size, .ref (zC h l m).objs.size] }
/-- the pairs of the tuples at a and b -/
def ItzT (K : PySem.W.Frag) (a b : Addr) : It :=
  ⟨fun i H => ∃ xs ys x y, SqT K H a xs ∧ SqT K H b ys ∧ xs[i]? = some x ∧ ys[i]? = some y,
   fun i H v H' => ∃ p, v = .ref p ∧ H p = none ∧ ∀ xs ys x y, SqT K H a xs → SqT K H b ys → xs[i]? = some x → ys[i]? = some y → H' = upd H p (.tup [x, y]),
   fun i H => ∃ xs ys, SqT K H a xs ∧ SqT K H b ys ∧ (xs.length ≤ i ∨ ys.length ≤ i)⟩
section
variable {X : Cx} {elts : List Expr} {kk : Nat} {tpos : Pos}
def iZipT (K : PySem.W.Frag) (ta : TA) : TI := fun σ H R => ta σ H fun vs H1 => ∃ a b, vs = [.ref a, .ref b] ∧ (∃ xs, SqT K H1 a xs) ∧ (∃ ys, SqT K H1 b ys) ∧ R (ItzT K a b) H1
end
end L2
namespace L2
open PySem PySem.Spec PyProof.Rows
/-- over a list that stays -/
theorem comp_list {K : PySem.W.Frag} {a D : Addr} {xs : List V} {g : TG} {tt : TT} {te : TE} {Q : VK} {H : Hp} {σ0 : L2.St} (Pv : Nat → L2.St → List V → Hp → Prop) (p0 : Pv 0 σ0 [] H)
    (hl : ∀ i σ ys H', i ≤ xs.length → Pv i σ ys H' → SqL K H' a xs ∧ H' D = some (.lst ys) ∧ ys.length < sizeLine)
    (hs : ∀ i x σ ys H', xs[i]? = some x → Pv i σ ys H' → ∀ N : L2.St → List V → Hp → Prop, (∀ σ ys H, Pv (i + 1) σ ys H → N σ ys H) →
      g x σ H' fun σ4 H4 => tt σ4 H4 fun b H5 => if b = true then te σ4 H5 fun v H6 => H6 D = some (.lst ys) ∧ N σ4 (ys ++ [v]) (upd H6 D (.lst (ys ++ [v]))) else N σ4 ys H5)
    (hd : ∀ σ ys H', Pv xs.length σ ys H' → Q (.ref D) H') : CompW (Itl K a) g tt te σ0 Q D H := by
  refine ⟨fun i m σ ys H => m = xs.length - i ∧ i ≤ xs.length ∧ Pv i σ ys H, ⟨xs.length, by simp, Nat.zero_le _, p0⟩, ?_⟩
  rintro i m σ ys H2 ⟨rfl, hi, p⟩
  obtain ⟨q1, q2, q3⟩ := hl i σ ys H2 hi p
  refine ⟨q2, q3, ?_⟩
  by_cases hlt : i < xs.length
  · refine .inr ⟨⟨xs, xs[i], q1, by simp [hlt]⟩, fun x H3 y => ?_⟩
    obtain ⟨e, y⟩ := y
    subst e
    exact hs i x σ ys _ (y xs q1) p (fun σ ys H => ∃ m', m' < xs.length - i ∧ m' = xs.length - (i + 1) ∧ i + 1 ≤ xs.length ∧ Pv (i + 1) σ ys H) fun σ ys H z => ⟨_, by omega, rfl, hlt, z⟩
  · have e : i = xs.length := by omega
    subst e
    exact .inl ⟨⟨xs, q1, Nat.le_refl _⟩, hd σ ys H2 p⟩
def LsM (K : PySem.W.Frag) (H : Hp) (a : Addr) (ds : List Dt) : Prop := ∃ vs, H a = some (.lst vs) ∧ DatsAt K H vs ds
theorem LsM.same {K : PySem.W.Frag} {H H' : Hp} {a : Addr} {ds : List Dt} (h : LsM K H a ds) (e : Same H H') : LsM K H' a ds := by
  obtain ⟨vs, h1, h2⟩ := h
  exact ⟨vs, e _ _ h1, h2.same e⟩
section
variable {K : PySem.W.Frag} {H : Hp} {a : Addr} {xs ys : List V}
/-- a list is written: what is a tuple stays -/
theorem sqT_upd {r : Addr} {vs : List V} (ha : H a = some (.lst xs)) (h : SqT K H r vs) : SqT K (upd H a (.lst ys)) r vs := by
  rcases h with (h | ⟨o, h⟩) | h
  · exact .inl (.inl (by rw [upd_ne (ne_of h ha (by intro z; cases z))]; exact h))
  · exact .inl (.inr ⟨o, by rw [upd_ne (ne_of h ha (by intro z; cases z))]; exact h⟩)
  · exact .inr h
mutual
theorem DatAt.updL (ha : H a = some (.lst xs)) : ∀ {v : V} {d : Dt}, DatAt K H v d → DatAt K (upd H a (.lst ys)) v d
  | v, .non, h => by simpa [DatAt] using h
  | v, .int i, h => by simpa [DatAt] using h
  | v, .str i, h => by simpa [DatAt] using h
  | v, .tup ds, h => by
    obtain ⟨r, vs, rfl, h1, h2⟩ := h.un
    exact .tup (sqT_upd ha h1) (DatsAt.updL ha h2)
theorem DatsAt.updL (ha : H a = some (.lst xs)) : ∀ {vs : List V} {ds : List Dt}, DatsAt K H vs ds → DatsAt K (upd H a (.lst ys)) vs ds
  | vs, [], h => by
    rw [h.un0]
    exact .nil
  | vs, d :: ds, h => by
    obtain ⟨v, r, rfl, h1, h2⟩ := h.un
    exact .cons (DatAt.updL ha h1) (DatsAt.updL ha h2)
end
end
end L2
namespace L2
open PySem PySem.Spec PyProof.Rows FW
def frD (p : Int × Int) : Dt := .tup [.int p.1, .int p.2]
def prD (p : Dt × Dt) : Dt := .tup [p.1, p.2]
def rowD (r : Dt × Int) : Dt := .tup [r.1, .int r.2]
def parD (S : Int) (r : Dt × Int) : Dt := prD (r.1, frD (low r.2 S))
/-- an outcome -/
inductive Oc : Dt → Prop
  | non : Oc .non
  | int (n : Int) : Oc (.int n)
  | recd (fs : List (Str × Int)) : Oc (.tup (fs.map pairD))
def tyD : Dt → String
  | .non => "NoneType"
  | .int _ => "int"
  | .str _ => "str"
  | .tup _ => "tuple"
section
variable {K : PySem.W.Frag} {H : Hp}
theorem DatsAt.two {vs : List V} {d e : Dt} (h : DatsAt K H vs [d, e]) : ∃ v u, vs = [v, u] ∧ DatAt K H v d ∧ DatAt K H u e := by
  obtain ⟨v, r, rfl, h1, h2⟩ := h.un
  obtain ⟨u, r2, rfl, h3, h4⟩ := h2.un
  have := h4.un0
  subst this
  exact ⟨v, u, rfl, h1, h3⟩
theorem DatAt.int_eq {v : V} {n : Int} (h : DatAt K H v (.int n)) : v = .int n := by simpa [DatAt] using h
theorem DatAt.str_eq {v : V} {n : Str} (h : DatAt K H v (.str n)) : v = .str n := by simpa [DatAt] using h
theorem DatAt.pr {v : V} {p : Dt × Dt} (h : DatAt K H v (prD p)) : ∃ r a b, v = .ref r ∧ SqT K H r [a, b] ∧ DatAt K H a p.1 ∧ DatAt K H b p.2 := by
  obtain ⟨r, vs, rfl, h1, h2⟩ := DatAt.un (ds := [p.1, p.2]) h
  obtain ⟨a, b, rfl, h3, h4⟩ := h2.two
  exact ⟨r, a, b, rfl, h1, h3, h4⟩
end
def sumW (rows : List (Dt × Int)) : Int := (rows.map (·.2)).sum
/-- rows over the bottom S, none below 0, all of them small enough -/
structure Sc (S : Int) (rows : List (Dt × Int)) : Prop where
  pos : 0 < S
  big : S ≤ 10 ^ 60
  nn : ∀ r ∈ rows, 0 ≤ r.2
  top : sumW rows ≤ 10 ^ 60
/-- the rows of the law -/
structure Rw (rows : List (Dt × Int)) : Prop where
  oc : ∀ r ∈ rows, Oc r.1
  pos : ∀ r ∈ rows, 0 < r.2
theorem take_snoc' {α : Type} {xs : List α} {i : Nat} {x : α} (h : xs[i]? = some x) : xs.take (i + 1) = xs.take i ++ [x] := by
  rw [List.take_add_one, h]
  rfl
theorem map_get {α β : Type} {f : α → β} {xs : List α} {i : Nat} {y : β} (h : (xs.map f)[i]? = some y) : ∃ x, xs[i]? = some x ∧ f x = y := by
  rw [List.getElem?_map] at h
  cases e : xs[i]? with
  | none => rw [e] at h; cases h
  | some x => rw [e] at h; exact ⟨x, rfl, Option.some.inj h⟩
end L2
namespace L2
open PySem PySem.Spec PyProof.Rows
section
variable {X : Cx} {K : PySem.W.Frag}
theorem ix_tupK (hK : X.K = K) : IxR X (rIxT K) := by
  subst hK
  exact ix_tup
theorem pg_tupK {es : List Expr} {kk n : Nat} {t : TGs} {pos : Pos} (hK : X.K = K) (hc : X.calm = true) (h : PGs X es t) (hn : (assignEach es X.env).length = n := by rfl) (hst : (assignEach es X.env).findIdx? (·.1) = none := by rfl) :
    PG X (.Tuple es kk pos) (gTup K n t) := by
  subst hK
  exact pg_tup hc h hn hst
end
end L2
namespace L2
open PySem PySem.Spec PyProof.Rows
section
variable {X : Cx}
def ipMul : TIp := fun x y H Q => ∃ i j, x = .int i ∧ y = .int j ∧ IntMulOk i j ∧ Q (.int (i * j)) H
theorem call_list_ofK {K : PySem.W.Frag} (hK : X.K = K) : CallR X (.type "list") (fun xs H Q => ∃ p ys, xs = [.ref p] ∧ (SqL K H p ys ∨ SqT K H p ys) ∧ ∀ l, H l = none → Q (.ref l) (upd H l (.lst ys))) := by
  subst hK
  exact call_list_of
/-- (a, b, ..) = a list of that length -/
def gLst (K : PySem.W.Frag) (n : Nat) (t : TGs) : TG := fun v σ H Q => ∃ a xs, v = .ref a ∧ SqL K H a xs ∧ xs.length = n ∧ t xs σ H Q
theorem pg_lst {es : List Expr} {k : Nat} {t : TGs} {n : Nat} {pos : Pos} (hc : X.calm = true) (h : PGs X es t)
    (hn : (assignEach es X.env).length = n := by rfl) (hst : (assignEach es X.env).findIdx? (·.1) = none := by rfl) : PG X (.Tuple es k pos) (gLst X.K n t) := by
  intro pins s σ H v u Q I r hw
  obtain ⟨a, xs, e1, hq, hl, hw⟩ := hw
  subst e1
  cases r
  obtain ⟨its, rv, p, hz⟩ := I.list hq
  have hlen := rv.length
  have e2 : (assignEach es X.env).length = its.toArray.size := by
    rw [hn, List.size_toArray]
    omega
  rw [assign_Tuple]
  refine wpAny_bind (wpAny_standAt ?_)
  unfold unpack
  rw [e2, hst]
  refine wpAny_bind (wpAny_holding (PySem.W.kun_itemsOf (I.ok.hd hc) p.isList fun h' hx => ?_))
  have I1 : Inv X pins σ H { s with heap := h' } := I.kept (t' := s.toks) fun b o e => hx b o (Nat.ne_of_lt (Heap.lt_size e)) e
  exact h pins _ σ H xs _ Q I1 (by simpa using rv) hw
end
/-- over a tuple -/
theorem comp_tup {K : PySem.W.Frag} {a D : Addr} {xs : List V} {g : TG} {tt : TT} {te : TE} {Q : VK} {H : Hp} {σ0 : L2.St} (Pv : Nat → L2.St → List V → Hp → Prop) (p0 : Pv 0 σ0 [] H)
    (hl : ∀ i σ ys H', i ≤ xs.length → Pv i σ ys H' → SqT K H' a xs ∧ H' D = some (.lst ys) ∧ ys.length < sizeLine)
    (hs : ∀ i x σ ys H', xs[i]? = some x → Pv i σ ys H' → ∀ N : L2.St → List V → Hp → Prop, (∀ σ ys H, Pv (i + 1) σ ys H → N σ ys H) →
      g x σ H' fun σ4 H4 => tt σ4 H4 fun b H5 => if b = true then te σ4 H5 fun v H6 => H6 D = some (.lst ys) ∧ N σ4 (ys ++ [v]) (upd H6 D (.lst (ys ++ [v]))) else N σ4 ys H5)
    (hd : ∀ σ ys H', Pv xs.length σ ys H' → Q (.ref D) H') : CompW (Itt K a) g tt te σ0 Q D H := by
  refine ⟨fun i m σ ys H => m = xs.length - i ∧ i ≤ xs.length ∧ Pv i σ ys H, ⟨xs.length, by simp, Nat.zero_le _, p0⟩, ?_⟩
  rintro i m σ ys H2 ⟨rfl, hi, p⟩
  obtain ⟨q1, q2, q3⟩ := hl i σ ys H2 hi p
  refine ⟨q2, q3, ?_⟩
  by_cases hlt : i < xs.length
  · refine .inr ⟨⟨xs, xs[i], q1, by simp [hlt]⟩, fun x H3 y => ?_⟩
    obtain ⟨e, y⟩ := y
    subst e
    exact hs i x σ ys _ (y xs q1) p (fun σ ys H => ∃ m', m' < xs.length - i ∧ m' = xs.length - (i + 1) ∧ i + 1 ≤ xs.length ∧ Pv (i + 1) σ ys H) fun σ ys H z => ⟨_, by omega, rfl, hlt, z⟩
  · have e : i = xs.length := by omega
    subst e
    exact .inl ⟨⟨xs, q1, Nat.le_refl _⟩, hd σ ys H2 p⟩
def BtA (a : Addr) (H H' : Hp) : Prop := ∀ b o, b ≠ a → H b = some o → H' b = some o
/-- no tuple stands there -/
def NT (H : Hp) (a : Addr) : Prop := ∀ o, H a = some o → (∀ vs, o ≠ .tup vs) ∧ ∀ q vs, o ≠ .frz q (.tup vs)
section
variable {K : PySem.W.Frag} {H H' H2 : Hp} {a b : Addr} {xs : List V}
theorem NT.lst (h : H a = some (.lst xs)) : NT H a := fun o e => by
  rw [h] at e
  cases e
  exact ⟨(fun _ z => nomatch z), (fun _ _ z => nomatch z)⟩
theorem NT.ins {C dx : Addr} {fs : List (Str × V)} (h : H a = some (.ins C dx fs)) : NT H a := fun o e => by
  rw [h] at e
  cases e
  exact ⟨(fun _ z => nomatch z), (fun _ _ z => nomatch z)⟩
theorem BtA.refl : BtA a H H := fun _ _ _ h => h
theorem BtA.of (e : Same H H') : BtA a H H' := fun b o _ h => e b o h
theorem BtA.trans (e : BtA a H H') (f : BtA a H' H2) : BtA a H H2 := fun b o n h => f b o n (e b o n h)
theorem BtA.upd {o : HO} : BtA a H (L2.upd H a o) := fun b _ n h => by rw [upd_ne n]; exact h
theorem BtA.updF {o : HO} (hn : H b = none) : BtA a H (L2.upd H b o) := fun c _ _ h => by rw [upd_ne (ne_of_none h hn)]; exact h
theorem sqT_but {r : Addr} {vs : List V} (nt : NT H a) (e : BtA a H H') (h : SqT K H r vs) : SqT K H' r vs := by
  rcases h with (h | ⟨o, h⟩) | h
  · exact .inl (.inl (e _ _ (fun z => by subst z; exact (nt _ h).1 _ rfl) h))
  · exact .inl (.inr ⟨o, e _ _ (fun z => by subst z; exact (nt _ h).2 _ _ rfl) h⟩)
  · exact .inr h
mutual
theorem DatAt.but (nt : NT H a) (e : BtA a H H') : ∀ {v : V} {d : Dt}, DatAt K H v d → DatAt K H' v d
  | v, .non, h => by simpa [DatAt] using h
  | v, .int i, h => by simpa [DatAt] using h
  | v, .str i, h => by simpa [DatAt] using h
  | v, .tup ds, h => by
    obtain ⟨r, vs, rfl, h1, h2⟩ := h.un
    exact .tup (sqT_but nt e h1) (DatsAt.but nt e h2)
theorem DatsAt.but (nt : NT H a) (e : BtA a H H') : ∀ {vs : List V} {ds : List Dt}, DatsAt K H vs ds → DatsAt K H' vs ds
  | vs, [], h => by
    rw [h.un0]
    exact .nil
  | vs, d :: ds, h => by
    obtain ⟨v, r, rfl, h1, h2⟩ := h.un
    exact .cons (DatAt.but nt e h1) (DatsAt.but nt e h2)
end
theorem LsM.but {ds : List Dt} (h : LsM K H b ds) (nt : NT H a) (e : BtA a H H') (n : b ≠ a) : LsM K H' b ds := by
  obtain ⟨vs, h1, h2⟩ := h
  exact ⟨vs, e _ _ n h1, h2.but nt e⟩
structure LLM (K : PySem.W.Frag) (H : Hp) (a : Addr) (ps : List (Addr × List Dt)) : Prop where
  at_ : H a = some (.lst (ps.map fun p => V.ref p.1))
  it : ∀ p ∈ ps, LsM K H p.1 p.2
  ne : ∀ p ∈ ps, p.1 ≠ a
theorem LLM.same {ps : List (Addr × List Dt)} (h : LLM K H a ps) (e : Same H H') : LLM K H' a ps := ⟨e _ _ h.at_, fun p hp => (h.it p hp).same e, h.ne⟩
theorem LLM.but {ps : List (Addr × List Dt)} (h : LLM K H b ps) (nt : NT H a) (e : BtA a H H') (n : b ≠ a) (ni : ∀ p ∈ ps, p.1 ≠ a) : LLM K H' b ps :=
  ⟨e _ _ n h.at_, fun p hp => (h.it p hp).but nt e (ni p hp), h.ne⟩
theorem LLM.snoc {ps : List (Addr × List Dt)} {D : Addr} {ds : List Dt} (h : LLM K H a ps) (hD : LsM K H D ds) (ne : D ≠ a) : LLM K (L2.upd H a (.lst (ps.map (fun p => V.ref p.1) ++ [.ref D]))) a (ps ++ [(D, ds)]) := by
  refine ⟨?_, fun p hp => ?_, fun p hp => ?_⟩
  · rw [upd_same, List.map_append]
    rfl
  · rcases List.mem_append.mp hp with z | z
    · exact (h.it p z).but (.lst h.at_) .upd (h.ne p z)
    · cases List.mem_singleton.mp z
      exact hD.but (.lst h.at_) .upd ne
  · rcases List.mem_append.mp hp with z | z
    · exact h.ne p z
    · cases List.mem_singleton.mp z
      exact ne
end
section
variable {X : Cx} {pins : List (Addr × Obj)} {σ : St} {H : Hp} {s : Shared}
/-- != of two lists of lists that are alike -/
def rNeLL (K : PySem.W.Frag) : R2 := fun x y H Q => ∃ a b ps qs, x = .ref a ∧ y = .ref b ∧ LLM K H a ps ∧ LLM K H b qs ∧ ps.map (·.2) = qs.map (·.2) ∧ (∀ p ∈ ps, Dt.hgts p.2 ≤ 30) ∧ Q (.bl false) H
end
end L2
namespace L2
open PySem PySem.Spec PyProof.Rows
section
variable {κ : Type} [DecidableEq κ]
def valV (kvs : List (κ × V)) (k : κ) : Option V := (kvs.find? fun kv => decide (kv.1 = k)).map (·.2)
/-- in its place, or at the end -/
def putK (kvs : List (κ × V)) (k : κ) (v : V) : List (κ × V) :=
  if (kvs.any fun kv => decide (kv.1 = k)) = true then kvs.map (fun kv => if kv.1 = k then (kv.1, v) else kv) else kvs ++ [(k, v)]
def dropK (kvs : List (κ × V)) (k : κ) : List (κ × V) := kvs.filter fun kv => decide (kv.1 ≠ k)
theorem valV_pos {p : κ × V} {r : List (κ × V)} {k : κ} (e : p.1 = k) : valV (p :: r) k = some p.2 := by simp [valV, List.find?_cons, e]
theorem valV_neg {p : κ × V} {r : List (κ × V)} {k : κ} (e : ¬ p.1 = k) : valV (p :: r) k = valV r k := by simp [valV, List.find?_cons, e]
theorem valV_any (k : κ) : ∀ kvs : List (κ × V), (kvs.any fun kv => decide (kv.1 = k)) = (valV kvs k).isSome
  | [] => rfl
  | p :: r => by
    rw [List.any_cons]
    by_cases e : p.1 = k
    · simp only [valV_pos e, decide_eq_true e, Bool.true_or, Option.isSome_some]
    · rw [valV_neg e, decide_eq_false e, Bool.false_or]; exact valV_any k r
theorem valV_map (k j : κ) (y : V) : ∀ kvs : List (κ × V), valV (kvs.map fun kv => if kv.1 = k then (kv.1, y) else kv) j = (valV kvs j).map fun x => if j = k then y else x
  | [] => rfl
  | p :: r => by
    have ih := valV_map k j y r
    rw [List.map_cons]
    by_cases h : p.1 = k
    · rw [if_pos h]
      by_cases e : p.1 = j
      · rw [valV_pos (p := (p.1, y)) e, valV_pos e, Option.map_some, if_pos (e.symm.trans h)]
      · rw [valV_neg (p := (p.1, y)) e, valV_neg e, ih]
    · rw [if_neg h]
      by_cases e : p.1 = j
      · rw [valV_pos (p := p) e, valV_pos e, Option.map_some, if_neg (fun z => h (e.trans z))]
      · rw [valV_neg (p := p) e, valV_neg e, ih]
theorem valV_snoc (k j : κ) (y : V) : ∀ kvs : List (κ × V), valV kvs k = none → valV (kvs ++ [(k, y)]) j = if j = k then some y else valV kvs j
  | [], _ => by
    by_cases e : k = j
    · rw [if_pos e.symm]; exact valV_pos (p := (k, y)) e
    · rw [if_neg (fun z => e z.symm)]; exact valV_neg (p := (k, y)) e
  | p :: r, hn => by
    rw [List.cons_append]
    have hk : ¬ p.1 = k := fun z => by rw [valV_pos z] at hn; cases hn
    rw [valV_neg hk] at hn
    have ih := valV_snoc k j y r hn
    by_cases e : p.1 = j
    · rw [valV_pos e, valV_pos e, if_neg (fun z => hk (e.trans z))]
    · rw [valV_neg e, valV_neg e, ih]
theorem valV_put (kvs : List (κ × V)) (k j : κ) (y : V) : valV (putK kvs k y) j = if j = k then some y else valV kvs j := by
  unfold putK
  by_cases a : (kvs.any fun kv => decide (kv.1 = k)) = true
  · rw [if_pos a, valV_map]
    rw [valV_any] at a
    by_cases e : j = k
    · obtain ⟨x, hx⟩ := Option.isSome_iff_exists.mp a
      rw [if_pos e, e, hx, Option.map_some, if_pos rfl]
    · rw [if_neg e]
      cases valV kvs j with
      | none => rfl
      | some x => rw [Option.map_some, if_neg e]
  · rw [if_neg a]
    refine valV_snoc k j y kvs ?_
    rw [valV_any] at a
    cases q : valV kvs k with
    | none => rfl
    | some x => rw [q] at a; exact (a rfl).elim
theorem length_putK (kvs : List (κ × V)) (k : κ) (v : V) : (putK kvs k v).length ≤ kvs.length + 1 := by
  unfold putK
  split
  · rw [List.length_map]; omega
  · rw [List.length_append, List.length_cons, List.length_nil]; omega
theorem RelO.isSome_eq {o : Option V} {u : Option Value} (r : RelO o u) : o.isSome = u.isSome := by
  cases o with
  | none => cases u with
    | none => rfl
    | some _ => exact (show False from r).elim
  | some _ => cases u with
    | none => exact (show False from r).elim
    | some _ => rfl
/-- raw tables of the same keys -/
theorem KV.val {kvs : List (κ × V)} {vs : List (κ × Value)} (r : KV kvs vs) (k : κ) : RelO (valV kvs k) (valueAt vs k) := by
  unfold KV at r
  induction r with
  | nil => exact True.intro
  | @cons p q ps qs h t ih =>
    obtain ⟨h1, h2⟩ := h
    by_cases e : p.1 = k
    · have e' : q.1 = k := h1.symm.trans e
      have b : valueAt (q :: qs) k = some q.2 := by simp [valueAt, List.find?_cons, e']
      rw [valV_pos e, b]; exact h2
    · have e' : ¬ q.1 = k := fun z => e (h1.trans z)
      have b : valueAt (q :: qs) k = valueAt qs k := by simp [valueAt, List.find?_cons, e']
      rw [valV_neg e, b]; exact ih
theorem KV.any {kvs : List (κ × V)} {vs : List (κ × Value)} (r : KV kvs vs) (k : κ) : (kvs.any fun kv => decide (kv.1 = k)) = vs.any fun kv => decide (kv.1 = k) := by
  unfold KV at r
  induction r with
  | nil => rfl
  | cons h t ih => rw [List.any_cons, List.any_cons, ih, h.1]
theorem KV.repl {kvs : List (κ × V)} {vs : List (κ × Value)} (r : KV kvs vs) (k : κ) {y : V} {u : Value} (ry : RelV y u) :
    KV (kvs.map fun kv => if kv.1 = k then (kv.1, y) else kv) (vs.map fun kv => if kv.1 = k then (kv.1, u) else kv) := by
  unfold KV at r ⊢
  induction r with
  | nil => exact .nil
  | @cons p q ps qs h t ih =>
    rw [List.map_cons, List.map_cons]
    refine .cons ?_ ih
    obtain ⟨h1, h2⟩ := h
    by_cases e : p.1 = k
    · rw [if_pos e, if_pos (h1.symm.trans e)]; exact ⟨h1, ry⟩
    · rw [if_neg e, if_neg (fun z => e (h1.trans z))]; exact ⟨h1, h2⟩
theorem KV.put {kvs : List (κ × V)} {vs : List (κ × Value)} (r : KV kvs vs) (k : κ) {y : V} {u : Value} (ry : RelV y u) : KV (putK kvs k y) (stored vs k u) := by
  unfold putK stored
  rw [r.any k]
  by_cases e : (vs.any fun kv => decide (kv.1 = k)) = true
  · rw [if_pos e, if_pos e]; exact r.repl k ry
  · rw [if_neg e, if_neg e]; exact Paired.snoc r ⟨rfl, ry⟩
theorem KV.length {kvs : List (κ × V)} {vs : List (κ × Value)} (r : KV kvs vs) : kvs.length = vs.length := Paired.length r
end
theorem kV_is {P : Program} {w : World} {k : Key} {u : Value} (r : RelV (kV k) u) : (mixKind P w).is k u = true := by
  cases k with
  | inl i => obtain ⟨t, e⟩ := (show ∃ t, u = Value.int i t from r); subst e; exact mixKind_int P w i t
  | inr x => obtain ⟨t, e⟩ := (show ∃ t, u = Value.str x t from r); subst e; exact mixKind_str P w x t
theorem items_are {P : Program} {w : World} : ∀ {ks : List Key} {us : List Value}, Vals (ks.map kV) us → ItemsAre (mixKind P w) ks us
  | [], _, r => by rw [List.map_nil] at r; cases r; exact .nil
  | k :: ks, _, r => by
    rw [List.map_cons] at r
    cases r with
    | cons h t => exact .cons (kV_is h) (items_are t)
/-- raw entries of a dict with tuple keys -/
abbrev KT (H : Hp) : List (List Key × V) → List (List Key × Addr × Value) → Prop := Paired fun p q => p.1 = q.1 ∧ H q.2.1 = some (.tup (p.1.map kV)) ∧ RelV p.2 q.2.2
theorem KT.val {H : Hp} {kvs : List (List Key × V)} {xs : List (List Key × Addr × Value)} (r : KT H kvs xs) (k : List Key) : RelO (valV kvs k) ((atKey xs k).map (·.2)) := by
  induction r with
  | nil => exact True.intro
  | @cons p q ps qs h t ih =>
    obtain ⟨h1, _, h2⟩ := h
    by_cases e : p.1 = k
    · have e' : q.1 = k := h1.symm.trans e
      have b : atKey (q :: qs) k = some q.2 := by simp [atKey, List.find?_cons, e']
      rw [valV_pos e, b]; exact h2
    · have e' : ¬ q.1 = k := fun z => e (h1.trans z)
      have b : atKey (q :: qs) k = atKey qs k := by simp [atKey, List.find?_cons, e']
      rw [valV_neg e, b]; exact ih
theorem KT.repl {H : Hp} {kvs : List (List Key × V)} {xs : List (List Key × Addr × Value)} (r : KT H kvs xs) (k : List Key) {y : V} {u : Value} (ry : RelV y u) :
    KT H (kvs.map fun kv => if kv.1 = k then (kv.1, y) else kv) (xs.map (putAt k u)) := by
  induction r with
  | nil => exact .nil
  | @cons p q ps qs h t ih =>
    rw [List.map_cons, List.map_cons]
    refine .cons ?_ ih
    obtain ⟨h1, h2, h3⟩ := h
    unfold putAt
    by_cases e : p.1 = k
    · rw [if_pos e, if_pos (h1.symm.trans e)]; exact ⟨h1, h2, ry⟩
    · rw [if_neg e, if_neg (fun z => e (h1.trans z))]; exact ⟨h1, h2, h3⟩
theorem KT.put {H : Hp} {kvs : List (List Key × V)} {xs : List (List Key × Addr × Value)} (r : KT H kvs xs) (k : List Key) {b : Addr} {y : V} {u : Value} (hb : H b = some (.tup (k.map kV))) (ry : RelV y u) :
    KT H (putK kvs k y) (storedH xs k b u) := by
  have e : (kvs.any fun kv => decide (kv.1 = k)) = (atKey xs k).isSome := by
    rw [valV_any, (r.val k).isSome_eq, Option.isSome_map]
  unfold putK storedH
  rw [e]
  by_cases q : (atKey xs k).isSome = true
  · rw [if_pos q, if_pos q]; exact r.repl k ry
  · rw [if_neg q, if_neg q]; exact Paired.snoc r ⟨rfl, hb, ry⟩
theorem KT.keeps {H H' : Hp} {kvs : List (List Key × V)} {xs : List (List Key × Addr × Value)} (r : KT H kvs xs) (ht : ∀ b ys, H b = some (.tup ys) → H' b = some (.tup ys)) : KT H' kvs xs :=
  Paired.mapP r fun _ _ z => ⟨z.1, ht _ _ z.2.1, z.2.2⟩
section
variable {P : Program} {w : World} {H : Hp} {h : Heap} {a : Addr}
theorem rd_of {u : HO} (ok : HOk P w H h) (e : Rd H a u) : ObjOk P w H h a u := e.ok ok
theorem dk_rd {kvs : List (Key × V)} (ok : HOk P w H h) (e : Rd H a (.dK kvs)) : kvs.length ≤ sizeLine ∧ (a == sysModules) = false ∧ ∃ vs, KV kvs vs ∧ h.DictOf (mixKind P w) a vs :=
  show ObjOk P w H h a (.dK kvs) from rd_of ok e
theorem dk_of {kvs : List (Key × V)} (ok : HOk P w H h) (e : H a = some (.dK kvs)) : kvs.length ≤ sizeLine ∧ (a == sysModules) = false ∧ ∃ vs, KV kvs vs ∧ h.DictOf (mixKind P w) a vs := dk_rd ok (.inl e)
/-- a tracked tuple of ints and texts is a key -/
theorem key_of {ks : List Key} (ok : HOk P w H h) (e : H a = some (.tup (ks.map kV))) : (tupleKind (mixKind P w)).is h ks a := by
  obtain ⟨_, its, r, o, h1, h2, n, h3⟩ := (show ObjOk P w H h a (.tup (ks.map kV)) from ok a _ e)
  exact ⟨o, its.toArray, n, h1, h2, h3, by simpa using items_are r⟩
theorem dt_rd {kvs : List (List Key × V)} (ok : HOk P w H h) (e : Rd H a (.dT kvs)) : kvs.length ≤ sizeLine ∧ (a == sysModules) = false ∧
    ∃ xs, KT H kvs xs ∧ h.DictOfH (tupleKind (mixKind P w)) a xs := by
  obtain ⟨z, y, xs, r, o, es, ep, h1, h2, h3, h4, h5⟩ := (show ObjOk P w H h a (.dT kvs) from rd_of ok e)
  refine ⟨z, y, xs, r, o, es, ep, h1, h2, h3, h4, fun x hx => ?_, h5⟩
  have all : ∀ {l : List (List Key × V)} {m : List (List Key × Addr × Value)}, KT H l m → ∀ x ∈ m, (tupleKind (mixKind P w)).is h x.1 x.2.1 := by
    intro l m q
    induction q with
    | nil => intro x hx; exact nomatch hx
    | @cons p q ps qs hq t ih =>
      intro x hx
      rcases List.mem_cons.mp hx with e | hx
      · subst e
        exact key_of ok (by rw [← hq.1]; exact hq.2.1)
      · exact ih x hx
  exact all r x hx
theorem dt_of {kvs : List (List Key × V)} (ok : HOk P w H h) (e : H a = some (.dT kvs)) : kvs.length ≤ sizeLine ∧ (a == sysModules) = false ∧
    ∃ xs, KT H kvs xs ∧ h.DictOfH (tupleKind (mixKind P w)) a xs := dt_rd ok (.inl e)
end
/-- what the dict at a holds at the key y -/
def DGet (H : Hp) (a : Addr) (y : V) (r : Option V) : Prop :=
  (∃ kvs k, Rd H a (.dK kvs) ∧ y = kV k ∧ r = valV kvs k) ∨ ∃ kvs k b, Rd H a (.dT kvs) ∧ y = .ref b ∧ H b = some (.tup (k.map kV)) ∧ r = valV kvs k
/-- the heap behind a[y] = v -/
def DPut (H : Hp) (a : Addr) (y v : V) (H' : Hp) : Prop :=
  (∃ kvs k, H a = some (.dK kvs) ∧ y = kV k ∧ kvs.length < sizeLine ∧ H' = upd H a (.dK (putK kvs k v))) ∨
  ∃ kvs k b, H a = some (.dT kvs) ∧ y = .ref b ∧ H b = some (.tup (k.map kV)) ∧ kvs.length < sizeLine ∧ H' = upd H a (.dT (putK kvs k v))
theorem DGet.k {H : Hp} {a : Addr} {kvs : List (Key × V)} {k : Key} (e : H a = some (.dK kvs)) : DGet H a (kV k) (valV kvs k) := .inl ⟨kvs, k, .inl e, rfl, rfl⟩
theorem DPut.k {H : Hp} {a : Addr} {kvs : List (Key × V)} {k : Key} {v : V} (e : H a = some (.dK kvs)) (hl : kvs.length < sizeLine) : DPut H a (kV k) v (upd H a (.dK (putK kvs k v))) := .inl ⟨kvs, k, e, rfl, hl, rfl⟩
section
variable {X : Cx} {pins : List (Addr × Obj)} {σ : St} {H : Hp} {s : Shared} {a : Addr} {y v : V} {u r : Value} {o : Option V} {A : Around} {E : Value → Shared → Prop}
theorem Inv.big (I : Inv X pins σ H s) : sysModules < s.heap.objs.size := by
  have h : mainGlobals < s.heap.objs.size := (I.mod.glob.keeps I.bk).lt
  exact Nat.lt_trans (by decide) h
/-- d[y], there -/
theorem d_getItem {Q : Value → Shared → Prop} (hu : A.units + 1 < cLine) (I : Inv X pins σ H s) (g : DGet H a y (some v)) (ry : RelV y u) (h : ∀ w' s', Inv X pins σ H s' → RelV v w' → Q w' s') :
    wpAny (model X.prog X.w) A (getItem (.ref a) u) Q E s := by
  rcases g with ⟨kvs, k, e, ey, l⟩ | ⟨kvs, k, b, e, ey, eb, l⟩
  · subst ey
    obtain ⟨z, hd, vs, rel, dd⟩ := dk_rd I.hok e
    obtain ⟨w', hw, rw'⟩ := RelO.some_of (v := v) (o := valueAt vs k) (by rw [l]; exact rel.val k)
    exact wpAny_getItem_of (kV_is ry) dd.mapOf hw (h w' _ (I.tok _) rw')
  · subst ey
    cases (show u = Value.ref b from ry)
    obtain ⟨z, hd, xs, rel, dd⟩ := dt_rd I.hok e
    obtain ⟨w', hw, rw'⟩ := RelO.some_of (v := v) (o := (atKey xs k).map (·.2)) (by rw [l]; exact rel.val k)
    obtain ⟨p, hp, hp2⟩ := Option.map_eq_some_iff.mp hw
    refine wpAny_getItem_heap (tupleKind_room_in1 hu) (key_of I.hok eb) dd hp ?_
    rw [hp2]
    exact h w' _ (I.tok _) rw'
theorem d_notIn {Q : Value → Shared → Prop} (hu : A.units + 1 < cLine) (I : Inv X pins σ H s) (g : DGet H a y o) (ry : RelV y u) (h : ∀ s', Inv X pins σ H s' → Q (.bool (!o.isSome)) s') :
    wpAny (model X.prog X.w) A (compareOp .NotIn u (.ref a)) Q E s := by
  rcases g with ⟨kvs, k, e, ey, l⟩ | ⟨kvs, k, b, e, ey, eb, l⟩
  · subst ey
    obtain ⟨z, hd, vs, rel, dd⟩ := dk_rd I.hok e
    refine wpAny_notIn_of (kV_is ry) hd dd.mapOf ?_
    rw [← (rel.val k).isSome_eq, ← l]
    exact h _ (I.tok _)
  · subst ey
    cases (show u = Value.ref b from ry)
    obtain ⟨z, hd, xs, rel, dd⟩ := dt_rd I.hok e
    refine wpAny_notIn_heap (tupleKind_room_in1 hu) (key_of I.hok eb) hd dd ?_
    have q := (rel.val k).isSome_eq
    rw [Option.isSome_map] at q
    rw [← q, ← l]
    exact h _ (I.tok _)
/-- a dict's object is replaced -/
theorem d_write {h' : Heap} {t' : Nat} {ob : HO} (I : Inv X pins σ H s) (mu : Mut (H a)) (hs : Heap.SameBut a s.heap h') (he : ∃ q, h'.get? a = some q) (new : ObjOk X.prog X.w (upd H a ob) h' a ob) :
    Inv X pins σ (upd H a ob) { s with heap := h', toks := t' } :=
  I.write (x := a) (e := a) mu (.inl rfl) (fun b q hb z => (hs.2 b hb).trans z) he new
theorem dk_new {P : Program} {w : World} {H' : Hp} {h' : Heap} {kvs : List (Key × V)} {vs : List (Key × Value)} (z : kvs.length ≤ sizeLine) (hd : (a == sysModules) = false) (rel : KV kvs vs) (dd : h'.DictOf (mixKind P w) a vs) :
    ObjOk P w H' h' a (.dK kvs) := ⟨z, hd, vs, rel, dd⟩
/-- d[y] = v -/
theorem d_setItem {H' : Hp} {Q : Unit → Shared → Prop} (hu : A.units + 1 < cLine) (I : Inv X pins σ H s) (g : DPut H a y v H') (ry : RelV y u) (rv : RelV v r) (h : ∀ s', Inv X pins σ H' s' → Q () s') :
    wpAny (model X.prog X.w) A (setItem (.ref a) u r) Q E s := by
  rcases g with ⟨kvs, k, e, ey, l, eH⟩ | ⟨kvs, k, b, e, ey, eb, l, eH⟩
  · subst ey eH
    obtain ⟨z, hd, vs, rel, dd⟩ := dk_of I.hok e
    have hz : vs.length ≤ sizeLine := by rw [← rel.length]; exact z
    have hl : (putK kvs k v).length ≤ sizeLine := by have := length_putK kvs k v; omega
    refine wpAny_setItem_pairs (hsz := hz) (kV_is ry) dd fun h' dd' hs => h _ ?_
    have he : ∃ q, h'.get? a = some q := let ⟨q, _, _, hq, _⟩ := dd'; ⟨q, hq⟩
    exact d_write I (by rw [e]; exact True.intro) hs he (dk_new hl hd (rel.put k rv) dd')
  · subst ey eH
    cases (show u = Value.ref b from ry)
    obtain ⟨z, hd, xs, rel, dd⟩ := dt_of I.hok e
    have hz : xs.length ≤ sizeLine := by rw [← Paired.length rel]; exact z
    have hl : (putK kvs k v).length ≤ sizeLine := by have := length_putK kvs k v; omega
    refine wpAny_setItem_heap (hsz := hz) (tupleKind_room_in1 hu) (key_of I.hok eb) dd fun h' dd' hs => h _ ?_
    obtain ⟨q, es, ep, hq, h2, h3, h4, _, h5⟩ := dd'
    refine d_write I (by rw [e]; exact True.intro) hs ⟨q, hq⟩ ⟨hl, hd, _, (rel.put k eb rv).keeps fun c ys ec => ?_, q, es, ep, hq, h2, h3, h4, h5⟩
    rw [upd_ne (ne_of ec e (fun z => nomatch z))]
    exact ec
end
section
variable {X : Cx} {pins : List (Addr × Obj)} {σ : St} {H : Hp} {s : Shared} {a : Addr} {kvs : List (Key × V)} {k : Key} {u : Value} {A : Around} {E : Value → Shared → Prop}
end
/-- the element of a subscription, not a slice -/
def NoSl (i : Expr) : Prop := ∀ ov iv, subscripted i false ov iv = operate [ov, iv] (getItem ov iv)
theorem subD_of {prog : Program} {w : World} {A : Around} {E : Value → Shared → Prop} {s : Shared} {env : Env} {value slice : Expr} {pos : Pos} {T id : String} {Q : Value → Shared → Prop}
    (hl : typeLookup (.type T) "__getitem__" = pure (some (.builtin id))) (hs : NoSl slice)
    (h : wpAny (model prog w) A (eval value env) (fun o s₁ => wpAny (model prog w) A (eval slice env) (fun i s₂ => s₂.TypeIs o T ∧ wpAny (model prog w) A (getItem o i) Q E s₂) E s₁) E s) :
    wpAny (model prog w) A (eval (.Subscript value slice pos) env) Q E s := by
  refine Subscript_ (wpAny_mono h (fun o s₁ h₁ => wpAny_mono h₁ (fun i s₂ h₂ => ?_) fun _ _ x => x) fun _ _ x => x)
  obtain ⟨hT, h₂⟩ := h₂
  unfold subscriptTail
  refine wpAny_bind ?_
  rw [getitemInPython_of_ne hT.not_modules]
  refine wpAny_bind (wpAny_specialOf hT hl ?_)
  have fin : wpAny (model prog w) A (subscripted slice false o i) (fun r s₃ => wpAny (model prog w) A (letTemporaryGo value o r >>= fun _ => pure r) Q E s₃) E s₂ := by
    rw [hs o i]
    exact wpAny_operating (wpAny_mono h₂ (fun r s₃ h₃ => wpAny_bind (wpAny_letTemporaryGo (wpAny_pure h₃))) fun _ _ x => x)
  first
    | exact wpAny_pure (wpAny_bind fin)
    | exact wpAny_bind (wpAny_pure (wpAny_bind fin))
    | exact wpAny_bind fin
theorem dict_typeIs {X : Cx} {pins : List (Addr × Obj)} {σ : St} {H : Hp} {s : Shared} {a : Addr} {y : V} {o : Option V} (I : Inv X pins σ H s) (g : DGet H a y o) : s.TypeIs (.ref a) "dict" := by
  rcases g with ⟨kvs, k, e, _, _⟩ | ⟨kvs, k, b, e, _, _, _⟩
  · obtain ⟨_, _, vs, _, dd⟩ := dk_rd I.hok e
    exact dd.typeIs
  · obtain ⟨_, _, xs, _, dd⟩ := dt_rd I.hok e
    exact dd.typeIs
/-- d[y] -/
def tDGet (td ty : TE) : TE := fun σ H Q => td σ H fun x H1 => ty σ H1 fun y H2 => ∃ a v, x = .ref a ∧ DGet H2 a y (some v) ∧ Q v H2
/-- y in d, y not in d -/
def tDIn (ty td : TE) : TE := fun σ H Q => ty σ H fun y H1 => td σ H1 fun x H2 => ∃ a o, x = .ref a ∧ DGet H2 a y o ∧ Q (.bl o.isSome) H2
def tDNotIn (ty td : TE) : TE := fun σ H Q => ty σ H fun y H1 => td σ H1 fun x H2 => ∃ a o, x = .ref a ∧ DGet H2 a y o ∧ Q (.bl (!o.isSome)) H2
/-- d[y] = v -/
def sDPut (td ty tv : TE) : TS := fun D σ H => tv σ H fun v H1 => td σ H1 fun x H2 => ty σ H2 fun y H3 => ∃ a H4, x = .ref a ∧ DPut H3 a y v H4 ∧ D.nx σ H4
/-- d[y] op= v -/
def sDAug (td ty tv : TE) (rd : V → V → Hp → VK → Prop) : TS := fun D σ H => td σ H fun x H1 => ty σ H1 fun y H2 => ∃ a v, x = .ref a ∧ DGet H2 a y (some v) ∧
  tv σ H2 fun y2 H3 => rd v y2 H3 fun z H4 => ∃ H5, DPut H4 a y z H5 ∧ D.nx σ H5
/-- del d[y] -/
def sDDel (td ty : TE) : TS := fun D σ H => td σ H fun x H1 => ty σ H1 fun y H2 => ∃ a kvs k, x = .ref a ∧ H2 a = some (.dK kvs) ∧ y = kV k ∧ (valV kvs k).isSome = true ∧ D.nx σ (upd H2 a (.dK (dropK kvs k)))
section
variable {X : Cx} {o i e value : Expr} {pos pos' tpos : Pos} {td ty tv : TE}
theorem pe_dget (hu : X.A.units + 1 < cLine) (ho : PE X o td) (hi : PE X i ty) (hs : NoSl i) : PE X (.Subscript o i pos) (tDGet td ty) := by
  intro pins s σ H Q I h
  refine subD_of PySem.F.slot_dict_getitem.lookup hs (thn (ho pins s σ H _ I h) fun u s1 ⟨x, H1, I1, rx, q1⟩ => thn (hi pins s1 σ H1 _ I1 q1) fun iv s2 ⟨y, H2, I2, ry, a, v, ex, g, q2⟩ => ?_)
  subst ex
  obtain rfl : u = Value.ref a := rx
  exact ⟨dict_typeIs I2 g, d_getItem hu I2 g ry fun w' s3 I3 rw' => ⟨v, H2, I3, rw', q2⟩⟩
theorem ps_dput (hu : X.A.units + 1 < cLine) (ho : PE X o td) (hi : PE X i ty) (hv : PE X value tv) (hs : swapsWith value (some (.Subscript o i pos')) pos.line X.env = pure false) :
    PS X (.Assign [.Subscript o i pos'] value pos) (sDPut td ty tv) := by
  intro pins s σ H D I h
  refine wpAny_Assign_Subscript (thn (hv pins s σ H _ I h) fun r s1 ⟨v, H1, I1, rv, q1⟩ => thn (ho pins s1 σ H1 _ I1 q1) fun u s2 ⟨x, H2, I2, rx, q2⟩ => thn (hi pins s2 σ H2 _ I2 q2) fun iv s3 ⟨y, H3, I3, ry, a, H4, ex, g, q3⟩ => ?_) hs
  subst ex
  obtain rfl : u = Value.ref a := rx
  exact d_setItem hu I3 g ry rv fun s4 I4 => ⟨σ, H4, I4, q3⟩
end
theorem dk_empty {P : Program} {w : World} {H : Hp} (h : Heap) (hb : sysModules < h.objs.size) : ObjOk P w H (h.push { cls := .type "dict", data := .dict #[] }) h.objs.size (.dK []) :=
  ⟨Nat.zero_le _, beq_eq_false_iff_ne.mpr (Ne.symm (Nat.ne_of_lt hb)), [], .nil, Heap.DictOf.new h⟩
/-- {}, to be a dict of the kind that is wanted -/
def tDNewK : TE := fun _ H Q => ∀ p, H p = none → Q (.ref p) (upd H p (.dK []))
def tDNewT : TE := fun _ H Q => ∀ p, H p = none → Q (.ref p) (upd H p (.dT []))
section
variable {X : Cx} {pos : Pos}
theorem pe_dnewK : PE X (.Dict [] [] pos) tDNewK := fun pins s σ H Q I h =>
  wpAny_Dict_empty ⟨.ref s.heap.objs.size, _, I.laid (a := s.heap.objs.size) (o := .dK []) (t' := s.toks) (fun _ _ q => Heap.get?_push_of_some _ q) (Nat.le_refl _) (dk_empty s.heap I.big), rfl, h _ (I.hok.fresh (Nat.le_refl _))⟩
end
/-- the pairs of a display, from the left -/
def tPairs : List (TE × TE) → St → Hp → (List (V × V) → Hp → Prop) → Prop
  | [], _, H, Q => Q [] H
  | (tk, tv) :: r, σ, H, Q => tk σ H fun x H1 => tv σ H1 fun y H2 => tPairs r σ H2 fun ps H3 => Q ((x, y) :: ps) H3
abbrev VV : List (V × V) → List (Value × Value) → Prop := Paired fun p q => RelV p.1 q.1 ∧ RelV p.2 q.2
def PPs (X : Cx) (pos : Pos) (keys : List (Option Expr)) (values : List Expr) (trs : List (TE × TE)) : Prop :=
  ∀ (pins : List (Addr × Obj)) (s : Shared) (σ : St) (H : Hp) (Q : List (V × V) → Hp → Prop), Inv X pins σ H s → tPairs trs σ H Q →
    wpAny (model X.prog X.w) X.A (evalPairs (pairTrees keys values X.env pos)) (fun vs s' => ∃ ps H', Inv X pins σ H' s' ∧ VV ps vs ∧ Q ps H') X.xe s
def mergeK (kvs more : List (Key × V)) : List (Key × V) := more.foldl (fun acc kv => putK acc kv.1 kv.2) kvs
/-- {k: v, ..} with keys ints and texts; the new dict stands empty while the pairs are made -/
def tDisp (trs : List (TE × TE)) : TE := fun σ H Q => ∀ p, H p = none → tPairs trs σ (upd H p (.dK [])) fun ps H2 => H2 p = some (.dK []) ∧ ∃ kvs : List (Key × V), ps = kvs.map (fun kv => (kV kv.1, kv.2)) ∧ kvs.length ≤ 15 ∧ Q (.ref p) (upd H2 p (.dK (mergeK [] kvs)))
/-- a method call o.m(e) of a built-in, with one argument: what must be seen of the text -/
structure M1 (X : Cx) (o : Expr) (m : Str) (apos : Pos) (e : Expr) (cpos : Pos) : Prop where
  base : attributeBase o m X.env (eval o X.env) = eval o X.env
  few : ((backTo cpos (starEach [e] X.env)).all (fun x => !x.1) && (backToKw cpos (keywordEach [] X.env)).all (fun x => x.1.isSome)
    && decide (([e] : List Expr).length + ([] : List Keyword).length + (if ([] : List Keyword).isEmpty then 0 else 1) < 30)) = true
  line : (apos.endLine == cpos.line) = true
  trees : backTo cpos (starEach [e] X.env) = [(false, eval e X.env)]
structure M2 (X : Cx) (o : Expr) (m : Str) (apos : Pos) (e f : Expr) (cpos : Pos) : Prop where
  base : attributeBase o m X.env (eval o X.env) = eval o X.env
  few : ((backTo cpos (starEach [e, f] X.env)).all (fun x => !x.1) && (backToKw cpos (keywordEach [] X.env)).all (fun x => x.1.isSome)
    && decide (([e, f] : List Expr).length + ([] : List Keyword).length + (if ([] : List Keyword).isEmpty then 0 else 1) < 30)) = true
  line : (apos.endLine == cpos.line) = true
  trees : backTo cpos (starEach [e, f] X.env) = [(false, eval e X.env), (false, eval f X.env)]
/-- a is a dict, whatever its keys -/
def IsD (H : Hp) (a : Addr) : Prop := (∃ kvs, Rd H a (.dK kvs)) ∨ ∃ kvs, Rd H a (.dT kvs)
section
variable {X : Cx} {pins : List (Addr × Obj)} {σ : St} {H : Hp} {s : Shared} {a : Addr} {y d : V} {u r : Value} {o : Option V} {A : Around} {E : Value → Shared → Prop}
end
def tDGet1 (td ty : TE) : TE := fun σ H Q => td σ H fun x H1 => ∃ a, x = .ref a ∧ IsD H1 a ∧ ty σ H1 fun y H2 => ∃ o, DGet H2 a y o ∧ Q (o.getD .non) H2
def tDGet2 (td ty tx : TE) : TE := fun σ H Q => td σ H fun x H1 => ∃ a, x = .ref a ∧ IsD H1 a ∧ ty σ H1 fun y H2 => tx σ H2 fun z H3 => ∃ o, DGet H3 a y o ∧ Q (o.getD z) H3
/-- d.pop(k): there; d.pop(k, x): there or not -/
def tDPop1 (td ty : TE) : TE := fun σ H Q => td σ H fun x H1 => ∃ a, x = .ref a ∧ IsD H1 a ∧ ty σ H1 fun y H2 => ∃ kvs k v, H2 a = some (.dK kvs) ∧ y = kV k ∧ valV kvs k = some v ∧ Q v (upd H2 a (.dK (dropK kvs k)))
def tDPop2 (td ty tx : TE) : TE := fun σ H Q => td σ H fun x H1 => ∃ a, x = .ref a ∧ IsD H1 a ∧ ty σ H1 fun y H2 => tx σ H2 fun z H3 => ∃ kvs k, H3 a = some (.dK kvs) ∧ y = kV k ∧
  (∀ v, valV kvs k = some v → Q v (upd H3 a (.dK (dropK kvs k)))) ∧ (valV kvs k = none → Q z H3)
section
variable {X : Cx} {o e f : Expr} {apos cpos : Pos} {td ty tx : TE}
end
section
variable {X : Cx} {pins : List (Addr × Obj)} {σ : St} {H : Hp} {s : Shared} {a : Addr} {kvs : List (Key × V)} {A : Around} {E : Value → Shared → Prop}
end
section
variable {X : Cx} {pins : List (Addr × Obj)} {σ : St} {H : Hp} {s : Shared} {a : Addr} {y : V} {u : Value} {A : Around} {E : Value → Shared → Prop}
end
end L2
namespace L2
open PySem PySem.Spec PySem.W PyProof.Rows
/-- the tree's answer where every question is answered by lt -/
def runT {α : Type} (lt : Nat → Nat → Bool) : KasT α → α
  | .ret a => a
  | .ask i j k => runT lt (k (lt i j))
/-- an order of the places below N, no two alike -/
structure Lo (N : Nat) (lt : Nat → Nat → Bool) : Prop where
  tri : ∀ i j, i < N → j < N → i ≠ j → lt i j = false → lt j i = true
  tr : ∀ i j k, i < N → j < N → k < N → lt i j = true → lt j k = true → lt i k = true
  asym : ∀ i j, i < N → j < N → lt i j = true → lt j i = false
abbrev gp (p : Array Nat) (i : Nat) : Nat := p.getD i 0
def As (lt : Nat → Nat → Bool) (p : Array Nat) (k : Nat) : Prop := ∀ i j, i < j → j < k → lt (gp p i) (gp p j) = true
section
variable {N : Nat} {lt : Nat → Nat → Bool} (L : Lo N lt)
include L
end
end L2
namespace L2
open PySem PySem.Spec PySem.W PyProof.Rows
/-- the places in the order in which sorted tells them -/
def sortI (lt : Nat → Nat → Bool) (n : Nat) : List Nat := if n < 2 then List.range n else (runT lt (kas_sort n)).toList
def sortP (ps : List (Str × Int)) : List (Str × Int) := (sortI (fun i j => pairLt (ps.getD i ("", 0)) (ps.getD j ("", 0))) ps.length).map fun i => ps.getD i ("", 0)
section
variable {prog : Program} {w : World} {A : Around} {E : Value → Shared → Prop} {s : Shared}
end
section
variable {X : Cx} {pins : List (Addr × Obj)} {σ : L2.St} {H : Hp} {s : Shared}
end
end L2
namespace L2
open PySem PySem.Spec PyProof.Rows
/-- a list's own iterator feeds too -/
theorem feed_list {i l : Addr} (hil : l ≠ i) (xs : Array Value) : Feed i l (fun k h => h.IsListIter i l k ∧ h.IsList l xs) (fun k => xs[k]?) where
  obj := fun k h p => by
    obtain ⟨⟨o, e, _, d⟩, _⟩ := p
    exact ⟨o, e, fun v z => by rw [d] at z; cases z⟩
  keep := fun k h g p q => ⟨p.1.at fun o e => q i o (.inl rfl) e, by
    obtain ⟨o, e, r⟩ := p.2
    exact ⟨o, q l o (.inr rfl) e, r⟩⟩
  item := fun p hx hQ => wpAny_nextOf_list_item p.1 p.2 hx fun g h1 h2 => hQ g ⟨h1, p.2.extBut h2.extBut hil⟩ h2
  stop := fun hh p hx hE => wpAny_nextOf_list_end hh p.1 p.2 hx hE
abbrev yA (h : Heap) (l : Addr) : Heap := h.push { cls := .type "tuple_iterator", data := .fields #[.ref l, .int 0 0] }
abbrev yB (h : Heap) (l m : Addr) : Heap := (yA h l).push { cls := .type "list_iterator", data := .fields #[.ref m, .int 0 0] }
abbrev yC (h : Heap) (l m : Addr) : Heap := (yB h l m).push { cls := .type "tuple", data := .seq #[.ref h.objs.size, .ref (yA h l).objs.size] }
abbrev yD (h : Heap) (l m : Addr) : Heap := (yC h l m).push { cls := .type "tuple", data := .seq #[.none, .none] }
abbrev yE (h : Heap) (l m : Addr) : Heap := (yD h l m).push { cls := .type "zip", data := .fields #[.none, .bool false, .bool false, .ref (yB h l m).objs.size, .ref (yC h l m).objs.size] }
theorem meets_zipM (l m : Addr) (xs ys : Array Value) :
    Meets (Builtin.«zip.__new__» ⟨[.type "zip", .ref l, .ref m], []⟩) (fun _ R s => s.heap.IsTuple l xs ∧ s.heap.IsList m ys ∧ R (.ok (.ret (.ref (yD s.heap l m).objs.size))) { s with heap := yE s.heap l m }) :=
  .of_wp fun prog w A R s h => by
    obtain ⟨hp, g, d, tk, os⟩ := s; obtain ⟨t1, t2, h⟩ := h
    have hsub := sub_zip
    have T1 : Heap.IsTuple (Shared.heap ⟨hp, g, d, tk, os⟩) l xs := t1
    have T2 : Heap.IsList (Shared.heap ⟨hp.push { cls := .type "tuple_iterator", data := .fields #[.ref l, .int 0 0] }, g, d, tk, os⟩) m ys := Heap.IsList.push t2 _
    wp_walk using wpAny_pyIter_tuple T1, wpAny_pyIter_list T2
    exact ⟨_, rfl, h⟩
theorem call_zipM {prog : Program} {w : World} {A : Around} {E : Value → Shared → Prop} {s : Shared} {l m : Addr} {xs ys : Array Value} {Q : Value → Shared → Prop} (t1 : s.heap.IsTuple l xs) (t2 : s.heap.IsList m ys)
    (h : ∀ g, IsZip g (s.heap.objs.size + 4) (s.heap.objs.size + 2) (s.heap.objs.size + 3) .none → IsPair g (s.heap.objs.size + 2) (.ref s.heap.objs.size) (.ref (s.heap.objs.size + 1)) →
      IsPair g (s.heap.objs.size + 3) .none .none → g.IsTupleIter s.heap.objs.size l 0 → g.IsListIter (s.heap.objs.size + 1) m 0 → (∀ c o, s.heap.get? c = some o → g.get? c = some o) → Q (.ref (s.heap.objs.size + 4)) { s with heap := g }) :
    wpAny (model prog w) A (call (.type "zip") [.ref l, .ref m]) Q E s := by
  refine callType_new PySem.F.called_zip (by decide) (PySem.F.typeCall_zip_2 _ _) (PySem.F.newCall_zip_2 _ _) (fun obj => PySem.F.args_object_init_3 obj _ _) PySem.F.entry_zip_new (meets_zipM l m xs ys) ⟨t1, t2, ?_⟩
  have n1 : (yA s.heap l).objs.size = s.heap.objs.size + 1 := Heap.size_push ..
  have n2 : (yB s.heap l m).objs.size = s.heap.objs.size + 2 := by rw [Heap.size_push, n1]
  have n3 : (yC s.heap l m).objs.size = s.heap.objs.size + 3 := by rw [Heap.size_push, n2]
  have n4 : (yD s.heap l m).objs.size = s.heap.objs.size + 4 := by rw [Heap.size_push, n3]
  have w5 : (yE s.heap l m).get? (yD s.heap l m).objs.size = some _ := Heap.get?_push_size _ rfl
  have w4 : (yE s.heap l m).get? (yC s.heap l m).objs.size = some _ := Heap.get?_push_of_some _ (Heap.get?_push_size _ rfl)
  have w3 : (yE s.heap l m).get? (yB s.heap l m).objs.size = some _ := Heap.get?_push_of_some _ (Heap.get?_push_of_some _ (Heap.get?_push_size _ rfl))
  have w2 : (yE s.heap l m).get? (yA s.heap l).objs.size = some _ := Heap.get?_push_of_some _ (Heap.get?_push_of_some _ (Heap.get?_push_of_some _ (Heap.get?_push_size _ rfl)))
  have w1 : (yE s.heap l m).get? s.heap.objs.size = some _ := Heap.get?_push_of_some _ (Heap.get?_push_of_some _ (Heap.get?_push_of_some _ (Heap.get?_push_of_some _ (Heap.get?_push_size _ rfl))))
  show _ ∧ _
  rw [n2, n3, n4] at w5
  rw [n1, n2] at w3
  rw [n3] at w4
  rw [n1] at w2
  rw [n4]
  exact ⟨⟨_, w5, rfl⟩, h _ w5 w3 w4 ⟨_, w1, rfl, rfl⟩ ⟨_, w2, rfl, rfl⟩ fun c o q =>
    Heap.get?_push_of_some _ (Heap.get?_push_of_some _ (Heap.get?_push_of_some _ (Heap.get?_push_of_some _ (Heap.get?_push_of_some _ q))))⟩
/-- the pairs of the tuples at a and b -/
def ItzM (K : PySem.W.Frag) (a b : Addr) : It :=
  ⟨fun i H => ∃ xs ys x y, SqT K H a xs ∧ SqL K H b ys ∧ xs[i]? = some x ∧ ys[i]? = some y,
   fun i H v H' => ∃ p, v = .ref p ∧ H p = none ∧ ∀ xs ys x y, SqT K H a xs → SqL K H b ys → xs[i]? = some x → ys[i]? = some y → H' = upd H p (.tup [x, y]),
   fun i H => ∃ xs ys, SqT K H a xs ∧ SqL K H b ys ∧ (xs.length ≤ i ∨ ys.length ≤ i)⟩
theorem turn_zipM {P : Program} {w : World} {K : PySem.W.Frag} {elts : List Expr} {kk : Nat} {pos : Pos} (a b z TI TO i1 i2 : Addr) (D : ZipApart z TI TO i1 i2 a b) :
    Turn P w K (.Tuple elts kk pos) (ItzM K a b) [z, TI, TO, i1, i2] z (fun i h => IsZip h z TI TO .none ∧ IsPair h TI (.ref i1) (.ref i2) ∧ (∃ x y, IsPair h TO x y) ∧ h.IsTupleIter i1 a i ∧ h.IsListIter i2 b i) where
  mem := by simp
  obj := fun i h st c hc => by
    obtain ⟨hz, hTI, ⟨x, y, hTO⟩, ⟨o1, e1, c1, d1⟩, ⟨o2, e2, c2, d2⟩⟩ := st
    have hc' : c = z ∨ c = TI ∨ c = TO ∨ c = i1 ∨ c = i2 := by simpa using hc
    rcases hc' with rfl | rfl | rfl | rfl | rfl
    · exact ⟨_, hz, fun v q => by have q' : Data.fields _ = Data.cell v := q; cases q'⟩
    · exact ⟨_, hTI, fun v q => by have q' : Data.seq _ _ = Data.cell v := q; cases q'⟩
    · exact ⟨_, hTO, fun v q => by have q' : Data.seq _ _ = Data.cell v := q; cases q'⟩
    · exact ⟨_, e1, fun v q => by rw [d1] at q; cases q⟩
    · exact ⟨_, e2, fun v q => by rw [d2] at q; cases q⟩
  keep := fun i h h' st k => by
    obtain ⟨hz, hTI, ⟨x, y, hTO⟩, h1, h2⟩ := st
    exact ⟨k z (by simp) _ hz, k TI (by simp) _ hTI, ⟨x, y, k TO (by simp) _ hTO⟩, h1.at fun o e => k i1 (by simp) o e, h2.at fun o e => k i2 (by simp) o e⟩
  item := by
    intro X hP hw hK hc i pins s σ H E I hf st hg
    subst hP hw hK
    obtain ⟨xs, ys, x, y, hq1, hq2, hx, hy⟩ := hg
    obtain ⟨its, rv, p1, hz1⟩ := I.tuple hq1
    obtain ⟨its2, rv2, p2, hz2⟩ := I.list hq2
    obtain ⟨u, hu, ru⟩ := rv.get hx
    obtain ⟨v, hv, rvv⟩ := rv2.get hy
    obtain ⟨hz, hTI, ⟨ta, tb, hTO⟩, h1, h2⟩ := st
    refine zipF_item (feed_tuple D.l1i1 its.toArray) (feed_list D.l2i2 its2.toArray) D hz hTI hTO ⟨h1, p1⟩ ⟨h2, p2.isList⟩ (x := u) (y := v) (by simpa using hu) (by simpa using hv) fun h' a1 a2 a3 a4 a5 hk => ?_
    refine ⟨_, rfl, wpAny_letOwnedTupleGo_zip a1 fun h'' hz'' sb => ?_⟩
    have nz : s.heap.objs.size ≠ z := Nat.ne_of_gt (Heap.lt_size hz)
    have hk2 : ∀ c o, c ∉ [z, TI, TO, i1, i2] → s.heap.get? c = some o → h''.get? c = some o := fun c o hc e => by
      simp only [List.mem_cons, List.not_mem_nil, or_false, not_or] at hc
      exact sb.extBut c o hc.1 (hk c o hc.1 hc.2.2.1 hc.2.2.2.1 hc.2.2.2.2 e)
    refine ⟨.ref s.heap.objs.size, upd H s.heap.objs.size (.tup [x, y]), I.turnedLaid (t' := s.toks) hk2 hf (Nat.le_refl _) ⟨two_le, [u, v], .cons ru (.cons rvv .nil), ⟨_, sb.extBut _ _ nz a5, rfl, _, rfl⟩⟩, rfl,
      ⟨_, rfl, I.hok.fresh (Nat.le_refl _), fun xs' ys' x' y' e1 e2 e3 e4 => ?_⟩, ⟨hz'', sb.extBut _ _ D.TIz (hk _ _ D.TIz D.TITO D.TIi1 D.TIi2 hTI), ⟨_, _, sb.extBut _ _ D.TOz a2⟩, a3.1.extBut sb.extBut D.i1z, a4.1.extBut sb.extBut D.i2z⟩, fun c hc => ?_⟩
    · rw [I.tuple_inj e1 hq1, hx] at e3
      rw [I.list_inj e2 hq2, hy] at e4
      cases e3
      cases e4
      rfl
    · obtain ⟨o, e, _⟩ : ∃ o, s.heap.get? c = some o ∧ True := by
        have hc' : c = z ∨ c = TI ∨ c = TO ∨ c = i1 ∨ c = i2 := by simpa using hc
        obtain ⟨o1, e1, _⟩ := h1
        obtain ⟨o2, e2, _⟩ := h2
        rcases hc' with rfl | rfl | rfl | rfl | rfl
        · exact ⟨_, hz, trivial⟩
        · exact ⟨_, hTI, trivial⟩
        · exact ⟨_, hTO, trivial⟩
        · exact ⟨_, e1, trivial⟩
        · exact ⟨_, e2, trivial⟩
      rw [upd_ne (Nat.ne_of_lt (Heap.lt_size e))]
      exact (hf c hc).1
  done := by
    intro X hP hw hK hc i pins s σ H E I hf st hg
    subst hP hw hK
    obtain ⟨xs, ys, hq1, hq2, hend⟩ := hg
    obtain ⟨its, rv, p1, hz1⟩ := I.tuple hq1
    obtain ⟨its2, rv2, p2, hz2⟩ := I.list hq2
    obtain ⟨hz, hTI, ⟨ta, tb, hTO⟩, h1, h2⟩ := st
    have l1 := rv.length
    have l2 := rv2.length
    refine zipF_end (I.ok.hd hc) (feed_tuple D.l1i1 its.toArray) (feed_list D.l2i2 its2.toArray) D hz hTI hTO ⟨h1, p1⟩ ⟨h2, p2.isList⟩ ?_ fun h' hk => ⟨rfl, I.turnedAll (t' := s.toks) (ch := [z, TI, TO, i1, i2]) (fun c o hc e => ?_) hf⟩
    · rcases hend with q | q
      · exact .inl (by simp; omega)
      · exact .inr (by simp; omega)
    · simp only [List.mem_cons, List.not_mem_nil, or_false, not_or] at hc
      exact hk c o hc.1 hc.2.2.1 hc.2.2.2.1 hc.2.2.2.2 e
  self := fun _ _ _ _ _ st h => wpAny_pyIter_zip st.1 h
section
variable {X : Cx} {elts : List Expr} {kk : Nat} {tpos : Pos}
def iZipM (K : PySem.W.Frag) (ta : TA) : TI := fun σ H R => ta σ H fun vs H1 => ∃ a b, vs = [.ref a, .ref b] ∧ (∃ xs, SqT K H1 a xs) ∧ (∃ ys, SqL K H1 b ys) ∧ R (ItzM K a b) H1
theorem pi_zipM {e1 e2 : Expr} {ta : TA} {p pos : Pos} (hg : Gl X "zip") (hm : X.mg "zip" = none) (ha : PA X [e1, e2] ta)
    (hs : starEach [e1, e2] X.env = [(false, eval e1 X.env), (false, eval e2 X.env)] := by rfl) (hs2 : starEach [e2] X.env = [(false, eval e2 X.env)] := by rfl) : PI X (.Tuple elts kk tpos) (.Call (.Name "zip" p) [e1, e2] [] pos) (iZipM X.K ta) := by
  intro pins s σ H R I h
  refine Call_ (ld_blt I hg hm Boot.«zip» (PyProof.Rows.callWith_type1 (thn (ha pos pins s σ H _ I h) fun us s1 ⟨vs, H1, I1, r1, q1⟩ => ?_) (by rw [hs, hs2]) (by rw [hs2]; rfl)))
  obtain ⟨a, b, e, ⟨xs, hx⟩, ⟨ys, hy⟩, q⟩ := q1
  subst e
  cases r1 with
  | cons r rr =>
    cases rr with
    | cons r' rr =>
      cases rr
      cases r
      cases r'
      obtain ⟨its, rv, p1, hz1⟩ := I1.tuple hx
      obtain ⟨its2, rv2, p2, hz2⟩ := I1.list hy
      have l1 : a < s1.heap.objs.size := by obtain ⟨_, e, _⟩ := p1; exact Heap.lt_size e
      have l2 : b < s1.heap.objs.size := by obtain ⟨_, e, _⟩ := p2.isList; exact Heap.lt_size e
      refine call_zipM p1 p2.isList fun h' hz hTI hTO hi1 hi2 hk => ?_
      refine wpAny_pyIter_zip hz ?_
      refine ⟨s1.heap.objs.size + 4, [s1.heap.objs.size + 4, s1.heap.objs.size + 2, s1.heap.objs.size + 3, s1.heap.objs.size, s1.heap.objs.size + 1], _, _, H1, rfl, I1.kept (t' := s1.toks) hk, turn_zipM a b _ _ _ _ _ (zipApart_new l1 l2), ⟨hz, hTI, ⟨_, _, hTO⟩, hi1, hi2⟩, fun c hc => ?_, q⟩
      have hc' : s1.heap.objs.size ≤ c := by
        simp only [List.mem_cons, List.not_mem_nil, or_false] at hc
        rcases hc with e | e | e | e | e <;> rw [e] <;> first | exact Nat.le_refl _ | exact Nat.le_add_right _ _
      exact I1.fpOk hc' (I1.hok.fresh hc')
end
/-- a comprehension over the pairs of a tuple and a list -/
theorem comp_zipM {K : PySem.W.Frag} {a b D : Addr} {xs ys : List V} {g : TG} {tt : TT} {te : TE} {Q : VK} {H : Hp} {σ0 : L2.St} (Pv : Nat → L2.St → List V → Hp → Prop) (p0 : Pv 0 σ0 [] H)
    (hl : ∀ i σ zs H', i ≤ min xs.length ys.length → Pv i σ zs H' → SqT K H' a xs ∧ SqL K H' b ys ∧ H' D = some (.lst zs) ∧ zs.length < sizeLine)
    (hs : ∀ i x y σ zs H' p, xs[i]? = some x → ys[i]? = some y → Pv i σ zs H' → H' p = none → ∀ N : L2.St → List V → Hp → Prop, (∀ σ zs H, Pv (i + 1) σ zs H → N σ zs H) →
      g (.ref p) σ (upd H' p (.tup [x, y])) fun σ4 H4 => tt σ4 H4 fun b H5 => if b = true then te σ4 H5 fun v H6 => H6 D = some (.lst zs) ∧ N σ4 (zs ++ [v]) (upd H6 D (.lst (zs ++ [v]))) else N σ4 zs H5)
    (hd : ∀ σ zs H', Pv (min xs.length ys.length) σ zs H' → Q (.ref D) H') : CompW (ItzM K a b) g tt te σ0 Q D H := by
  refine ⟨fun i m σ zs H => m = min xs.length ys.length - i ∧ i ≤ min xs.length ys.length ∧ Pv i σ zs H, ⟨min xs.length ys.length, by simp, Nat.zero_le _, p0⟩, ?_⟩
  rintro i m σ zs H2 ⟨rfl, hi, p⟩
  obtain ⟨q1, q2, q3, q4⟩ := hl i σ zs H2 hi p
  refine ⟨q3, q4, ?_⟩
  by_cases hlt : i < min xs.length ys.length
  · have h1 : i < xs.length := by omega
    have h2 : i < ys.length := by omega
    refine .inr ⟨⟨xs, ys, xs[i], ys[i], q1, q2, by simp [h1], by simp [h2]⟩, fun v H3 y => ?_⟩
    obtain ⟨t, rfl, ht, y⟩ := y
    have e := y xs ys xs[i] ys[i] q1 q2 (by simp [h1]) (by simp [h2])
    subst e
    exact hs i xs[i] ys[i] σ zs H2 t (by simp [h1]) (by simp [h2]) p ht (fun σ zs H => ∃ m', m' < min xs.length ys.length - i ∧ m' = min xs.length ys.length - (i + 1) ∧ i + 1 ≤ min xs.length ys.length ∧ Pv (i + 1) σ zs H) fun σ zs H z => ⟨_, by omega, rfl, hlt, z⟩
  · have e : i = min xs.length ys.length := by omega
    subst e
    exact .inl ⟨⟨xs, ys, q1, q2, by omega⟩, hd σ zs H2 p⟩
section
variable {X : Cx}
theorem pss_no {b : List Stmt} : PSs X b (fun _ _ _ => False) := fun _ _ _ _ _ _ h => h.elim
theorem pe_no {e : Expr} : PE X e (fun _ _ _ => False) := fun _ _ _ _ _ _ h => h.elim
end
theorem FnOk.no {P : Program} {w : World} {K : PySem.W.Frag} {mg : Str → Option Value} {base : Heap} {CX : CXT} {k : Nat} {f : Addr} {fd : FuncData} {ps : List Str} : FnOk P w K mg base CX k f fd ps (fun _ _ _ _ => False) :=
  ⟨fun _ _ _ _ h => h.elim, fun _ _ _ _ _ _ _ _ _ _ _ _ _ h => h.elim⟩
section
variable {X : Cx}
def rNeDi (K : PySem.W.Frag) : R2 := fun x y H Q => ∃ (a b : Addr) (kvs lvs : List (Key × V)), x = .ref a ∧ y = .ref b ∧ H a = some (.dK kvs) ∧ H b = some (.dK lvs) ∧ kvs.length = lvs.length ∧
  (∀ kv ∈ kvs, ∃ v d, valV lvs kv.1 = some v ∧ DatAt K H kv.2 d ∧ DatAt K H v d ∧ d.hgt ≤ 30) ∧ Q (.bl false) H
end
end L2
namespace L2
open PySem PySem.Spec PySem.W PyProof.Rows
section
variable {X : Cx} {CX : CXT} {k : Nat} {f C : Addr} {fd : FuncData} {ps : List Str} {sp : Sp} {dvs : List V} {ds : List Value} {E : XK} {x m : Str} {p pos apos : Pos} {e o : Expr} {es : List Expr} {ta : TE} {t : TA}
/-- what a def of a class is found by -/
structure ClsM (K : Frag) (C : Addr) (m : Str) (f : Addr) : Prop where
  ga : specialIn K (.ref C) "__getattribute__" = some (some (.builtin "type.__getattribute__"))
  rd : readsIn K C (.type "type") = true
  at_ : findCls K (.ref C) (.type "type") m = some (.val (.ref f))
  kp : keepIn K (.ref f) = true
/-- o.m(e, ..) of an instance of C or of C2 -/
def tMeth2 (C C2 : Addr) (m : Str) (sp sp2 : Sp) (E E2 : XK) (ta : TE) (t : TA) : TE := fun σ H Q => ta σ H fun x H1 => ∃ a dx fs, x = .ref a ∧ fs.lookup m = none ∧
  ((H1 a = some (.ins C dx fs) ∧ t σ H1 fun vs H2 => sp (x :: (vs ++ [])) H2 Q E) ∨ (H1 a = some (.ins C2 dx fs) ∧ t σ H1 fun vs H2 => sp2 (x :: (vs ++ [])) H2 Q E2))
end
section
variable {X : Cx}
/-- == of two lists of lists that are alike -/
def rEqLL (K : PySem.W.Frag) : R2 := fun x y H Q => ∃ a b ps qs, x = .ref a ∧ y = .ref b ∧ LLM K H a ps ∧ LLM K H b qs ∧ ps.map (·.2) = qs.map (·.2) ∧ (∀ p ∈ ps, Dt.hgts p.2 ≤ 30) ∧ Q (.bl true) H
/-- == of two dicts that are alike -/
def rEqDi (K : PySem.W.Frag) : R2 := fun x y H Q => ∃ (a b : Addr) (kvs lvs : List (Key × V)), x = .ref a ∧ y = .ref b ∧ H a = some (.dK kvs) ∧ H b = some (.dK lvs) ∧ kvs.length = lvs.length ∧
  (∀ kv ∈ kvs, ∃ v d, valV lvs kv.1 = some v ∧ DatAt K H kv.2 d ∧ DatAt K H v d ∧ d.hgt ≤ 30) ∧ Q (.bl true) H
end
end L2
namespace L2
open PySem PySem.Spec PySem.W PyProof.Rows
theorem caps2 {X : Cx} {scope : Scope} {Nc : List Str} {x y : Str} {c d : Addr} (i j i2 j2 : Nat) (ns : List (Str × NameKind)) (hrel : (relabel scope X.env).names = ns) (hclos : closureFor scope X.env = pure [(x, c), (y, d)]) (hk : scope.kind = .function)
    (hnc : ∀ z ∈ scope.names, z.2 ≠ .cell) (hnm : ∀ z ∈ scope.names, z.2 = .local → scope.names.lookup z.1 = some .local) (hcx : X.env.cells.lookup x = some c) (hcy : X.env.cells.lookup y = some d) (hii : i ≠ i2)
    (honly : ∀ z ∈ ns, z.2 = .cell ∨ z.2 = .free → z.1 = x ∨ z.1 = y) (hinx : ns.lookup x = some .cell) (hiny : ns.lookup y = some .cell) (hkx : X.env.kindOf x = some .cell) (hky : X.env.kindOf y = some .cell)
    (hNx : Nc[i]? = some x) (hNy : Nc[i2]? = some y) (hjx : X.N[j]? = some x) (hjy : X.N[j2]? = some y) :
    Caps X scope [(x, c), (y, d)] Nc (fun σ => ((List.replicate Nc.length none).set i (σ.getD j none)).set i2 (σ.getD j2 none)) where
  clos := hclos
  kind := hk
  nocell := hnc
  names := hnm
  cells := fun z e' e => by
    rw [List.lookup_cons] at e
    split at e
    · rename_i q
      have q' : z = x := by simpa using q
      cases e
      rw [q']
      exact hcx
    · rw [List.lookup_cons] at e
      split at e
      · rename_i q
        have q' : z = y := by simpa using q
        cases e
        rw [q']
        exact hcy
      · cases e
  has := fun z h => by
    rw [hrel] at h
    have e : z = x ∨ z = y := by
      rcases h with h | h
      · exact honly _ (PySem.mem_of_lookup h) (.inl rfl)
      · exact honly _ (PySem.mem_of_lookup h) (.inr rfl)
    rw [List.lookup_cons]
    split
    · exact ⟨c, rfl⟩
    · rename_i q
      have q' : z ≠ x := by simpa using q
      rcases e with e | e
      · exact absurd e q'
      · subst e
        exact ⟨d, by simp [List.lookup_cons]⟩
  len := fun σ => by simp
  cap := fun σ k z v e1 e2 _ => by
    have get : ∀ {q : Nat}, σ.getD q none = some v → σ[q]? = some (some v) := fun {q} e3 => by
      rw [List.getD_eq_getElem?_getD] at e3
      cases h : σ[q]? with
      | none => rw [h] at e3; cases e3
      | some o =>
        rw [h] at e3
        have e4 : o = some v := e3
        rw [e4]
    by_cases q2 : k = i2
    · subst q2
      rw [hNy] at e1
      cases e1
      have hlt : k < Nc.length := (List.getElem?_eq_some_iff.mp hNy).1
      rw [List.getElem?_set_self (by simpa using hlt)] at e2
      exact ⟨.inl (by rw [hrel]; exact hiny), .inl hky, j2, hjy, get (Option.some.inj e2), .inr (.inl hky)⟩
    · rw [List.getElem?_set_ne (Ne.symm q2)] at e2
      by_cases q : k = i
      · subst q
        rw [hNx] at e1
        cases e1
        have hlt : k < Nc.length := (List.getElem?_eq_some_iff.mp hNx).1
        rw [List.getElem?_set_self (by simpa using hlt)] at e2
        exact ⟨.inl (by rw [hrel]; exact hinx), .inl hkx, j, hjx, get (Option.some.inj e2), .inr (.inl hkx)⟩
      · rw [List.getElem?_set_ne (Ne.symm q), List.getElem?_replicate] at e2
        split at e2 <;> cases e2
end L2
namespace L2
open PySem PySem.Spec PySem.W PyProof.Rows
section
variable {X : Cx} {K : Frag}
end
def Cold (H H' : Hp) : Prop := ∀ b o, o ≠ .lst [] → H b = some o → H' b = some o
section
variable {K : Frag} {H H' H2 : Hp}
theorem Cold.tup {r : Addr} {vs : List V} (e : Cold H H') (h : SqT K H r vs) : SqT K H' r vs := by
  rcases h with (h | ⟨o, h⟩) | h
  · exact .inl (.inl (e _ _ (fun z => nomatch z) h))
  · exact .inl (.inr ⟨o, e _ _ (fun z => nomatch z) h⟩)
  · exact .inr h
mutual
theorem DatAt.cold (e : Cold H H') : ∀ {v : V} {d : Dt}, DatAt K H v d → DatAt K H' v d
  | v, .non, h => by simpa [DatAt] using h
  | v, .int i, h => by simpa [DatAt] using h
  | v, .str i, h => by simpa [DatAt] using h
  | v, .tup ds, h => by
    obtain ⟨r, vs, rfl, h1, h2⟩ := h.un
    exact .tup (e.tup h1) (DatsAt.cold e h2)
theorem DatsAt.cold (e : Cold H H') : ∀ {vs : List V} {ds : List Dt}, DatsAt K H vs ds → DatsAt K H' vs ds
  | vs, [], h => by
    rw [h.un0]
    exact .nil
  | vs, d :: ds, h => by
    obtain ⟨v, r, rfl, h1, h2⟩ := h.un
    exact .cons (DatAt.cold e h1) (DatsAt.cold e h2)
end
end
end L2
namespace L2
open PySem PySem.Spec PySem.W PyProof.Rows
section
variable {X : Cx}
/-- {e} within an f-string: a text, or a number -/
def tFmt (te : TE) : TE := fun σ H Q => te σ H fun x H1 => (∃ y : Str, x = .str y ∧ y.length ≤ sizeLine ∧ Q (.str y) H1) ∨ ∃ a : Int, x = .int a ∧ a.natAbs.log2 < 1920 ∧ Q (.str (toString a)) H1
/-- the parts, one behind the other -/
def tJoin : List TE → Str → TE
  | [], out => fun _ H Q => out.length ≤ sizeLine ∧ Q (.str out) H
  | t :: r, out => fun σ H Q => t σ H fun x H1 => ∃ y : Str, x = .str y ∧ (out ++ y).length ≤ sizeLine ∧ tJoin r (out ++ y) σ H1 Q
inductive PJs (X : Cx) : List Expr → List TE → Prop
  | nil : PJs X [] []
  | cons {v : Expr} {t : TE} {vs : List Expr} {ts : List TE} (h : PE X v t) (r : PJs X vs ts) : PJs X (v :: vs) (t :: ts)
theorem op_notinD (hu : X.A.units + 1 < cLine) : OpR X (compareOp .NotIn) (fun x y H Q => ∃ a o, y = .ref a ∧ DGet H a x o ∧ Q (.bl (!o.isSome)) H) := by
  intro pins s σ H x y u v Q I ru rv h
  obtain ⟨a, o, rfl, g, q⟩ := h
  cases (show v = Value.ref a from rv)
  exact d_notIn hu I g ru fun s' I' => ⟨.bl _, H, I', rfl, q⟩
end
end L2
namespace L2
open PySem PySem.Spec PyProof.Rows
/-- the places and the items of the list at a -/
def Ite (K : PySem.W.Frag) (a : Addr) : It :=
  ⟨fun i H => ∃ xs x, SqL K H a xs ∧ xs[i]? = some x,
   fun i H v H' => ∃ p, v = .ref p ∧ H p = none ∧ ∀ xs x, SqL K H a xs → xs[i]? = some x → H' = upd H p (.tup [.int (i : Int), x]),
   fun i H => ∃ xs, SqL K H a xs ∧ xs.length ≤ i⟩
theorem turn_enum {P : Program} {w : World} {K : PySem.W.Frag} {elts : List Expr} {kk : Nat} {pos : Pos} (a e it : Addr) (hne : e ≠ it) :
    Turn P w K (.Tuple elts kk pos) (Ite K a) [e, it] e (fun i h => (∃ old, IsEnum h e it (i : Int) old) ∧ h.IsListIter it a i) where
  mem := by simp
  obj := fun i h st c hc => by
    obtain ⟨⟨old, he⟩, ⟨o2, e2, c2, d2⟩⟩ := st
    have hc' : c = e ∨ c = it := by simpa using hc
    rcases hc' with rfl | rfl
    · exact ⟨_, he, fun v q => by have q' : Data.fields _ = Data.cell v := q; cases q'⟩
    · exact ⟨_, e2, fun v q => by rw [d2] at q; cases q⟩
  keep := fun i h h' st k => by
    obtain ⟨⟨old, he⟩, h2⟩ := st
    exact ⟨⟨old, k e (by simp) _ he⟩, h2.at fun o e' => k it (by simp) o e'⟩
  item := by
    intro X hP hw hK hc i pins s σ H E I hf st hg
    subst hP hw hK
    obtain ⟨xs, x, hq, hx⟩ := hg
    obtain ⟨its, rv, p1, hz1⟩ := I.list hq
    obtain ⟨u, hu, ru⟩ := rv.get hx
    obtain ⟨⟨old, he⟩, hit⟩ := st
    refine wpAny_pyNext_enum_item he hit p1.isList (x := u) (by simpa using hu) hne fun h' a1 a2 a3 a4 hk => ?_
    refine ⟨_, rfl, wpAny_letOwnedTupleGo_enum a1 fun h'' hz'' sb => ?_⟩
    have nz : s.heap.objs.size ≠ e := Nat.ne_of_gt (Heap.lt_size he)
    have hk2 : ∀ c o, c ∉ [e, it] → s.heap.get? c = some o → h''.get? c = some o := fun c o hc e' => by
      simp only [List.mem_cons, List.not_mem_nil, or_false, not_or] at hc
      exact sb.extBut c o hc.1 (hk c o hc.1 hc.2 e')
    refine ⟨.ref s.heap.objs.size, upd H s.heap.objs.size (.tup [.int (i : Int), x]), I.turnedLaid (t' := s.toks + 1) hk2 hf (Nat.le_refl _) ⟨two_le, [.int (i : Int) s.toks, u], .cons ⟨_, rfl⟩ (.cons ru .nil), ⟨_, sb.extBut _ _ nz a3, rfl, _, rfl⟩⟩, rfl,
      ⟨_, rfl, I.hok.fresh (Nat.le_refl _), fun xs' x' e1 e3 => ?_⟩, ⟨⟨_, hz''⟩, a2.extBut sb.extBut hne.symm⟩, fun c hc => ?_⟩
    · rw [I.list_inj e1 hq, hx] at e3
      cases e3
      rfl
    · obtain ⟨o, e', _⟩ : ∃ o, s.heap.get? c = some o ∧ True := by
        have hc' : c = e ∨ c = it := by simpa using hc
        obtain ⟨o2, e2, _⟩ := hit
        rcases hc' with rfl | rfl
        · exact ⟨_, he, trivial⟩
        · exact ⟨_, e2, trivial⟩
      rw [upd_ne (Nat.ne_of_lt (Heap.lt_size e'))]
      exact (hf c hc).1
  done := by
    intro X hP hw hK hc i pins s σ H E I hf st hg
    subst hP hw hK
    obtain ⟨xs, hq, hend⟩ := hg
    obtain ⟨its, rv, p1, hz1⟩ := I.list hq
    obtain ⟨⟨old, he⟩, hit⟩ := st
    have l1 := rv.length
    refine wpAny_pyNext_enum_end (I.ok.hd hc) he hit p1.isList (by simp; omega) fun h' hk => ⟨rfl, I.turnedAll (t' := s.toks) (ch := [e, it]) (fun c o hc e' => ?_) hf⟩
    simp only [List.mem_cons, List.not_mem_nil, or_false, not_or] at hc
    exact hk c o hc.2 e'
  self := fun _ _ _ _ _ st h => let ⟨_, he⟩ := st.1; wpAny_pyIter_enum he h
section
variable {X : Cx} {elts : List Expr} {kk : Nat} {tpos : Pos}
def iEnum (K : PySem.W.Frag) (ta : TA) : TI := fun σ H R => ta σ H fun vs H1 => ∃ a, vs = [.ref a] ∧ (∃ xs, SqL K H1 a xs) ∧ R (Ite K a) H1
theorem pi_enum {e1 : Expr} {ta : TA} {p pos : Pos} (hg : Gl X "enumerate") (hm : X.mg "enumerate" = none) (ha : PA X [e1] ta)
    (hs : starEach [e1] X.env = [(false, eval e1 X.env)] := by rfl) (hs2 : starEach [] X.env = [] := by rfl) : PI X (.Tuple elts kk tpos) (.Call (.Name "enumerate" p) [e1] [] pos) (iEnum X.K ta) := by
  intro pins s σ H R I h
  refine Call_ (ld_blt I hg hm Boot.«enumerate» (PyProof.Rows.callWith_type1 (thn (ha pos pins s σ H _ I h) fun us s1 ⟨vs, H1, I1, r1, q1⟩ => ?_) (by rw [hs, hs2]) (by rw [hs2]; rfl)))
  obtain ⟨a, e, ⟨xs, hx⟩, q⟩ := q1
  subst e
  obtain ⟨u, rfl, r⟩ := vals1 r1
  cases (show u = Value.ref a from r)
  obtain ⟨its, rv, p1, hz1⟩ := I1.list hx
  refine call_enumerate_list p1.isList fun h' he hit hsz hk => ?_
  refine wpAny_pyIter_enum he ?_
  refine ⟨s1.heap.objs.size + 1, [s1.heap.objs.size + 1, s1.heap.objs.size], _, _, H1, rfl, I1.kept (t' := s1.toks) hk, turn_enum a _ _ (Nat.succ_ne_self _), ⟨⟨_, he⟩, hit⟩, fun c hc => ?_, q⟩
  have hc' : s1.heap.objs.size ≤ c := by
    simp only [List.mem_cons, List.not_mem_nil, or_false] at hc
    rcases hc with e | e <;> rw [e] <;> first | exact Nat.le_refl _ | exact Nat.le_add_right _ _
  exact I1.fpOk hc' (I1.hok.fresh hc')
/-- the loop -/
theorem for_enum {K : PySem.W.Frag} {a : Addr} {xs : List V} {g : TG} {tb : TS} {D : Ends} {σ : St} {H : Hp} (Pv : Nat → St → Hp → Prop) (h0 : Pv 0 σ H) (hl : ∀ i σ H, i ≤ xs.length → Pv i σ H → SqL K H a xs)
    (hs : ∀ i x σ H p, xs[i]? = some x → Pv i σ H → H p = none → g (.ref p) σ (upd H p (.tup [.int (i : Int), x])) fun σ2 H2 => tb { D with nx := Pv (i + 1), ct := Pv (i + 1), bk := D.nx } σ2 H2) (hd : ∀ σ H, Pv xs.length σ H → D.nx σ H) :
    ∃ W : Nat → Nat → St → Hp → Prop, (∃ m, W 0 m σ H) ∧ ∀ i m σ H, W i m σ H →
      ((Ite K a).stop i H ∧ D.nx σ H) ∨ ((Ite K a).go i H ∧ ∃ N : St → Hp → Prop, (∀ σ' H', N σ' H' → ∃ m', m' < m ∧ W (i + 1) m' σ' H') ∧ ∀ x H', (Ite K a).yld i H x H' → g x σ H' fun σ2 H2 => tb { D with nx := N, ct := N, bk := D.nx } σ2 H2) := by
  refine ⟨fun i m σ H => m = xs.length - i ∧ i ≤ xs.length ∧ Pv i σ H, ⟨xs.length, by simp, Nat.zero_le _, h0⟩, ?_⟩
  rintro i m σ H ⟨rfl, hi, p⟩
  have q := hl i σ H hi p
  by_cases hlt : i < xs.length
  · refine .inr ⟨⟨xs, xs[i], q, by simp [hlt]⟩, Pv (i + 1), fun σ' H' p' => ⟨xs.length - (i + 1), by omega, rfl, hlt, p'⟩, fun x H' y => ?_⟩
    obtain ⟨pp, rfl, hp, y⟩ := y
    rw [y xs xs[i] q (by simp [hlt])]
    exact hs i xs[i] σ H pp (by simp [hlt]) p hp
  · have e : i = xs.length := by omega
    subst e
    exact .inl ⟨⟨xs, q, Nat.le_refl _⟩, hd σ H p⟩
end
end L2
namespace L2
open PySem PySem.Spec PySem.W PyProof.Rows
def BtZ (Z : List Addr) (H H' : Hp) : Prop := ∀ b o, b ∉ Z → H b = some o → H' b = some o
/-- no tuple stands at any of them -/
def NTZ (H : Hp) (Z : List Addr) : Prop := ∀ a ∈ Z, NT H a
section
variable {K : Frag} {H H' H2 : Hp} {Z : List Addr} {a b : Addr}
theorem BtZ.refl : BtZ Z H H := fun _ _ _ h => h
theorem BtZ.of (e : Same H H') : BtZ Z H H' := fun b o _ h => e b o h
theorem BtZ.one (h : a ∈ Z) (e : BtA a H H') : BtZ Z H H' := fun b o n q => e b o (fun z => n (by rw [z]; exact h)) q
theorem BtZ.trans (e : BtZ Z H H') (f : BtZ Z H' H2) : BtZ Z H H2 := fun b o n h => f b o n (e b o n h)
theorem BtZ.mono {Z2 : List Addr} (e : BtZ Z H H') (h : ∀ x ∈ Z, x ∈ Z2) : BtZ Z2 H H' := fun b o n q => e b o (fun z => n (h b z)) q
/-- what is new ahead counts for nothing -/
theorem BtZ.same (e : BtZ Z H H') (h : ∀ x ∈ Z, H2 x = none) (s : Same H2 H) : Same H2 H' := fun b o q => e b o (fun z => by rw [h b z] at q; cases q) (s b o q)
theorem BtZ.tup {r : Addr} {vs : List V} (nt : NTZ H Z) (e : BtZ Z H H') (h : SqT K H r vs) : SqT K H' r vs := by
  rcases h with (h | ⟨o, h⟩) | h
  · exact .inl (.inl (e _ _ (fun z => (nt _ z _ h).1 _ rfl) h))
  · exact .inl (.inr ⟨o, e _ _ (fun z => (nt _ z _ h).2 _ _ rfl) h⟩)
  · exact .inr h
mutual
theorem DatAt.butZ (nt : NTZ H Z) (e : BtZ Z H H') : ∀ {v : V} {d : Dt}, DatAt K H v d → DatAt K H' v d
  | v, .non, h => by simpa [DatAt] using h
  | v, .int i, h => by simpa [DatAt] using h
  | v, .str i, h => by simpa [DatAt] using h
  | v, .tup ds, h => by
    obtain ⟨r, vs, rfl, h1, h2⟩ := h.un
    exact .tup (BtZ.tup nt e h1) (DatsAt.butZ nt e h2)
theorem DatsAt.butZ (nt : NTZ H Z) (e : BtZ Z H H') : ∀ {vs : List V} {ds : List Dt}, DatsAt K H vs ds → DatsAt K H' vs ds
  | vs, [], h => by
    rw [h.un0]
    exact .nil
  | vs, d :: ds, h => by
    obtain ⟨v, r, rfl, h1, h2⟩ := h.un
    exact .cons (DatAt.butZ nt e h1) (DatsAt.butZ nt e h2)
end
end
end L2
namespace K22
open PySem L2 FW PyProof.Rows
def top (i : Nat) : Stmt := PySem.Challenge.pw_flipwright_k22_rows_opened.main.body.getD i (.Pass ⟨0, 0, 0, 0⟩)
abbrev s_NoName_init : Stmt := inClass (top 2) 0
abbrev s_Opened_init : Stmt := inClass (top 8) 0
abbrev s_Opener_init : Stmt := inClass (top 17) 0
abbrev s_Opener_count_term : Stmt := inClass (top 17) 1
abbrev s_Opener_new_slot : Stmt := inClass (top 17) 2
abbrev s_Opener_new_draw : Stmt := inClass (top 17) 3
abbrev s_Opener_open_term : Stmt := inClass (top 17) 4
abbrev s_Opener_open_call : Stmt := inClass (top 17) 5
abbrev s_Opener_open_let : Stmt := inClass (top 17) 6
abbrev s_Opener_open_row : Stmt := inClass (top 17) 7
abbrev s_parts_of : Stmt := top 9
abbrev s_terms_in : Stmt := top 10
abbrev s_size : Stmt := top 11
abbrev s_check_term : Stmt := top 12
abbrev s_check_names : Stmt := top 13
abbrev s_check_defs : Stmt := top 14
abbrev s_draw_of : Stmt := top 15
abbrev s_with_parts : Stmt := top 16
abbrev s_opened : Stmt := top 18
abbrev s_law_mix : Stmt := top 20
abbrev s_law_names : Stmt := top 21
abbrev s_law_leaf : Stmt := top 22
abbrev s_law_flip : Stmt := top 23
abbrev s_law_pick : Stmt := top 24
abbrev s_law_term : Stmt := top 25
abbrev s_law_program : Stmt := top 26
abbrev s_law_parts : Stmt := top 27
abbrev s_law_drawn : Stmt := top 28
abbrev s_law_again : Stmt := top 29
abbrev s_law_opened : Stmt := top 30
abbrev s_law_due : Stmt := top 31
abbrev s_law_alike : Stmt := top 32
abbrev s_law_size : Stmt := top 33
abbrev s_law : Stmt := top 34
theorem sc_Opened_init : FnScope ["self", "steps", "draws", "slots"] ["self", "steps", "draws", "slots"] (defScope s_Opened_init) := ⟨rfl, rfl, rfl, by decide +kernel, rfl, by decide +kernel, by decide +kernel⟩
theorem sc_Opener_init : FnScope ["self"] ["self"] (defScope s_Opener_init) := ⟨rfl, rfl, rfl, by decide +kernel, rfl, by decide +kernel, by decide +kernel⟩
theorem sc_Opener_count_term : FnScope ["self"] ["self"] (defScope s_Opener_count_term) := ⟨rfl, rfl, rfl, by decide +kernel, rfl, by decide +kernel, by decide +kernel⟩
theorem sc_Opener_new_slot : FnScope ["self"] ["self"] (defScope s_Opener_new_slot) := ⟨rfl, rfl, rfl, by decide +kernel, rfl, by decide +kernel, by decide +kernel⟩
theorem sc_Opener_new_draw : FnScope ["self", "draw"] ["self", "draw"] (defScope s_Opener_new_draw) := ⟨rfl, rfl, rfl, by decide +kernel, rfl, by decide +kernel, by decide +kernel⟩
theorem sc_Opener_open_term : FnScope ["self", "term", "names", "kind", "parts", "part"] ["self", "term", "names"] (defScope s_Opener_open_term) := ⟨rfl, rfl, rfl, by decide +kernel, rfl, by decide +kernel, by decide +kernel⟩
theorem sc_Opener_open_let : FnScope ["self", "name", "term", "inner"] ["self", "name", "term"] (defScope s_Opener_open_let) := ⟨rfl, rfl, rfl, by decide +kernel, rfl, by decide +kernel, by decide +kernel⟩
theorem sc_Opener_open_row : FnScope ["self", "row", "kind", "turn", "inner"] ["self", "row"] (defScope s_Opener_open_row) := ⟨rfl, rfl, rfl, by decide +kernel, rfl, by decide +kernel, by decide +kernel⟩
theorem sc_parts_of : FnScope ["term", "kind"] ["term"] (defScope s_parts_of) := ⟨rfl, rfl, rfl, by decide +kernel, rfl, by decide +kernel, by decide +kernel⟩
theorem sc_terms_in : FnScope ["one", "found", "waiting", "term"] ["one"] (defScope s_terms_in) := ⟨rfl, rfl, rfl, by decide +kernel, rfl, by decide +kernel, by decide +kernel⟩
theorem sc_size : FnScope ["one"] ["one"] (defScope s_size) := ⟨rfl, rfl, rfl, by decide +kernel, rfl, by decide +kernel, by decide +kernel⟩
theorem sc_check_term : FnScope ["row", "term", "names", "helpers", "kind", "part"] ["row", "term", "names", "helpers"] (defScope s_check_term) := ⟨rfl, rfl, rfl, by decide +kernel, rfl, by decide +kernel, by decide +kernel⟩
theorem sc_check_names : FnScope ["program", "names", "helpers", "number", "row", "kind"] ["program"] (defScope s_check_names) := ⟨rfl, rfl, rfl, by decide +kernel, rfl, by decide +kernel, by decide +kernel⟩
theorem sc_check_defs : FnScope ["program"] ["program"] (defScope s_check_defs) := ⟨rfl, rfl, rfl, by decide +kernel, rfl, by decide +kernel, by decide +kernel⟩
theorem sc_draw_of : FnScope ["term"] ["term"] (defScope s_draw_of) := ⟨rfl, rfl, rfl, by decide +kernel, rfl, by decide +kernel, by decide +kernel⟩
theorem sc_with_parts : FnScope ["term", "parts", "kind"] ["term", "parts"] (defScope s_with_parts) := ⟨rfl, rfl, rfl, by decide +kernel, rfl, by decide +kernel, by decide +kernel⟩
theorem sc_opened : FnScope ["program", "opener", "row"] ["program"] (defScope s_opened) := ⟨rfl, rfl, rfl, by decide +kernel, rfl, by decide +kernel, by decide +kernel⟩
theorem sc_law_mix : FnScope ["_law_cell", "_law_k", "_law_some"] ["_law_cell", "_law_k"] (defScope s_law_mix) := ⟨rfl, rfl, rfl, by decide +kernel, rfl, by decide +kernel, by decide +kernel⟩
theorem sc_law_names : FnScope ["_law_cell", "_law_letters", "_law_many", "_law_at", "_law_names_here", "_law_k", "_law_name", "_law_j", "_law_step"] ["_law_cell"] (defScope s_law_names) := ⟨rfl, rfl, rfl, by decide +kernel, rfl, by decide +kernel, by decide +kernel⟩
theorem sc_law_leaf : FnScope ["_law_cell", "_law_known"] ["_law_cell", "_law_known"] (defScope s_law_leaf) := ⟨rfl, rfl, rfl, by decide +kernel, rfl, by decide +kernel, by decide +kernel⟩
theorem sc_law_flip : FnScope ["_law_cell", "_law_bottom"] ["_law_cell"] (defScope s_law_flip) := ⟨rfl, rfl, rfl, by decide +kernel, rfl, by decide +kernel, by decide +kernel⟩
theorem sc_law_pick : FnScope ["_law_cell", "_law_pairs", "_law_k"] ["_law_cell"] (defScope s_law_pick) := ⟨rfl, rfl, rfl, by decide +kernel, rfl, by decide +kernel, by decide +kernel⟩
theorem sc_law_term : FnScope ["_law_cell", "_law_known", "_law_names_here", "_law_one", "_law_other", "_law_way", "_law_more", "_law_sign"] ["_law_cell", "_law_known", "_law_names_here"] (defScope s_law_term) := ⟨rfl, rfl, rfl, by decide +kernel, rfl, by decide +kernel, by decide +kernel⟩
theorem sc_law_program : FnScope ["_law_script", "_law_names_here", "_law_rows", "_law_known", "_law_draws", "_law_cell", "_law_term_here", "_law_name", "_law_way", "_law_base", "_law_part"] ["_law_script", "_law_names_here"] (defScope s_law_program) := ⟨rfl, rfl, rfl, by decide +kernel, rfl, by decide +kernel, by decide +kernel⟩
theorem sc_law_parts : FnScope ["_law_term_here"] ["_law_term_here"] (defScope s_law_parts) := ⟨rfl, rfl, rfl, by decide +kernel, rfl, by decide +kernel, by decide +kernel⟩
theorem sc_law_drawn : FnScope ["_law_term_here", "_law_many", "_law_part"] ["_law_term_here"] (defScope s_law_drawn) := ⟨rfl, rfl, rfl, by decide +kernel, rfl, by decide +kernel, by decide +kernel⟩
theorem sc_law_again : FnScope ["_law_term_here", "_law_parts_here"] ["_law_term_here", "_law_parts_here"] (defScope s_law_again) := ⟨rfl, rfl, rfl, by decide +kernel, rfl, by decide +kernel, by decide +kernel⟩
theorem sc_law_opened : FnScope ["_law_term_here", "_law_slots", "_law_draws"] ["_law_term_here", "_law_slots", "_law_draws"] (defScope s_law_opened) := ⟨rfl, rfl, rfl, by decide +kernel, rfl, by decide +kernel, by decide +kernel⟩
theorem sc_law_due : FnScope ["_law_program_here", "_law_slots", "_law_steps", "_law_draws", "_law_many", "_law_row", "_law_rounds", "_law_turn", "_law_term_here"] ["_law_program_here"] (defScope s_law_due) := ⟨rfl, rfl, rfl, by decide +kernel, rfl, by decide +kernel, by decide +kernel⟩
theorem sc_law_alike : FnScope ["_law_found", "_law_due_here", "_law_k"] ["_law_found", "_law_due_here"] (defScope s_law_alike) := ⟨rfl, rfl, rfl, by decide +kernel, rfl, by decide +kernel, by decide +kernel⟩
theorem sc_law_size : FnScope ["_law_term_here", "_law_many", "_law_part"] ["_law_term_here"] (defScope s_law_size) := ⟨rfl, rfl, rfl, by decide +kernel, rfl, by decide +kernel, by decide +kernel⟩
theorem sc_law : FnScope ["_law_script", "_law_names_here", "_law_program_here", "_law_steps", "_law_draws", "_law_many", "_law_handed", "_law_one", "_law_again_here", "_law_due_here", "_law_found", "_law_row", "_law_slot", "_law_term_here"] ["_law_script"] (defScope s_law) := ⟨rfl, rfl, rfl, by decide +kernel, rfl, by decide +kernel, by decide +kernel⟩
structure Txt (K : PySem.W.Frag) (mg : Str → Option Value) (C : Addr) (uS uD : Value) : Prop where
  cl : Cls K C
  n1 : NoAttr K C "helpers"
  n2 : NoAttr K C "names"
  n3 : NoAttr K C "steps"
  n4 : NoAttr K C "draws"
  n5 : NoAttr K C "slots"
  n6 : NoAttr K C "terms"
  MOST_SIZE : mg "MOST_SIZE" = some uS
  size : RelV (.int 600) uS
  MOST_DRAWS : mg "MOST_DRAWS" = some uD
  draws : RelV (.int 60) uD
  len_ : mg "len" = none
/-- what an opener holds -/
structure OpS where
  hp : Addr
  nm : Addr
  st : Addr
  dr : Addr
  slots : Int
  terms : Int
def OpS.fs (o : OpS) : List (Str × V) := [("helpers", .ref o.hp), ("names", .ref o.nm), ("steps", .ref o.st), ("draws", .ref o.dr), ("slots", .int o.slots), ("terms", .int o.terms)]
def sp_init (C : Addr) : Sp := fun vs H Q _ => ∃ p dx, vs = [.ref p] ∧ H p = some (.ins C dx []) ∧ ∀ (o : OpS) H', BtA p H H' → H' p = some (.ins C dx o.fs) → o.slots = 0 → o.terms = 0 → H' o.hp = some (.dK []) → H' o.nm = some (.dK []) → H' o.st = some (.lst []) → H' o.dr = some (.lst []) →
  (∀ a ∈ [o.hp, o.nm, o.st, o.dr], H a = none) → o.hp ≠ o.nm → o.st ≠ o.dr → Q .non H'
def sp_count (C : Addr) : Sp := fun vs H Q _ => ∃ p dx, ∃ o : OpS, vs = [.ref p] ∧ H p = some (.ins C dx o.fs) ∧ o.terms < 600 ∧ Q .non (upd H p (.ins C dx { o with terms := o.terms + 1 }.fs))
def sp_slot (C : Addr) : Sp := fun vs H Q _ => ∃ p dx, ∃ o : OpS, vs = [.ref p] ∧ H p = some (.ins C dx o.fs) ∧ Q (.int o.slots) (upd H p (.ins C dx { o with slots := o.slots + 1 }.fs))
def sp_draw (C : Addr) : Sp := fun vs H Q _ => ∃ p dx d xs, ∃ o : OpS, vs = [.ref p, d] ∧ H p = some (.ins C dx o.fs) ∧ H o.dr = some (.lst xs) ∧ xs.length < 60 ∧ Q (.int (xs.length : Nat)) (upd H o.dr (.lst (xs ++ [d])))
section
variable {P : Program} {w : World} {K : PySem.W.Frag} {mg : Str → Option Value} {base : Heap} {C : Addr} {uS uD : Value}
theorem ok_count {f : Addr} {fd : FuncData} (F : Fun K "count_term" "Opener.count_term" s_Opener_count_term f fd) (T : Txt K mg C uS uD) : FnOk P w K mg base CX0 1 f fd ["self"] (sp_count C) := by
  refine F.ok sc_Opener_count_term (fun vs H Q E h => ?_) (fun cdv Ar outer s H vs Q E hr h => ?_)
  · obtain ⟨p, dx, o, rfl, _⟩ := h
    rfl
  · obtain ⟨p, dx, o, rfl, hp, hl, k⟩ := h
    refine ⟨_, (pss_cons (ps_fldaug (pv 0) pe_int in_add)
      (pss_one (ps_if (pt_cmpR op_gt (pe_fld (pv 0) rfl) (pe_glob rfl T.MOST_SIZE (v := .int 600) T.size) (nomark _)) pss_no pss_nil))), ?_⟩
    refine ⟨_, rfl, p, C, dx, o.fs, .int o.terms, rfl, hp, T.cl, T.n6, rfl, _, _, rfl, rfl, dx, o.fs, hp, (by show 6 < 1000; decide), ?_⟩
    refine ⟨_, rfl, p, C, dx, _, .int (o.terms + 1), rfl, upd_same, T.cl, T.n6, rfl, _, _, rfl, rfl, _, rfl, iteBB (fun hc => ?_) (fun _ => k)⟩
    have := of_decide_eq_true hc
    omega
theorem ok_slot {f : Addr} {fd : FuncData} (F : Fun K "new_slot" "Opener.new_slot" s_Opener_new_slot f fd) (T : Txt K mg C uS uD) : FnOk P w K mg base CX0 1 f fd ["self"] (sp_slot C) := by
  refine F.ok sc_Opener_new_slot (fun vs H Q E h => ?_) (fun cdv Ar outer s H vs Q E hr h => ?_)
  · obtain ⟨p, dx, o, rfl, _⟩ := h
    rfl
  · obtain ⟨p, dx, o, rfl, hp, k⟩ := h
    refine ⟨_, (pss_cons (ps_fldaug (pv 0) pe_int in_add)
      (pss_one (ps_ret (pe_op op_sub (pe_fld (pv 0) rfl) pe_int)))), ?_⟩
    refine ⟨_, rfl, p, C, dx, o.fs, .int o.slots, rfl, hp, T.cl, T.n5, rfl, _, _, rfl, rfl, dx, o.fs, hp, (by show 6 < 1000; decide), ?_⟩
    refine ⟨_, rfl, p, C, dx, _, .int (o.slots + 1), rfl, upd_same, T.cl, T.n5, rfl, _, _, rfl, rfl, ?_⟩
    dsimp only
    rw [show o.slots + 1 - 1 = o.slots by omega]
    exact k
theorem ok_draw {f : Addr} {fd : FuncData} (F : Fun K "new_draw" "Opener.new_draw" s_Opener_new_draw f fd) (T : Txt K mg C uS uD) : FnOk P w K mg base CX0 1 f fd ["self", "draw"] (sp_draw C) := by
  refine F.ok sc_Opener_new_draw (fun vs H Q E h => ?_) (fun cdv Ar outer s H vs Q E hr h => ?_)
  · obtain ⟨p, dx, d, xs, o, rfl, _⟩ := h
    rfl
  · obtain ⟨p, dx, d, xs, o, rfl, hp, hd, hl, k⟩ := h
    refine ⟨_, (pss_cons (ps_expr (pe_bm PySem.F.plainAttrs_list PySem.F.slot_list_append PySem.F.type_list_append mt_append (pe_fld (pv 0) rfl) (pa_cons (pv 1) pa_nil)))
      (pss_cons (ps_if (pt_cmpR op_gt (pe_callB call_len_seq (by rfl) T.len_ Boot.«len» (pa_cons (pe_fld (pv 0) rfl) pa_nil)) (pe_glob rfl T.MOST_DRAWS (v := .int 60) T.draws) (nomark _)) pss_no pss_nil)
      (pss_one (ps_ret (pe_op op_sub (pe_callB call_len_seq (by rfl) T.len_ Boot.«len» (pa_cons (pe_fld (pv 0) rfl) pa_nil)) pe_int))))), ?_⟩
    have npd : p ≠ o.dr := by
      intro z
      rw [← z, hp] at hd
      cases hd
    refine ⟨_, rfl, p, C, dx, o.fs, .ref o.dr, rfl, hp, T.cl, T.n4, rfl, .inl ⟨rfl, _, SqL.of hd⟩, _, rfl, o.dr, xs, _, rfl, rfl, hd, Nat.lt_of_lt_of_le hl (by decide), ?_⟩
    have hp2 : (upd H o.dr (.lst (xs ++ [d]))) p = some (.ins C dx o.fs) := by rw [upd_ne npd]; exact hp
    refine ⟨_, rfl, p, C, dx, o.fs, .ref o.dr, rfl, hp2, T.cl, T.n4, rfl, o.dr, _, rfl, .inl (SqL.of upd_same), _, _, rfl, rfl, _, rfl, iteBB (fun hc => ?_) (fun _ => ?_)⟩
    · have := of_decide_eq_true hc
      rw [List.length_append] at this
      simp only [List.length_cons, List.length_nil] at this
      omega
    refine ⟨_, rfl, p, C, dx, o.fs, .ref o.dr, rfl, hp2, T.cl, T.n4, rfl, o.dr, _, rfl, .inl (SqL.of upd_same), _, _, rfl, rfl, ?_⟩
    dsimp only
    rw [show ((xs ++ [d]).length : Int) - 1 = (xs.length : Nat) by rw [List.length_append]; simp]
    exact k
end
end K22
namespace K22
open PySem L2 FW PyProof.Rows
structure Bl (mg : Str → Option Value) : Prop where
  list_ : mg "list" = none
  tuple_ : mg "tuple" = none
  zip_ : mg "zip" = none
abbrev pI (p : Int × Int) : Dt := .tup [.int p.1, .int p.2]
abbrev prS (f : Str × Dt) : Dt × Dt := (.str f.1, f.2)
/-- the parts of a term that are terms -/
inductive Pt : Dt → List Dt → Prop
  | num (x : Dt) : Pt (.tup [.str "num", x]) []
  | name (x : Dt) : Pt (.tup [.str "name", x]) []
  | slot (x : Dt) : Pt (.tup [.str "slot", x]) []
  | draw (x : Dt) : Pt (.tup [.str "draw", x]) []
  | pick (x : Dt) : Pt (.tup [.str "pick", x]) []
  | flip (x y : Dt) : Pt (.tup [.str "flip", x, y]) []
  | ite (a b c : Dt) : Pt (.tup [.str "if", a, b, c]) [a, b, c]
  | rest (d x : Dt) : Pt (.tup [.str "rest", d, x]) [d]
  | field (d x : Dt) : Pt (.tup [.str "field", d, x]) [d]
  | op (x a b : Dt) : Pt (.tup [.str "op", x, a, b]) [a, b]
  | bind (x a b : Dt) : Pt (.tup [.str "bind", x, a, b]) [a, b]
  | record (fs : List (Dt × Dt)) (h : fs.length ≤ 6) : Pt (.tup [.str "record", .tup (fs.map prD)]) (fs.map (·.2))
/-- the term with other parts -/
inductive Wp : Dt → List Dt → Dt → Prop
  | ite (a b c x y z : Dt) : Wp (.tup [.str "if", a, b, c]) [x, y, z] (.tup [.str "if", x, y, z])
  | op (s : Str) (a b x y : Dt) : Wp (.tup [.str "op", .str s, a, b]) [x, y] (.tup [.str "op", .str s, x, y])
  | rest (a n x : Dt) : Wp (.tup [.str "rest", a, n]) [x] (.tup [.str "rest", x, n])
  | field (a n x : Dt) : Wp (.tup [.str "field", a, n]) [x] (.tup [.str "field", x, n])
  | record (fs : List (Str × Dt)) (xs : List Dt) (hl : xs.length = fs.length) (h6 : fs.length ≤ 6) : Wp (.tup [.str "record", .tup ((fs.map prS).map prD)]) xs (.tup [.str "record", .tup ((((fs.map (·.1)).zip xs).map prS).map prD)])
def lstQ (K : PySem.W.Frag) (H : Hp) (Q : VK) (ds : List Dt) : Prop := ∀ D H', Same H H' → H D = none → LsM K H' D ds → Q (.ref D) H'
def datQ (K : PySem.W.Frag) (H : Hp) (Q : VK) (d : Dt) : Prop := ∀ v H', Same H H' → DatAt K H' v d → Q v H'
def sp_parts (K : PySem.W.Frag) : Sp := fun vs H Q _ => ∃ v d ds, vs = [v] ∧ DatAt K H v d ∧ Pt d ds ∧ lstQ K H Q ds
def sp_with (K : PySem.W.Frag) : Sp := fun vs H Q _ => ∃ v l t xs t', vs = [v, .ref l] ∧ DatAt K H v t ∧ LsM K H l xs ∧ Wp t xs t' ∧ datQ K H Q t'
/-- what is drawn by a flip or a pick -/
inductive Dr : Dt → List (Int × Int) → Prop
  | flip (a b : Int) : Dr (.tup [.str "flip", .int a, .int b]) [(0, b - a), (1, a)]
  | pick (ps : List (Int × Int)) : Dr (.tup [.str "pick", .tup (ps.map pI)]) ps
def sp_draw_of (K : PySem.W.Frag) : Sp := fun vs H Q _ => ∃ v t ps, vs = [v] ∧ DatAt K H v t ∧ Dr t ps ∧ lstQ K H Q (ps.map pI)
section
variable {P : Program} {w : World} {K : PySem.W.Frag} {mg : Str → Option Value} {base : Heap}
theorem t3 : 3 ≤ sizeLine := by decide
theorem t4 : 4 ≤ sizeLine := by decide
theorem snoc_ok {H1 H6 : Hp} {D : Addr} {ys : List V} {ds : List Dt} {v : V} {d : Dt} (hD : H1 D = none) (S6 : Same H1 H6) (e6 : H6 D = some (.lst ys)) (hy : DatsAt K H6 ys ds) (hv : DatAt K H6 v d) :
    Same H1 (upd H6 D (.lst (ys ++ [v]))) ∧ (upd H6 D (.lst (ys ++ [v]))) D = some (.lst (ys ++ [v])) ∧ DatsAt K (upd H6 D (.lst (ys ++ [v]))) (ys ++ [v]) (ds ++ [d]) := by
  refine ⟨fun b o e => ?_, upd_same, (hy.append (.cons hv .nil)).updL e6⟩
  rw [upd_ne (ne_of_none e hD)]
  exact S6 _ _ e
theorem dats3 {H : Hp} {vs : List V} {d e f : Dt} (h : DatsAt K H vs [d, e, f]) : ∃ x y z, vs = [x, y, z] ∧ DatAt K H x d ∧ DatAt K H y e ∧ DatAt K H z f := by
  obtain ⟨x, r, rfl, h1, h⟩ := h.un
  obtain ⟨y, z, rfl, h2, h3⟩ := h.two
  exact ⟨x, y, z, rfl, h1, h2, h3⟩
theorem dats4 {H : Hp} {vs : List V} {d e f g : Dt} (h : DatsAt K H vs [d, e, f, g]) : ∃ x y z u, vs = [x, y, z, u] ∧ DatAt K H x d ∧ DatAt K H y e ∧ DatAt K H z f ∧ DatAt K H u g := by
  obtain ⟨x, r, rfl, h1, h⟩ := h.un
  obtain ⟨y, z, u, rfl, h2, h3, h4⟩ := dats3 h
  exact ⟨x, y, z, u, rfl, h1, h2, h3, h4⟩
theorem ok_parts_of {f : Addr} {fd : FuncData} (A : FnAt K mg "parts_of" s_parts_of ["term"] f fd) (T : Bl mg) : FnOk P w K mg base CX0 1 f fd ["term"] (sp_parts K) := by
  refine A.F.ok sc_parts_of (fun vs H Q E h => ?_) (fun cdv Ar outer s H vs Q E hr h => ?_)
  · obtain ⟨v, d, ds, rfl, _⟩ := h
    rfl
  · obtain ⟨v, d, ds, rfl, hv, hp, k⟩ := h
    refine ⟨_, (pss_cons (ps_set (i := 1) sc_parts_of.nd rfl (Or.inl rfl) (pe_ix ix_tup (pv 0) pe_int (fun _ _ => rfl)))
      (pss_cons (ps_if (pt_cmpR op_eq (pv 1) pe_str (nomark _)) (pss_one (ps_ret (pe_lst (pa_cons (pe_ix ix_tup (pv 0) pe_int (fun _ _ => rfl)) (pa_cons (pe_ix ix_tup (pv 0) pe_int (fun _ _ => rfl)) (pa_cons (pe_ix ix_tup (pv 0) pe_int (fun _ _ => rfl)) pa_nil)))))) pss_nil)
      (pss_cons (ps_if (pt_cmpR op_in_seq (pv 1) (pe_tup (pa_cons pe_str (pa_cons pe_str pa_nil))) (by rfl)) (pss_one (ps_ret (pe_lst (pa_cons (pe_ix ix_tup (pv 0) pe_int (fun _ _ => rfl)) (pa_cons (pe_ix ix_tup (pv 0) pe_int (fun _ _ => rfl)) pa_nil))))) pss_nil)
      (pss_cons (ps_if (pt_cmpR op_in_seq (pv 1) (pe_tup (pa_cons pe_str (pa_cons pe_str pa_nil))) (by rfl)) (pss_one (ps_ret (pe_lst (pa_cons (pe_ix ix_tup (pv 0) pe_int (fun _ _ => rfl)) pa_nil)))) pss_nil)
      (pss_cons (ps_if (pt_cmpR op_eq (pv 1) pe_str (nomark _)) (pss_one (ps_ret (pe_comp rfl (Nc := ["name", "part"]) (caps0 rfl (by decide +kernel) (by decide +kernel) (by decide +kernel)) (pi_tup (pe_ix ix_tup (pv 0) pe_int (fun _ _ => rfl))) (fun _ _ _ _ => by exact (pg_tupK (K := K) (n := 2) rfl rfl (pgs_cons (pg_name (i := 0) (show List.Nodup (["name", "part"] : List Str) by decide +kernel) rfl (Or.inl rfl)) (pgs_cons (pg_name (i := 1) (show List.Nodup (["name", "part"] : List Str) by decide +kernel) rfl (Or.inl rfl)) pgs_nil)))) (fun _ _ _ _ => pts_nil) (fun _ _ _ _ => (pv 1))))) pss_nil)
      (pss_cons (ps_if (pt_cmpR op_eq (pv 1) pe_str (nomark _)) (pss_one (ps_ret (pe_callTy call_list_of (by rfl) T.list_ Boot.«list» (pa_cons (pe_ix ix_tup (pv 0) pe_int (fun _ _ => rfl)) pa_nil)))) pss_nil)
      (pss_one (ps_ret (pe_lst pa_nil))))))))), ?_⟩
    cases hp with
    | num x =>
      obtain ⟨r, vs, rfl, sv, dv⟩ := hv.un
      obtain ⟨v0, v1, rfl, h0, h1⟩ := dv.two
      rw [h0.str_eq] at sv
      refine ⟨_, rfl, r, _, 0, .str "num", rfl, rfl, sv, rfl, ?_⟩
      refine ⟨_, rfl, rfl, _, rfl, iteBB (fun hc => absurd hc (by decide +kernel)) (fun _ => ?_)⟩
      refine ⟨_, rfl, two_le, fun t1 ht1 => ⟨t1, _, rfl, .inr (SqT.of upd_same), rfl, rfl, _, rfl, iteBB (fun hc => absurd hc (by decide +kernel)) (fun _ => ?_)⟩⟩
      refine ⟨_, rfl, two_le, fun t2 ht2 => ⟨t2, _, rfl, .inr (SqT.of upd_same), rfl, rfl, _, rfl, iteBB (fun hc => absurd hc (by decide +kernel)) (fun _ => ?_)⟩⟩
      refine ⟨_, rfl, rfl, _, rfl, iteBB (fun hc => absurd hc (by decide +kernel)) (fun _ => ?_)⟩
      refine ⟨_, rfl, rfl, _, rfl, iteBB (fun hc => absurd hc (by decide +kernel)) (fun _ => ?_)⟩
      have S2 := (Same.upd (o := .tup [.str "op", .str "bind"]) ht1).updR (o := .tup [.str "rest", .str "field"]) ht2
      exact ⟨Nat.zero_le _, fun l hl => k l _ (S2.updR hl) (S2.free hl) ⟨[], upd_same, .nil⟩⟩
    | name x =>
      obtain ⟨r, vs, rfl, sv, dv⟩ := hv.un
      obtain ⟨v0, v1, rfl, h0, h1⟩ := dv.two
      rw [h0.str_eq] at sv
      refine ⟨_, rfl, r, _, 0, .str "name", rfl, rfl, sv, rfl, ?_⟩
      refine ⟨_, rfl, rfl, _, rfl, iteBB (fun hc => absurd hc (by decide +kernel)) (fun _ => ?_)⟩
      refine ⟨_, rfl, two_le, fun t1 ht1 => ⟨t1, _, rfl, .inr (SqT.of upd_same), rfl, rfl, _, rfl, iteBB (fun hc => absurd hc (by decide +kernel)) (fun _ => ?_)⟩⟩
      refine ⟨_, rfl, two_le, fun t2 ht2 => ⟨t2, _, rfl, .inr (SqT.of upd_same), rfl, rfl, _, rfl, iteBB (fun hc => absurd hc (by decide +kernel)) (fun _ => ?_)⟩⟩
      refine ⟨_, rfl, rfl, _, rfl, iteBB (fun hc => absurd hc (by decide +kernel)) (fun _ => ?_)⟩
      refine ⟨_, rfl, rfl, _, rfl, iteBB (fun hc => absurd hc (by decide +kernel)) (fun _ => ?_)⟩
      have S2 := (Same.upd (o := .tup [.str "op", .str "bind"]) ht1).updR (o := .tup [.str "rest", .str "field"]) ht2
      exact ⟨Nat.zero_le _, fun l hl => k l _ (S2.updR hl) (S2.free hl) ⟨[], upd_same, .nil⟩⟩
    | slot x =>
      obtain ⟨r, vs, rfl, sv, dv⟩ := hv.un
      obtain ⟨v0, v1, rfl, h0, h1⟩ := dv.two
      rw [h0.str_eq] at sv
      refine ⟨_, rfl, r, _, 0, .str "slot", rfl, rfl, sv, rfl, ?_⟩
      refine ⟨_, rfl, rfl, _, rfl, iteBB (fun hc => absurd hc (by decide +kernel)) (fun _ => ?_)⟩
      refine ⟨_, rfl, two_le, fun t1 ht1 => ⟨t1, _, rfl, .inr (SqT.of upd_same), rfl, rfl, _, rfl, iteBB (fun hc => absurd hc (by decide +kernel)) (fun _ => ?_)⟩⟩
      refine ⟨_, rfl, two_le, fun t2 ht2 => ⟨t2, _, rfl, .inr (SqT.of upd_same), rfl, rfl, _, rfl, iteBB (fun hc => absurd hc (by decide +kernel)) (fun _ => ?_)⟩⟩
      refine ⟨_, rfl, rfl, _, rfl, iteBB (fun hc => absurd hc (by decide +kernel)) (fun _ => ?_)⟩
      refine ⟨_, rfl, rfl, _, rfl, iteBB (fun hc => absurd hc (by decide +kernel)) (fun _ => ?_)⟩
      have S2 := (Same.upd (o := .tup [.str "op", .str "bind"]) ht1).updR (o := .tup [.str "rest", .str "field"]) ht2
      exact ⟨Nat.zero_le _, fun l hl => k l _ (S2.updR hl) (S2.free hl) ⟨[], upd_same, .nil⟩⟩
    | draw x =>
      obtain ⟨r, vs, rfl, sv, dv⟩ := hv.un
      obtain ⟨v0, v1, rfl, h0, h1⟩ := dv.two
      rw [h0.str_eq] at sv
      refine ⟨_, rfl, r, _, 0, .str "draw", rfl, rfl, sv, rfl, ?_⟩
      refine ⟨_, rfl, rfl, _, rfl, iteBB (fun hc => absurd hc (by decide +kernel)) (fun _ => ?_)⟩
      refine ⟨_, rfl, two_le, fun t1 ht1 => ⟨t1, _, rfl, .inr (SqT.of upd_same), rfl, rfl, _, rfl, iteBB (fun hc => absurd hc (by decide +kernel)) (fun _ => ?_)⟩⟩
      refine ⟨_, rfl, two_le, fun t2 ht2 => ⟨t2, _, rfl, .inr (SqT.of upd_same), rfl, rfl, _, rfl, iteBB (fun hc => absurd hc (by decide +kernel)) (fun _ => ?_)⟩⟩
      refine ⟨_, rfl, rfl, _, rfl, iteBB (fun hc => absurd hc (by decide +kernel)) (fun _ => ?_)⟩
      refine ⟨_, rfl, rfl, _, rfl, iteBB (fun hc => absurd hc (by decide +kernel)) (fun _ => ?_)⟩
      have S2 := (Same.upd (o := .tup [.str "op", .str "bind"]) ht1).updR (o := .tup [.str "rest", .str "field"]) ht2
      exact ⟨Nat.zero_le _, fun l hl => k l _ (S2.updR hl) (S2.free hl) ⟨[], upd_same, .nil⟩⟩
    | pick x =>
      obtain ⟨r, vs, rfl, sv, dv⟩ := hv.un
      obtain ⟨v0, v1, rfl, h0, h1⟩ := dv.two
      rw [h0.str_eq] at sv
      refine ⟨_, rfl, r, _, 0, .str "pick", rfl, rfl, sv, rfl, ?_⟩
      refine ⟨_, rfl, rfl, _, rfl, iteBB (fun hc => absurd hc (by decide +kernel)) (fun _ => ?_)⟩
      refine ⟨_, rfl, two_le, fun t1 ht1 => ⟨t1, _, rfl, .inr (SqT.of upd_same), rfl, rfl, _, rfl, iteBB (fun hc => absurd hc (by decide +kernel)) (fun _ => ?_)⟩⟩
      refine ⟨_, rfl, two_le, fun t2 ht2 => ⟨t2, _, rfl, .inr (SqT.of upd_same), rfl, rfl, _, rfl, iteBB (fun hc => absurd hc (by decide +kernel)) (fun _ => ?_)⟩⟩
      refine ⟨_, rfl, rfl, _, rfl, iteBB (fun hc => absurd hc (by decide +kernel)) (fun _ => ?_)⟩
      refine ⟨_, rfl, rfl, _, rfl, iteBB (fun hc => absurd hc (by decide +kernel)) (fun _ => ?_)⟩
      have S2 := (Same.upd (o := .tup [.str "op", .str "bind"]) ht1).updR (o := .tup [.str "rest", .str "field"]) ht2
      exact ⟨Nat.zero_le _, fun l hl => k l _ (S2.updR hl) (S2.free hl) ⟨[], upd_same, .nil⟩⟩
    | flip x y =>
      obtain ⟨r, vs, rfl, sv, dv⟩ := hv.un
      obtain ⟨v0, v1, v2, rfl, h0, h1, h2⟩ := dats3 dv
      rw [h0.str_eq] at sv
      refine ⟨_, rfl, r, _, 0, .str "flip", rfl, rfl, sv, rfl, ?_⟩
      refine ⟨_, rfl, rfl, _, rfl, iteBB (fun hc => absurd hc (by decide +kernel)) (fun _ => ?_)⟩
      refine ⟨_, rfl, two_le, fun t1 ht1 => ⟨t1, _, rfl, .inr (SqT.of upd_same), rfl, rfl, _, rfl, iteBB (fun hc => absurd hc (by decide +kernel)) (fun _ => ?_)⟩⟩
      refine ⟨_, rfl, two_le, fun t2 ht2 => ⟨t2, _, rfl, .inr (SqT.of upd_same), rfl, rfl, _, rfl, iteBB (fun hc => absurd hc (by decide +kernel)) (fun _ => ?_)⟩⟩
      refine ⟨_, rfl, rfl, _, rfl, iteBB (fun hc => absurd hc (by decide +kernel)) (fun _ => ?_)⟩
      refine ⟨_, rfl, rfl, _, rfl, iteBB (fun hc => absurd hc (by decide +kernel)) (fun _ => ?_)⟩
      have S2 := (Same.upd (o := .tup [.str "op", .str "bind"]) ht1).updR (o := .tup [.str "rest", .str "field"]) ht2
      exact ⟨Nat.zero_le _, fun l hl => k l _ (S2.updR hl) (S2.free hl) ⟨[], upd_same, .nil⟩⟩
    | ite a b c =>
      obtain ⟨r, vs, rfl, sv, dv⟩ := hv.un
      obtain ⟨v0, v1, v2, v3, rfl, h0, h1, h2, h3⟩ := dats4 dv
      rw [h0.str_eq] at sv
      refine ⟨_, rfl, r, _, 0, .str "if", rfl, rfl, sv, rfl, ?_⟩
      refine ⟨_, rfl, rfl, _, rfl, iteBB (fun _ => ?_) (fun hc => absurd hc (by decide +kernel))⟩
      refine ⟨_, rfl, r, _, 1, v1, rfl, rfl, sv, rfl, _, rfl, r, _, 2, v2, rfl, rfl, sv, rfl, _, rfl, r, _, 3, v3, rfl, rfl, sv, rfl, t3, fun l hl => ?_⟩
      exact k l _ (.upd hl) hl ⟨[v1, v2, v3], upd_same, .cons (h1.same (.upd hl)) (.cons (h2.same (.upd hl)) (.cons (h3.same (.upd hl)) .nil))⟩
    | rest d x =>
      obtain ⟨r, vs, rfl, sv, dv⟩ := hv.un
      obtain ⟨v0, v1, v2, rfl, h0, h1, h2⟩ := dats3 dv
      rw [h0.str_eq] at sv
      refine ⟨_, rfl, r, _, 0, .str "rest", rfl, rfl, sv, rfl, ?_⟩
      refine ⟨_, rfl, rfl, _, rfl, iteBB (fun hc => absurd hc (by decide +kernel)) (fun _ => ?_)⟩
      refine ⟨_, rfl, two_le, fun t1 ht1 => ⟨t1, _, rfl, .inr (SqT.of upd_same), rfl, rfl, _, rfl, iteBB (fun hc => absurd hc (by decide +kernel)) (fun _ => ?_)⟩⟩
      refine ⟨_, rfl, two_le, fun t2 ht2 => ⟨t2, _, rfl, .inr (SqT.of upd_same), rfl, rfl, _, rfl, iteBB (fun _ => ?_) (fun hc => absurd hc (by decide +kernel))⟩⟩
      have S2 := (Same.upd (o := .tup [.str "op", .str "bind"]) ht1).updR (o := .tup [.str "rest", .str "field"]) ht2
      refine ⟨_, rfl, r, _, 1, v1, rfl, rfl, S2.tup sv, rfl, (by show 1 ≤ sizeLine; decide), fun l hl => ?_⟩
      exact k l _ (S2.updR hl) (S2.free hl) ⟨[v1], upd_same, .cons (h1.same (S2.updR hl)) .nil⟩
    | field d x =>
      obtain ⟨r, vs, rfl, sv, dv⟩ := hv.un
      obtain ⟨v0, v1, v2, rfl, h0, h1, h2⟩ := dats3 dv
      rw [h0.str_eq] at sv
      refine ⟨_, rfl, r, _, 0, .str "field", rfl, rfl, sv, rfl, ?_⟩
      refine ⟨_, rfl, rfl, _, rfl, iteBB (fun hc => absurd hc (by decide +kernel)) (fun _ => ?_)⟩
      refine ⟨_, rfl, two_le, fun t1 ht1 => ⟨t1, _, rfl, .inr (SqT.of upd_same), rfl, rfl, _, rfl, iteBB (fun hc => absurd hc (by decide +kernel)) (fun _ => ?_)⟩⟩
      refine ⟨_, rfl, two_le, fun t2 ht2 => ⟨t2, _, rfl, .inr (SqT.of upd_same), rfl, rfl, _, rfl, iteBB (fun _ => ?_) (fun hc => absurd hc (by decide +kernel))⟩⟩
      have S2 := (Same.upd (o := .tup [.str "op", .str "bind"]) ht1).updR (o := .tup [.str "rest", .str "field"]) ht2
      refine ⟨_, rfl, r, _, 1, v1, rfl, rfl, S2.tup sv, rfl, (by show 1 ≤ sizeLine; decide), fun l hl => ?_⟩
      exact k l _ (S2.updR hl) (S2.free hl) ⟨[v1], upd_same, .cons (h1.same (S2.updR hl)) .nil⟩
    | op x a b =>
      obtain ⟨r, vs, rfl, sv, dv⟩ := hv.un
      obtain ⟨v0, v1, v2, v3, rfl, h0, h1, h2, h3⟩ := dats4 dv
      rw [h0.str_eq] at sv
      refine ⟨_, rfl, r, _, 0, .str "op", rfl, rfl, sv, rfl, ?_⟩
      refine ⟨_, rfl, rfl, _, rfl, iteBB (fun hc => absurd hc (by decide +kernel)) (fun _ => ?_)⟩
      refine ⟨_, rfl, two_le, fun t1 ht1 => ⟨t1, _, rfl, .inr (SqT.of upd_same), rfl, rfl, _, rfl, iteBB (fun _ => ?_) (fun hc => absurd hc (by decide +kernel))⟩⟩
      have S2 := Same.upd (o := .tup [.str "op", .str "bind"]) ht1
      refine ⟨_, rfl, r, _, 2, v2, rfl, rfl, S2.tup sv, rfl, _, rfl, r, _, 3, v3, rfl, rfl, S2.tup sv, rfl, two_le, fun l hl => ?_⟩
      exact k l _ (S2.updR hl) (S2.free hl) ⟨[v2, v3], upd_same, .cons (h2.same (S2.updR hl)) (.cons (h3.same (S2.updR hl)) .nil)⟩
    | bind x a b =>
      obtain ⟨r, vs, rfl, sv, dv⟩ := hv.un
      obtain ⟨v0, v1, v2, v3, rfl, h0, h1, h2, h3⟩ := dats4 dv
      rw [h0.str_eq] at sv
      refine ⟨_, rfl, r, _, 0, .str "bind", rfl, rfl, sv, rfl, ?_⟩
      refine ⟨_, rfl, rfl, _, rfl, iteBB (fun hc => absurd hc (by decide +kernel)) (fun _ => ?_)⟩
      refine ⟨_, rfl, two_le, fun t1 ht1 => ⟨t1, _, rfl, .inr (SqT.of upd_same), rfl, rfl, _, rfl, iteBB (fun _ => ?_) (fun hc => absurd hc (by decide +kernel))⟩⟩
      have S2 := Same.upd (o := .tup [.str "op", .str "bind"]) ht1
      refine ⟨_, rfl, r, _, 2, v2, rfl, rfl, S2.tup sv, rfl, _, rfl, r, _, 3, v3, rfl, rfl, S2.tup sv, rfl, two_le, fun l hl => ?_⟩
      exact k l _ (S2.updR hl) (S2.free hl) ⟨[v2, v3], upd_same, .cons (h2.same (S2.updR hl)) (.cons (h3.same (S2.updR hl)) .nil)⟩
    | record fs hfs =>
      obtain ⟨r, vs, rfl, sv, dv⟩ := hv.un
      obtain ⟨v0, v1, rfl, h0, h1⟩ := dv.two
      rw [h0.str_eq] at sv
      refine ⟨_, rfl, r, _, 0, .str "record", rfl, rfl, sv, rfl, ?_⟩
      refine ⟨_, rfl, rfl, _, rfl, iteBB (fun hc => absurd hc (by decide +kernel)) (fun _ => ?_)⟩
      refine ⟨_, rfl, two_le, fun t1 ht1 => ⟨t1, _, rfl, .inr (SqT.of upd_same), rfl, rfl, _, rfl, iteBB (fun hc => absurd hc (by decide +kernel)) (fun _ => ?_)⟩⟩
      refine ⟨_, rfl, two_le, fun t2 ht2 => ⟨t2, _, rfl, .inr (SqT.of upd_same), rfl, rfl, _, rfl, iteBB (fun hc => absurd hc (by decide +kernel)) (fun _ => ?_)⟩⟩
      refine ⟨_, rfl, rfl, _, rfl, iteBB (fun _ => ?_) (fun hc => absurd hc (by decide +kernel))⟩
      have S2 := (Same.upd (o := .tup [.str "op", .str "bind"]) ht1).updR (o := .tup [.str "rest", .str "field"]) ht2
      obtain ⟨q, ws, rfl, sq, dq⟩ := h1.un
      have lq := dq.length
      rw [List.length_map] at lq
      generalize upd (upd H t1 (.tup [.str "op", .str "bind"])) t2 (.tup [.str "rest", .str "field"]) = H2 at S2
      refine ⟨_, rfl, r, _, 1, .ref q, rfl, rfl, S2.tup sv, rfl, q, rfl, ⟨_, S2.tup sq⟩, fun D hD => ?_⟩
      refine comp_tup (K := K) (a := q) (D := D) (xs := ws) (fun i σ ys H' => (∃ o1 o2, σ = [o1, o2]) ∧ Same H2 H' ∧ H' D = some (.lst ys) ∧ DatsAt K H' ys ((fs.take i).map (·.2)))
        ⟨⟨none, none, rfl⟩, .upd hD, upd_same, .nil⟩ ?_ ?_ ?_
      · rintro i σ ys H' hi ⟨_, S3, eD, hy⟩
        have := hy.length
        rw [List.length_map, List.length_take] at this
        exact ⟨(S2.trans S3).tup sq, eD, Nat.lt_of_le_of_lt (show ys.length ≤ 6 by omega) (by decide)⟩
      · rintro i x σ ys H' hx ⟨⟨o1, o2, rfl⟩, S3, eD, hy⟩ N hN
        obtain ⟨d, ed, hxd⟩ := (dq.same (S2.trans S3)).get' hx
        obtain ⟨p, ep, rfl⟩ := map_get ed
        obtain ⟨q1, va, vb, rfl, g1, g2, g3⟩ := DatAt.pr hxd
        refine ⟨q1, _, rfl, g1, rfl, _, _, rfl, _, _, rfl, rfl, ?_⟩
        refine iteT (B := True) ?_
        refine ⟨_, rfl, eD, hN _ _ _ ?_⟩
        obtain ⟨w1, w2, w3⟩ := snoc_ok (v := vb) (d := p.2) hD S3 eD hy g3
        refine ⟨⟨_, _, rfl⟩, w1, w2, ?_⟩
        rw [take_snoc' ep, List.map_append]
        exact w3
      · rintro σ ys H' ⟨_, S3, eD, hy⟩
        rw [List.take_of_length_le (by omega)] at hy
        exact k D H' (S2.trans S3) (S2.free hD) ⟨ys, eD, hy⟩
theorem ok_draw_of {f : Addr} {fd : FuncData} (A : FnAt K mg "draw_of" s_draw_of ["term"] f fd) (T : Bl mg) : FnOk P w K mg base CX0 1 f fd ["term"] (sp_draw_of K) := by
  refine A.F.ok sc_draw_of (fun vs H Q E h => ?_) (fun cdv Ar outer s H vs Q E hr h => ?_)
  · obtain ⟨v, t, ps, rfl, _⟩ := h
    rfl
  · obtain ⟨v, t, ps, rfl, hv, hd, k⟩ := h
    refine ⟨_, (pss_cons (ps_if (pt_cmpR op_eq (pe_ix ix_tup (pv 0) pe_int (fun _ _ => rfl)) pe_str (nomark _)) (pss_one (ps_ret (pe_lst (pa_cons (pe_tup (pa_cons pe_int (pa_cons (pe_op op_sub (pe_ix ix_tup (pv 0) pe_int (fun _ _ => rfl)) (pe_ix ix_tup (pv 0) pe_int (fun _ _ => rfl))) pa_nil))) (pa_cons (pe_tup (pa_cons pe_int (pa_cons (pe_ix ix_tup (pv 0) pe_int (fun _ _ => rfl)) pa_nil))) pa_nil))))) pss_nil)
      (pss_one (ps_ret (pe_callTy call_list_of (by rfl) T.list_ Boot.«list» (pa_cons (pe_ix ix_tup (pv 0) pe_int (fun _ _ => rfl)) pa_nil))))), ?_⟩
    cases hd with
    | flip a b =>
      obtain ⟨r, vs, rfl, sv, dv⟩ := hv.un
      obtain ⟨v0, v1, v2, rfl, h0, h1, h2⟩ := dats3 dv
      rw [h0.str_eq, h1.int_eq, h2.int_eq] at sv
      refine ⟨_, rfl, r, _, 0, .str "flip", rfl, rfl, sv, rfl, ?_⟩
      refine ⟨rfl, _, rfl, iteBB (fun _ => ?_) (fun hc => absurd hc (by decide +kernel))⟩
      refine ⟨_, rfl, r, _, 2, .int b, rfl, rfl, sv, rfl, _, rfl, r, _, 1, .int a, rfl, rfl, sv, rfl, _, _, rfl, rfl, two_le, fun ta hta => ?_⟩
      have S1 := Same.upd (o := .tup [.int 0, .int (b - a)]) hta
      have da : DatAt K (upd H ta (.tup [.int 0, .int (b - a)])) (.ref ta) (pI (0, b - a)) := .tup (SqT.of upd_same) (.cons (.int _) (.cons (.int _) .nil))
      generalize upd H ta (.tup [.int 0, .int (b - a)]) = H1 at S1 da
      refine ⟨_, rfl, r, _, 1, .int a, rfl, rfl, S1.tup sv, rfl, two_le, fun tb htb => ?_⟩
      have S2 := Same.upd (o := .tup [.int 1, .int a]) htb
      have db : DatAt K (upd H1 tb (.tup [.int 1, .int a])) (.ref tb) (pI (1, a)) := .tup (SqT.of upd_same) (.cons (.int _) (.cons (.int _) .nil))
      generalize upd H1 tb (.tup [.int 1, .int a]) = H2 at S2 db
      refine ⟨two_le, fun l hl => ?_⟩
      have S3 := Same.upd (o := .lst [.ref ta, .ref tb]) hl
      exact k l _ (S1.trans (S2.trans S3)) ((S1.trans S2).free hl) ⟨_, upd_same, .cons (da.same (S2.trans S3)) (.cons (db.same S3) .nil)⟩
    | pick ps =>
      obtain ⟨r, vs, rfl, sv, dv⟩ := hv.un
      obtain ⟨v0, v1, rfl, h0, h1⟩ := dv.two
      rw [h0.str_eq] at sv
      obtain ⟨q, ws, rfl, sq, dq⟩ := h1.un
      refine ⟨_, rfl, r, _, 0, .str "pick", rfl, rfl, sv, rfl, ?_⟩
      refine ⟨rfl, _, rfl, iteBB (fun hc => absurd hc (by decide +kernel)) (fun _ => ?_)⟩
      refine ⟨_, rfl, r, _, 1, .ref q, rfl, rfl, sv, rfl, q, ws, rfl, .inr sq, fun l hl => ?_⟩
      exact k l _ (.upd hl) hl ⟨_, upd_same, dq.same (.upd hl)⟩
end
end K22
namespace K22
open PySem L2 FW PyProof.Rows
section
variable {P : Program} {w : World} {K : PySem.W.Frag} {mg : Str → Option Value} {base : Heap}
theorem ok_with_parts {f : Addr} {fd : FuncData} (A : FnAt K mg "with_parts" s_with_parts ["term", "parts"] f fd) (T : Bl mg) : FnOk P w K mg base CX0 1 f fd ["term", "parts"] (sp_with K) := by
  refine A.F.ok sc_with_parts (fun vs H Q E h => ?_) (fun cdv Ar outer s H vs Q E hr h => ?_)
  · obtain ⟨v, l, t, xs, t', rfl, _⟩ := h
    rfl
  · obtain ⟨v, l, t, xs, t', rfl, hv, ⟨us, el, du⟩, hw, k⟩ := h
    refine ⟨_, (pss_cons (ps_set (i := 2) sc_with_parts.nd rfl (Or.inl rfl) (pe_ix ix_tup (pv 0) pe_int (fun _ _ => rfl)))
      (pss_cons (ps_if (pt_cmpR op_eq (pv 2) pe_str (nomark _)) (pss_one (ps_ret (pe_tup (pa_cons pe_str (pa_cons (pe_ix ix_list (pv 1) pe_int (fun _ _ => rfl)) (pa_cons (pe_ix ix_list (pv 1) pe_int (fun _ _ => rfl)) (pa_cons (pe_ix ix_list (pv 1) pe_int (fun _ _ => rfl)) pa_nil))))))) pss_nil)
      (pss_cons (ps_if (pt_cmpR op_eq (pv 2) pe_str (nomark _)) (pss_one (ps_ret (pe_tup (pa_cons pe_str (pa_cons (pe_ix ix_tup (pv 0) pe_int (fun _ _ => rfl)) (pa_cons (pe_ix ix_list (pv 1) pe_int (fun _ _ => rfl)) (pa_cons (pe_ix ix_list (pv 1) pe_int (fun _ _ => rfl)) pa_nil))))))) pss_nil)
      (pss_cons (ps_if (pt_cmpR op_eq (pv 2) pe_str (nomark _)) (pss_one (ps_ret (pe_tup (pa_cons pe_str (pa_cons (pe_callTy call_tuple_of (by rfl) T.tuple_ Boot.«tuple» (pa_cons (pe_comp rfl (Nc := ["field", "part"]) (caps0 rfl (by decide +kernel) (by decide +kernel) (by decide +kernel)) (pi_zipM rfl T.zip_ (pa_cons (pe_ix ix_tup (pv 0) pe_int (fun _ _ => rfl)) (pa_cons (pv 1) pa_nil))) (fun _ _ _ _ => by exact (pg_tupK (K := K) (n := 2) rfl rfl (pgs_cons (pg_name (i := 0) (show List.Nodup (["field", "part"] : List Str) by decide +kernel) rfl (Or.inl rfl)) (pgs_cons (pg_name (i := 1) (show List.Nodup (["field", "part"] : List Str) by decide +kernel) rfl (Or.inl rfl)) pgs_nil)))) (fun _ _ _ _ => pts_nil) (fun _ _ _ _ => by exact (pe_tup (pa_cons (pe_ix (ix_tupK (K := K) rfl) (pv 0) pe_int (fun _ _ => rfl)) (pa_cons (pv 1) pa_nil))))) pa_nil)) pa_nil))))) pss_nil)
      (pss_one (ps_ret (pe_tup (pa_cons (pv 2) (pa_cons (pe_ix ix_list (pv 1) pe_int (fun _ _ => rfl)) (pa_cons (pe_ix ix_tup (pv 0) pe_int (fun _ _ => rfl)) pa_nil)))))))))), ?_⟩
    cases hw with
    | ite a b c x y z =>
      obtain ⟨r, vs, rfl, sv, dv⟩ := hv.un
      obtain ⟨v0, v1, v2, v3, rfl, h0, h1, h2, h3⟩ := dats4 dv
      rw [h0.str_eq] at sv
      obtain ⟨u0, u1, u2, rfl, g0, g1, g2⟩ := dats3 du
      refine ⟨_, rfl, r, _, 0, .str "if", rfl, rfl, sv, rfl, ?_⟩
      refine ⟨_, rfl, rfl, _, rfl, iteBB (fun _ => ?_) (fun hc => absurd hc (by decide +kernel))⟩
      exact ⟨_, rfl, l, _, 0, u0, rfl, rfl, SqL.of el, rfl, _, rfl, l, _, 1, u1, rfl, rfl, SqL.of el, rfl, _, rfl, l, _, 2, u2, rfl, rfl, SqL.of el, rfl, t4, fun q hq => k _ _ (.upd hq) (.tup (SqT.of upd_same) (.cons (.str _) (.cons (g0.same (.upd hq)) (.cons (g1.same (.upd hq)) (.cons (g2.same (.upd hq)) .nil)))))⟩
    | op sg a b x y =>
      obtain ⟨r, vs, rfl, sv, dv⟩ := hv.un
      obtain ⟨v0, v1, v2, v3, rfl, h0, h1, h2, h3⟩ := dats4 dv
      rw [h0.str_eq, h1.str_eq] at sv
      obtain ⟨u0, u1, rfl, g0, g1⟩ := du.two
      refine ⟨_, rfl, r, _, 0, .str "op", rfl, rfl, sv, rfl, ?_⟩
      refine ⟨_, rfl, rfl, _, rfl, iteBB (fun hc => absurd hc (by decide +kernel)) (fun _ => ?_)⟩
      refine ⟨_, rfl, rfl, _, rfl, iteBB (fun _ => ?_) (fun hc => absurd hc (by decide +kernel))⟩
      exact ⟨_, rfl, r, _, 1, .str sg, rfl, rfl, sv, rfl, _, rfl, l, _, 0, u0, rfl, rfl, SqL.of el, rfl, _, rfl, l, _, 1, u1, rfl, rfl, SqL.of el, rfl, t4, fun q hq => k _ _ (.upd hq) (.tup (SqT.of upd_same) (.cons (.str _) (.cons (.str _) (.cons (g0.same (.upd hq)) (.cons (g1.same (.upd hq)) .nil)))))⟩
    | rest a n x =>
      obtain ⟨r, vs, rfl, sv, dv⟩ := hv.un
      obtain ⟨v0, v1, v2, rfl, h0, h1, h2⟩ := dats3 dv
      rw [h0.str_eq] at sv
      obtain ⟨u0, ur, rfl, g0, hn0⟩ := du.un
      have := hn0.un0
      subst this
      refine ⟨_, rfl, r, _, 0, .str "rest", rfl, rfl, sv, rfl, ?_⟩
      refine ⟨_, rfl, rfl, _, rfl, iteBB (fun hc => absurd hc (by decide +kernel)) (fun _ => ?_)⟩
      refine ⟨_, rfl, rfl, _, rfl, iteBB (fun hc => absurd hc (by decide +kernel)) (fun _ => ?_)⟩
      refine ⟨_, rfl, rfl, _, rfl, iteBB (fun hc => absurd hc (by decide +kernel)) (fun _ => ?_)⟩
      exact ⟨_, rfl, _, rfl, l, _, 0, u0, rfl, rfl, SqL.of el, rfl, _, rfl, r, _, 2, v2, rfl, rfl, sv, rfl, t3, fun q hq => k _ _ (.upd hq) (.tup (SqT.of upd_same) (.cons (.str _) (.cons (g0.same (.upd hq)) (.cons (h2.same (.upd hq)) .nil))))⟩
    | field a n x =>
      obtain ⟨r, vs, rfl, sv, dv⟩ := hv.un
      obtain ⟨v0, v1, v2, rfl, h0, h1, h2⟩ := dats3 dv
      rw [h0.str_eq] at sv
      obtain ⟨u0, ur, rfl, g0, hn0⟩ := du.un
      have := hn0.un0
      subst this
      refine ⟨_, rfl, r, _, 0, .str "field", rfl, rfl, sv, rfl, ?_⟩
      refine ⟨_, rfl, rfl, _, rfl, iteBB (fun hc => absurd hc (by decide +kernel)) (fun _ => ?_)⟩
      refine ⟨_, rfl, rfl, _, rfl, iteBB (fun hc => absurd hc (by decide +kernel)) (fun _ => ?_)⟩
      refine ⟨_, rfl, rfl, _, rfl, iteBB (fun hc => absurd hc (by decide +kernel)) (fun _ => ?_)⟩
      exact ⟨_, rfl, _, rfl, l, _, 0, u0, rfl, rfl, SqL.of el, rfl, _, rfl, r, _, 2, v2, rfl, rfl, sv, rfl, t3, fun q hq => k _ _ (.upd hq) (.tup (SqT.of upd_same) (.cons (.str _) (.cons (g0.same (.upd hq)) (.cons (h2.same (.upd hq)) .nil))))⟩
    | record fs _ hl h6 =>
      obtain ⟨r, vs, rfl, sv, dv⟩ := hv.un
      obtain ⟨v0, v1, rfl, h0, h1⟩ := dv.two
      rw [h0.str_eq] at sv
      obtain ⟨q, ws, rfl, sq, dq⟩ := h1.un
      have lw := dq.length
      rw [List.length_map, List.length_map] at lw
      have lu := du.length
      refine ⟨_, rfl, r, _, 0, .str "record", rfl, rfl, sv, rfl, ?_⟩
      refine ⟨_, rfl, rfl, _, rfl, iteBB (fun hc => absurd hc (by decide +kernel)) (fun _ => ?_)⟩
      refine ⟨_, rfl, rfl, _, rfl, iteBB (fun hc => absurd hc (by decide +kernel)) (fun _ => ?_)⟩
      refine ⟨_, rfl, rfl, _, rfl, iteBB (fun _ => ?_) (fun hc => absurd hc (by decide +kernel))⟩
      have lp : ((fs.map (·.1)).zip xs).length = fs.length := by rw [List.length_zip, List.length_map]; omega
      refine ⟨_, rfl, r, _, 1, .ref q, rfl, rfl, sv, rfl, _, rfl, q, l, rfl, ⟨_, sq⟩, ⟨_, SqL.of el⟩, fun D hD => ?_⟩
      refine comp_zipM (K := K) (a := q) (b := l) (D := D) (xs := ws) (ys := us) (fun i σ zs H' => (∃ o1 o2, σ = [o1, o2]) ∧ Same H H' ∧ H' D = some (.lst zs) ∧ DatsAt K H' zs (((((fs.map (·.1)).zip xs).take i).map prS).map prD))
        ⟨⟨none, none, rfl⟩, .upd hD, upd_same, .nil⟩ ?_ ?_ ?_
      · rintro i σ zs H' hi ⟨_, S2, eD, hz⟩
        have := hz.length
        rw [List.length_map, List.length_map, List.length_take] at this
        exact ⟨S2.tup sq, SqL.of (S2 _ _ el), eD, Nat.lt_of_le_of_lt (show zs.length ≤ 6 by omega) (by decide)⟩
      · rintro i x y σ zs H' pt hx hy ⟨⟨o1, o2, rfl⟩, S2, eD, hz⟩ hpt N hN
        have S3 := Same.upd (o := .tup [x, y]) hpt
        have e3 : (upd H' pt (.tup [x, y])) pt = some (.tup [x, y]) := upd_same
        generalize upd H' pt (.tup [x, y]) = H3 at S3 e3
        have S23 := S2.trans S3
        obtain ⟨d1, ed1, hx1⟩ := (dq.same S23).get' hx
        obtain ⟨p1, ep1, rfl⟩ := map_get ed1
        obtain ⟨f1, ef1, rfl⟩ := map_get ep1
        obtain ⟨d2, ed2, hy2⟩ := (du.same S23).get' hy
        obtain ⟨rf, vn, vt, rfl, sf, hn1, ht1⟩ := DatAt.pr hx1
        have hn1' : vn = .str f1.1 := DatAt.str_eq hn1
        subst hn1'
        refine ⟨pt, _, rfl, SqT.of e3, rfl, _, _, rfl, _, _, rfl, rfl, ?_⟩
        refine iteT (B := True) ?_
        refine ⟨_, rfl, rf, _, 0, .str f1.1, rfl, rfl, sf, rfl, _, rfl, two_le, fun t ht => ?_⟩
        have S4 := Same.upd (o := .tup [.str f1.1, y]) ht
        have e4 : (upd H3 t (.tup [.str f1.1, y])) t = some (.tup [.str f1.1, y]) := upd_same
        have eD4 := (S3.trans S4) _ _ eD
        refine ⟨eD4, hN _ _ _ ?_⟩
        obtain ⟨w1, w2, w3⟩ := snoc_ok (v := .ref t) (d := prD (prS (f1.1, d2))) hD (S23.trans S4) eD4 (hz.same (S3.trans S4)) (.tup (SqT.of e4) (.cons (.str _) (.cons (hy2.same S4) .nil)))
        refine ⟨⟨_, _, rfl⟩, w1, w2, ?_⟩
        have ez : ((fs.map (·.1)).zip xs)[i]? = some (f1.1, d2) := by
          rw [List.getElem?_zip_eq_some]
          exact ⟨by rw [List.getElem?_map, ef1]; rfl, ed2⟩
        rw [take_snoc' ez, List.map_append, List.map_append]
        exact w3
      · rintro σ zs H' ⟨_, S2, eD, hz⟩
        rw [List.take_of_length_le (by omega)] at hz
        refine ⟨D, zs, rfl, .inl ⟨SqL.of eD, fun t ht => ?_⟩⟩
        have S3 := Same.upd (o := .tup zs) ht
        have e3 : (upd H' t (.tup zs)) t = some (.tup zs) := upd_same
        generalize upd H' t (.tup zs) = H3 at S3 e3
        refine ⟨two_le, fun t2 ht2 => ?_⟩
        exact k _ _ (S2.trans (S3.updR ht2)) (.tup (SqT.of upd_same) (.cons (.str _) (.cons (.tup (SqT.of (Same.upd ht2 _ _ e3)) (hz.same (S3.updR ht2))) .nil)))
end
end K22
namespace K22
open PySem L2 FW PyProof.Rows
mutual
/-- a term opened: e the names' slots, k the draws ahead; what comes of it, its draws, how many terms it is -/
inductive Ot (e : List (Key × V)) : Nat → Dt → Nat → Dt → List (List (Int × Int)) → Nat → Prop
  | num {h : Nat} (x : Dt) (k : Nat) : Ot e (h + 1) (.tup [.str "num", x]) k (.tup [.str "num", x]) [] 1
  | name {h : Nat} (nm : Str) (s : Int) (k : Nat) (hv : valV e (Sum.inr nm) = some (.int s)) : Ot e (h + 1) (.tup [.str "name", .str nm]) k (.tup [.str "slot", .int s]) [] 1
  | draw {h : Nat} (t : Dt) (ps : List (Int × Int)) (k : Nat) (hd : Dr t ps) : Ot e (h + 1) t k (.tup [.str "draw", .int (k : Int)]) [ps] 1
  | node {h : Nat} (t : Dt) (ds : List Dt) (t' : Dt) (ds' : List Dt) (k : Nat) (ws : List (List (Int × Int))) (c : Nat) (hp : Pt t ds) (hs : Ots e h ds k ds' ws c) (hw : Wp t ds' t') : Ot e (h + 1) t k t' ws (c + 1)
inductive Ots (e : List (Key × V)) : Nat → List Dt → Nat → List Dt → List (List (Int × Int)) → Nat → Prop
  | nil {h : Nat} (k : Nat) : Ots e h [] k [] [] 0
  | cons {h : Nat} (d d' : Dt) (ds ds' : List Dt) (k : Nat) (w1 w2 : List (List (Int × Int))) (c1 c2 : Nat) (hd : Ot e h d k d' w1 c1) (hs : Ots e h ds (k + w1.length) ds' w2 c2) : Ots e h (d :: ds) k (d' :: ds') (w1 ++ w2) (c1 + c2)
end
theorem Wp.kind {t t' : Dt} {xs : List Dt} (h : Wp t xs t') : ∃ (k : Str) (r : List Dt), t = .tup (.str k :: r) ∧ k ≠ "call" ∧ k ≠ "num" ∧ k ≠ "name" ∧ k ≠ "flip" ∧ k ≠ "pick" := by
  cases h <;> exact ⟨_, _, rfl, by decide +kernel, by decide +kernel, by decide +kernel, by decide +kernel, by decide +kernel⟩
theorem Wp.few {t t' : Dt} {xs : List Dt} (h : Wp t xs t') : xs.length ≤ 6 := by
  cases h <;> first | simp | (rename_i hl h6; omega)
theorem Ots.len {e : List (Key × V)} {h : Nat} : ∀ {ds : List Dt} {k : Nat} {ds' : List Dt} {ws : List (List (Int × Int))} {c : Nat}, Ots e h ds k ds' ws c → ds'.length = ds.length
  | _, _, _, _, _, .nil _ => rfl
  | _, _, _, _, _, .cons _ _ _ _ _ _ _ _ _ _ hs => by rw [List.length_cons, List.length_cons, hs.len]
theorem Ots.un {e : List (Key × V)} {h k c : Nat} {d : Dt} {ds xs : List Dt} {ws : List (List (Int × Int))} (s : Ots e h (d :: ds) k xs ws c) : ∃ d' xs' w1 w2 c1 c2, xs = d' :: xs' ∧ ws = w1 ++ w2 ∧ c = c1 + c2 ∧ Ot e h d k d' w1 c1 ∧ Ots e h ds (k + w1.length) xs' w2 c2 := by
  cases s with
  | cons _ d' _ ds' _ w1 w2 c1 c2 hd hs => exact ⟨d', ds', w1, w2, c1, c2, rfl, rfl, rfl, hd, hs⟩
theorem Ots.un0 {e : List (Key × V)} {h k c : Nat} {xs : List Dt} {ws : List (List (Int × Int))} (s : Ots e h [] k xs ws c) : xs = [] ∧ ws = [] ∧ c = 0 := by
  cases s
  exact ⟨rfl, rfl, rfl⟩
theorem drop_cons {α : Type} {l r : List α} {i : Nat} {a : α} (h : l.drop i = a :: r) : l[i]? = some a ∧ l.drop (i + 1) = r := by
  constructor
  · have := congrArg (fun l => l[0]?) h
    simpa [List.getElem?_drop] using this
  · have := congrArg List.tail h
    simpa [List.tail_drop] using this
theorem ne_dl' {H : Hp} {q b : Addr} {e : List (Key × V)} {us : List V} (hq : H q = some (.dK e)) (hb : H b = some (.lst us)) : q ≠ b := by
  intro z
  subst z
  rw [hq] at hb
  cases hb
def sp_open (K : PySem.W.Frag) (C : Addr) (h : Nat) : Sp := fun vs H Q _ => ∃ (p dx nm : Addr) (v : V) (o : OpS) (t t' : Dt) (e : List (Key × V)) (ps : List (Addr × List Dt)) (ws : List (List (Int × Int))) (c : Nat),
  vs = [.ref p, v, .ref nm] ∧ H p = some (.ins C dx o.fs) ∧ DatAt K H v t ∧ H nm = some (.dK e) ∧ LLM K H o.dr ps ∧ Ot e h t ps.length t' ws c ∧ o.terms + c ≤ 600 ∧ ps.length + ws.length ≤ 60 ∧
  ∀ v' H' ps', BtZ [p, o.dr] H H' → H' p = some (.ins C dx { o with terms := o.terms + c }.fs) → LLM K H' o.dr (ps ++ ps') → ps'.map (·.2) = ws.map (fun d => d.map pI) → (∀ q ∈ ps', H q.1 = none) → DatAt K H' v' t' → Q v' H'
section
variable {P : Program} {w : World} {K : PySem.W.Frag} {mg : Str → Option Value} {base : Heap} {C : Addr} {uS uD : Value}
theorem ntz {H : Hp} {p dr dx : Addr} {fs : List (Str × V)} {xs : List V} (h1 : H p = some (.ins C dx fs)) (h2 : H dr = some (.lst xs)) : NTZ H [p, dr] := fun a ha => by
  rcases List.mem_cons.mp ha with z | z
  · rw [z]; exact .ins h1
  · cases List.mem_singleton.mp z; exact .lst h2
theorem nin2 {a p q : Addr} (h1 : a ≠ p) (h2 : a ≠ q) : a ∉ [p, q] := by simp [h1, h2]
set_option maxHeartbeats 4000000 in
theorem ok_open {f f1 f2 fD fP fW : Addr} {fd d1 d2 dD dP dW : FuncData} (F : Fun K "open_term" "Opener.open_term" s_Opener_open_term f fd) (b_Opener_open_term : Binds K fd ["self", "term", "names"] []) (M_Opener_open_term : Meth K C "open_term" f)
    (M_Opener_count_term : Meth K C "count_term" f1) (F1 : Fun K "count_term" "Opener.count_term" s_Opener_count_term f1 d1) (b_Opener_count_term : Binds K d1 ["self"] []) (M_Opener_new_draw : Meth K C "new_draw" f2) (F2 : Fun K "new_draw" "Opener.new_draw" s_Opener_new_draw f2 d2) (b_Opener_new_draw : Binds K d2 ["self", "draw"] [])
    (A_draw_of : FnAt K mg "draw_of" s_draw_of ["term"] fD dD) (A_parts_of : FnAt K mg "parts_of" s_parts_of ["term"] fP dP) (A_with_parts : FnAt K mg "with_parts" s_with_parts ["term", "parts"] fW dW) (T : Txt K mg C uS uD) (B : Bl mg) :
    ∀ h : Nat, FnOk P w K mg base CX0 (h + 2) f fd ["self", "term", "names"] (sp_open K C h)
  | 0 => by
    refine FnOk.imp (FnOk.no) (fun vs H Q E h => ?_)
    obtain ⟨p, dx, nm, v, o, t, t', e, ps, ws, c, rfl, _, _, _, _, b, _⟩ := h
    cases b
  | N + 1 => by
    have G_Opener_open_term : FnOk P w K mg base CX0 (N + 2) f fd ["self", "term", "names"] (sp_open K C N) := ok_open F b_Opener_open_term M_Opener_open_term M_Opener_count_term F1 b_Opener_count_term M_Opener_new_draw F2 b_Opener_new_draw A_draw_of A_parts_of A_with_parts T B N
    have G_Opener_count_term : FnOk P w K mg base CX0 1 f1 d1 ["self"] (sp_count C) := ok_count F1 T
    have G_Opener_new_draw : FnOk P w K mg base CX0 1 f2 d2 ["self", "draw"] (sp_draw C) := ok_draw F2 T
    have G_draw_of : FnOk P w K mg base CX0 1 fD dD _ (sp_draw_of K) := ok_draw_of A_draw_of B
    have G_parts_of : FnOk P w K mg base CX0 1 fP dP _ (sp_parts K) := ok_parts_of A_parts_of B
    have G_with_parts : FnOk P w K mg base CX0 1 fW dW _ (sp_with K) := ok_with_parts A_with_parts B
    refine F.ok (k := N + 2) sc_Opener_open_term (fun vs H Q E h => ?_) (fun cdv Ar outer s H vs Q E hr h => ?_)
    · obtain ⟨p, dx, nm, v, o, t, t', e, ps, ws, c, rfl, _⟩ := h
      rfl
    · obtain ⟨p, dx, nm, v, o, t, t', e, ps, ws, c, rfl, hp, hv, hn, ll, b, hc6, hd6, k⟩ := h
      refine ⟨_, (pss_cons (ps_set (i := 3) sc_Opener_open_term.nd rfl (Or.inl rfl) (pe_ix ix_tup (pv 1) pe_int (fun _ _ => rfl)))
        (pss_cons (ps_if (pt_cmpR op_eq (pv 3) pe_str (nomark _)) pss_no pss_nil)
        (pss_cons (ps_expr (pe_meth0 (pv 0) T.cl M_Opener_count_term G_Opener_count_term (hr.mono (by omega)) b_Opener_count_term .nil pass0))
        (pss_cons (ps_if (pt_cmpR op_eq (pv 3) pe_str (nomark _)) (pss_one (ps_ret (pv 1))) pss_nil)
        (pss_cons (ps_if (pt_cmpR op_eq (pv 3) pe_str (nomark _)) (pss_one (ps_ret (pe_tup (pa_cons pe_str (pa_cons (pe_dget (hu_of hr) (pv 2) (pe_ix ix_tup (pv 1) pe_int (fun _ _ => rfl)) (fun _ _ => rfl)) pa_nil))))) pss_nil)
        (pss_cons (ps_if (pt_cmpR op_in_seq (pv 3) (pe_tup (pa_cons pe_str (pa_cons pe_str pa_nil))) (by rfl)) (pss_one (ps_ret (pe_tup (pa_cons pe_str (pa_cons (pe_meth (pv 0) T.cl M_Opener_new_draw G_Opener_new_draw (hr.mono (by omega)) b_Opener_new_draw .nil pass0 (pa_cons (pe_call G_draw_of (hr.mono (by omega)) rfl A_draw_of.m A_draw_of.F.kp A_draw_of.b .nil pass0 (pa_cons (pv 1) pa_nil)) pa_nil)) pa_nil))))) pss_nil)
        (pss_cons (ps_set (i := 4) sc_Opener_open_term.nd rfl (Or.inl rfl) (pe_lst pa_nil))
        (pss_cons (ps_for PassesOwn.never rfl (pi_list (pe_call G_parts_of (hr.mono (by omega)) rfl A_parts_of.m A_parts_of.F.kp A_parts_of.b .nil pass0 (pa_cons (pv 1) pa_nil))) (pg_name (i := 5) sc_Opener_open_term.nd rfl (Or.inl rfl)) (pss_one (ps_expr (pe_bm PySem.F.plainAttrs_list PySem.F.slot_list_append PySem.F.type_list_append mt_append (pv 4) (pa_cons (pe_meth (pv 0) T.cl M_Opener_open_term G_Opener_open_term hr b_Opener_open_term .nil pass0 (pa_cons (pv 5) (pa_cons (pv 2) pa_nil))) pa_nil)))))
        (pss_one (ps_ret (pe_call G_with_parts (hr.mono (by omega)) rfl A_with_parts.m A_with_parts.F.kp A_with_parts.b .nil pass0 (pa_cons (pv 1) (pa_cons (pv 4) pa_nil))))))))))))), ?_⟩
      have npd : p ≠ o.dr := by
        intro z
        have := ll.at_
        rw [← z, hp] at this
        cases this
      have nnp : nm ≠ p := by
        intro z
        rw [z, hp] at hn
        cases hn
      have nnd : nm ≠ o.dr := by
        intro z
        have := ll.at_
        rw [← z, hn] at this
        cases this
      -- count_term: the same for all but a call
      have cnt : ∀ {H1 : Hp}, H1 = upd H p (.ins C dx { o with terms := o.terms + 1 }.fs) → BtA p H H1 ∧ H1 p = some (.ins C dx { o with terms := o.terms + 1 }.fs) ∧ LLM K H1 o.dr ps ∧ H1 nm = some (.dK e) ∧ DatAt K H1 v t := fun {H1} e1 => by
        subst e1
        have B1 : BtA p H (upd H p (.ins C dx { o with terms := o.terms + 1 }.fs)) := .upd
        refine ⟨B1, upd_same, ll.but (.ins hp) B1 npd.symm (fun q hq z => ?_), B1 _ _ nnp hn, hv.but (.ins hp) B1⟩
        obtain ⟨_, e2, _⟩ := ll.it q hq
        rw [z, hp] at e2
        cases e2
      cases b with
      | num x =>
        obtain ⟨r, vs, rfl, sv, dv⟩ := hv.un
        obtain ⟨v0, v1, rfl, h0, h1⟩ := dv.two
        rw [h0.str_eq] at sv
        refine ⟨_, rfl, r, _, 0, .str "num", rfl, rfl, sv, rfl, ?_⟩
        refine ⟨_, rfl, rfl, _, rfl, iteBB (fun hc => absurd hc (by decide +kernel)) (fun _ => ?_)⟩
        refine ⟨_, rfl, p, dx, o.fs, rfl, hp, rfl, p, dx, o, rfl, hp, by omega, ?_⟩
        obtain ⟨B1, hp1, ll1, hn1, hv1⟩ := cnt rfl
        generalize upd H p (.ins C dx { o with terms := o.terms + 1 }.fs) = H1 at B1 hp1 ll1 hn1 hv1
        refine ⟨_, rfl, rfl, _, rfl, iteBB (fun _ => ?_) (fun hc => absurd hc (by decide +kernel))⟩
        exact ⟨_, rfl, k _ H1 [] (.one (by simp) B1) hp1 (by rw [List.append_nil]; exact ll1) rfl (fun _ h => nomatch h) hv1⟩
      | name nm' sl _ hval =>
        obtain ⟨r, vs, rfl, sv, dv⟩ := hv.un
        obtain ⟨v0, v1, rfl, h0, h1⟩ := dv.two
        rw [h0.str_eq, h1.str_eq] at sv
        refine ⟨_, rfl, r, _, 0, .str "name", rfl, rfl, sv, rfl, ?_⟩
        refine ⟨_, rfl, rfl, _, rfl, iteBB (fun hc => absurd hc (by decide +kernel)) (fun _ => ?_)⟩
        refine ⟨_, rfl, p, dx, o.fs, rfl, hp, rfl, p, dx, o, rfl, hp, by omega, ?_⟩
        obtain ⟨B1, hp1, ll1, hn1, hv1⟩ := cnt rfl
        have sv1 := sqT_but (.ins hp) B1 sv
        generalize upd H p (.ins C dx { o with terms := o.terms + 1 }.fs) = H1 at B1 hp1 ll1 hn1 hv1 sv1
        refine ⟨_, rfl, rfl, _, rfl, iteBB (fun hc => absurd hc (by decide +kernel)) (fun _ => ?_)⟩
        refine ⟨_, rfl, rfl, _, rfl, iteBB (fun _ => ?_) (fun hc => absurd hc (by decide +kernel))⟩
        refine ⟨_, rfl, _, rfl, r, _, 1, .str nm', rfl, rfl, sv1, rfl, nm, .int sl, rfl, by rw [← hval]; exact DGet.k (k := Sum.inr nm') hn1, two_le, fun q hq => ?_⟩
        have S2 := Same.upd (o := .tup [.str "slot", .int sl]) hq
        exact k _ _ [] ((BtZ.one (by simp) B1).trans (.of S2)) (S2 _ _ hp1) (by rw [List.append_nil]; exact ll1.same S2) rfl (fun _ h => nomatch h) (.tup (SqT.of upd_same) (.cons (.str _) (.cons (.int _) .nil)))
      | draw _ pr _ hdr =>
        have hk : ∃ (kd : Str) (rr : List Dt), t = .tup (.str kd :: rr) ∧ (kd = "flip" ∨ kd = "pick") := by
          cases hdr
          · exact ⟨_, _, rfl, .inl rfl⟩
          · exact ⟨_, _, rfl, .inr rfl⟩
        obtain ⟨kd, rr, rfl, hkd⟩ := hk
        obtain ⟨r, vs, rfl, sv, dv⟩ := hv.un
        obtain ⟨v0, vr, rfl, g0, g1⟩ := dv.un
        rw [g0.str_eq] at sv
        refine ⟨_, rfl, r, _, 0, .str kd, rfl, rfl, sv, atI_nat (j := 0) rfl, ?_⟩
        have n0 : kd ≠ "call" := by rcases hkd with z | z <;> rw [z] <;> decide +kernel
        have n1 : kd ≠ "num" := by rcases hkd with z | z <;> rw [z] <;> decide +kernel
        have n2 : kd ≠ "name" := by rcases hkd with z | z <;> rw [z] <;> decide +kernel
        refine ⟨_, rfl, rfl, _, rfl, iteBB (fun hc => absurd (show kd = "call" by simpa using hc) n0) (fun _ => ?_)⟩
        refine ⟨_, rfl, p, dx, o.fs, rfl, hp, rfl, p, dx, o, rfl, hp, by omega, ?_⟩
        obtain ⟨B1, hp1, ll1, hn1, hv1⟩ := cnt rfl
        generalize upd H p (.ins C dx { o with terms := o.terms + 1 }.fs) = H1 at B1 hp1 ll1 hn1 hv1
        refine ⟨_, rfl, rfl, _, rfl, iteBB (fun hc => absurd (show kd = "num" by simpa using hc) n1) (fun _ => ?_)⟩
        refine ⟨_, rfl, rfl, _, rfl, iteBB (fun hc => absurd (show kd = "name" by simpa using hc) n2) (fun _ => ?_)⟩
        refine ⟨_, rfl, two_le, fun q1 hq1 => ⟨q1, _, rfl, .inr (SqT.of upd_same), rfl, rfl, _, rfl, iteBB (fun _ => ?_) (fun hc => absurd hc (by rcases hkd with z | z <;> rw [z] <;> decide +kernel))⟩⟩
        have S2 := Same.upd (o := .tup [.str "flip", .str "pick"]) hq1
        generalize upd H1 q1 (.tup [.str "flip", .str "pick"]) = H2 at S2
        refine ⟨_, rfl, p, dx, _, rfl, S2 _ _ hp1, rfl, _, rfl, .ref r, _, pr, rfl, hv1.same S2, hdr, fun D H3 S3 hD lsD => ?_⟩
        have S23 := S2.trans S3
        have ll3 := ll1.same S23
        refine ⟨p, dx, .ref D, _, { o with terms := o.terms + 1 }, rfl, S23 _ _ hp1, ll3.at_, by rw [List.length_map]; simp at hd6; omega, ?_⟩
        have nDd : D ≠ o.dr := (ne_of_none (S2 _ _ ll1.at_) hD).symm
        have lln := LLM.snoc ll3 lsD nDd
        have B4 : BtA o.dr H3 (upd H3 o.dr (.lst (ps.map (fun p => V.ref p.1) ++ [.ref D]))) := .upd
        have hp4 : (upd H3 o.dr (.lst (ps.map (fun p => V.ref p.1) ++ [.ref D]))) p = some (.ins C dx { o with terms := o.terms + 1 }.fs) := B4 _ _ npd (S23 _ _ hp1)
        have fD : H D = none := by
          have f2 := S2.free hD
          by_cases z : D = p
          · rw [z, hp1] at f2; cases f2
          · cases hH : H D with
            | none => rfl
            | some x => rw [B1 _ _ z hH] at f2; cases f2
        refine ⟨two_le, fun q hq => ?_⟩
        have S5 := Same.upd (o := .tup [.str "draw", .int ((ps.map fun p => V.ref p.1).length : Nat)]) hq
        refine k _ _ [(D, pr.map pI)] ((BtZ.one (by simp) B1).trans ((BtZ.of S23).trans ((BtZ.one (by simp) B4).trans (.of S5)))) (S5 _ _ hp4) (lln.same S5) rfl (fun x hx => by cases List.mem_singleton.mp hx; exact fD) ?_
        refine .tup (SqT.of upd_same) (.cons (.str _) (.cons ?_ .nil))
        rw [List.length_map]
        exact .int _
      | node _ ds _ ds' _ _ c hpt hs hw =>
        obtain ⟨kd, rr, rfl, n0, n1, n2, n3, n4⟩ := hw.kind
        have few := hw.few
        have ld := hs.len
        have hvt := hv
        obtain ⟨r, vs, rfl, sv, dv⟩ := hv.un
        obtain ⟨v0, vr, rfl, g0, g1⟩ := dv.un
        rw [g0.str_eq] at sv
        refine ⟨_, rfl, r, _, 0, .str kd, rfl, rfl, sv, atI_nat (j := 0) rfl, ?_⟩
        refine ⟨_, rfl, rfl, _, rfl, iteBB (fun hc => absurd (show kd = "call" by simpa using hc) n0) (fun _ => ?_)⟩
        refine ⟨_, rfl, p, dx, o.fs, rfl, hp, rfl, p, dx, o, rfl, hp, by omega, ?_⟩
        obtain ⟨B1, hp1, ll1, hn1, hv1⟩ := cnt rfl
        generalize upd H p (.ins C dx { o with terms := o.terms + 1 }.fs) = H1 at B1 hp1 ll1 hn1 hv1
        refine ⟨_, rfl, rfl, _, rfl, iteBB (fun hc => absurd (show kd = "num" by simpa using hc) n1) (fun _ => ?_)⟩
        refine ⟨_, rfl, rfl, _, rfl, iteBB (fun hc => absurd (show kd = "name" by simpa using hc) n2) (fun _ => ?_)⟩
        refine ⟨_, rfl, two_le, fun q1 hq1 => ⟨q1, _, rfl, .inr (SqT.of upd_same), rfl, rfl, _, rfl, iteBB (fun hc => absurd hc (by simp [inV, eqV, n3, n4, Ne.symm n3, Ne.symm n4])) (fun _ => ?_)⟩⟩
        have S2 := Same.upd (o := .tup [.str "flip", .str "pick"]) hq1
        generalize upd H1 q1 (.tup [.str "flip", .str "pick"]) = H2 at S2
        refine ⟨Nat.zero_le _, fun D hD => ?_⟩
        have S3 := Same.upd (o := .lst []) hD
        have eD : (upd H2 D (.lst [])) D = some (.lst []) := upd_same
        have nDp : D ≠ p := (ne_of_none (S2 _ _ hp1) hD).symm
        have nDd : D ≠ o.dr := (ne_of_none (S2 _ _ ll1.at_) hD).symm
        have fr1 : ∀ {a : Addr}, H1 a = none → H a = none := fun {a} f2 => by
          by_cases z : a = p
          · rw [z, hp1] at f2; cases f2
          · cases hH : H a with
            | none => rfl
            | some x => rw [B1 _ _ z hH] at f2; cases f2
        have fD : H D = none := fr1 (S2.free hD)
        generalize upd H2 D (.lst []) = H3 at S3 eD
        have S23 := S2.trans S3
        refine ⟨_, rfl, .ref r, _, ds, rfl, hv1.same S23, hpt, fun P1 H4 S4 hP1 lsP => ?_⟩
        obtain ⟨us, eP, du⟩ := lsP
        have lu := du.length
        have S24 := S23.trans S4
        have nPD : P1 ≠ D := (ne_of_none eD hP1).symm
        have nPp : P1 ≠ p := (ne_of_none (S23 _ _ hp1) hP1).symm
        have nPd : P1 ≠ o.dr := (ne_of_none (S23 _ _ ll1.at_) hP1).symm
        refine ⟨P1, rfl, ⟨_, SqL.of eP⟩, for_list (K := K) (a := P1) (xs := us) (fun i σ H' => BtZ [p, o.dr] H H' ∧ H' P1 = some (.lst us) ∧ DatsAt K H' us ds ∧ DatAt K H' (.ref r) (.tup (.str kd :: rr)) ∧ H' nm = some (.dK e) ∧ ∃ (zs : List V) (psn : List (Addr × List Dt)) (wsn wr : List (List (Int × Int))) (ci cr : Nat) (o5 : Option V),
            H' D = some (.lst zs) ∧ DatsAt K H' zs (ds'.take i) ∧ H' p = some (.ins C dx { o with terms := o.terms + 1 + (ci : Int) }.fs) ∧ LLM K H' o.dr (ps ++ psn) ∧ psn.map (·.2) = wsn.map (fun d => d.map pI) ∧ (∀ q ∈ psn, H q.1 = none ∧ q.1 ≠ D) ∧ Ots e N (ds.drop i) (ps ++ psn).length (ds'.drop i) wr cr ∧ ws = wsn ++ wr ∧ c = ci + cr ∧
            σ = [some (.ref p), some (.ref r), some (.ref nm), some (.str kd), some (.ref D), o5])
          ⟨(BtZ.one (by simp) B1).trans (.of S24), eP, du, hv1.same S24, S24 _ _ hn1, [], [], [], ws, 0, c, none, S4 _ _ eD, .nil, by rw [show o.terms + 1 + ((0 : Nat) : Int) = o.terms + 1 by omega]; exact S24 _ _ hp1, by rw [List.append_nil]; exact ll1.same S24, rfl, (fun _ h => nomatch h), by rw [List.append_nil]; exact hs, rfl, by omega, rfl⟩ (fun i σ H' _ z => SqL.of z.2.1) ?_ ?_⟩
        · rintro i x σ H' hx ⟨BZ, eP', du', hv', hn', zs, psn, wsn, wr, ci, cr, o5, eD', hz, hp', ll', eps, fps, ots, rfl, rfl, rfl⟩
          obtain ⟨d, ed, hxd⟩ := du'.get' hx
          have hi := (List.getElem?_eq_some_iff.mp ed).1
          rw [List.drop_eq_getElem_cons hi, (List.getElem?_eq_some_iff.mp ed).2] at ots
          obtain ⟨d', xs', w1, w2, c1, c2, e1, rfl, rfl, od, os⟩ := ots.un
          obtain ⟨e2, e3⟩ := drop_cons e1
          have lpn : psn.length = wsn.length := by
            have := congrArg List.length eps
            rwa [List.length_map, List.length_map] at this
          have lz := hz.length
          rw [List.length_take] at lz
          simp only [List.length_append] at hd6
          refine ⟨_, rfl, .inl ⟨rfl, _, SqL.of eD'⟩, _, rfl, p, dx, _, rfl, hp', rfl, _, rfl, _, rfl, p, dx, nm, x, { o with terms := o.terms + 1 + (ci : Int) }, d, d', e, ps ++ psn, w1, c1, rfl, hp', hxd, hn', ll', od, (by show o.terms + 1 + (ci : Int) + (c1 : Int) ≤ 600; omega), (by rw [List.length_append]; omega), fun v' H5 ps' BZ5 hp5 ll5 eps5 fr5 hv5 => ?_⟩
          have nz := ntz hp' ll'.at_
          have eD5 := BZ5 _ _ (nin2 nDp nDd) eD'
          refine ⟨D, zs, _, rfl, rfl, eD5, Nat.lt_of_le_of_lt (show zs.length ≤ 6 by omega) (by decide), ?_⟩
          have BD : BtA D H5 (upd H5 D (.lst (zs ++ [v']))) := .upd
          have frz : ∀ q ∈ ps', H q.1 = none ∧ q.1 ≠ D := fun q hq => by
            have f := fr5 q hq
            refine ⟨?_, (ne_of_none eD' f).symm⟩
            cases hH : H q.1 with
            | none => rfl
            | some y =>
              by_cases z : q.1 ∈ [p, o.dr]
              · rcases List.mem_cons.mp z with z | z
                · rw [z, hp'] at f; cases f
                · rw [List.mem_singleton.mp z, ll'.at_] at f; cases f
              · rw [BZ _ _ z hH] at f; cases f
          refine ⟨fun b y nb hb => ?_, BD _ _ nPD (BZ5 _ _ (nin2 nPp nPd) eP'), (du'.butZ nz BZ5).but (.lst eD5) BD, (hv'.butZ nz BZ5).but (.lst eD5) BD, BD _ _ (ne_dl' hn' eD') (BZ5 _ _ (nin2 nnp nnd) hn'), zs ++ [v'], psn ++ ps', wsn ++ w1, w2, ci + c1, c2, _, upd_same, ?_, ?_, ?_, ?_, ?_, ?_, ?_, ?_, rfl⟩
          · rw [upd_ne (ne_of_none hb fD)]
            exact BZ5 _ _ nb (BZ _ _ nb hb)
          · rw [take_snoc' e2]
            exact ((hz.butZ nz BZ5).append (.cons hv5 .nil)).but (.lst eD5) BD
          · rw [show o.terms + 1 + ((ci + c1 : Nat) : Int) = o.terms + 1 + (ci : Int) + (c1 : Int) by omega]
            exact BD _ _ nDp.symm hp5
          · rw [← List.append_assoc]
            refine ll5.but (.lst eD5) BD nDd.symm (fun q hq => ?_)
            rcases List.mem_append.mp hq with hq | hq
            · rcases List.mem_append.mp hq with hq | hq
              · obtain ⟨_, ey, _⟩ := ll.it q hq
                exact ne_of_none ey fD
              · exact (fps q hq).2
            · exact (frz q hq).2
          · rw [List.map_append, List.map_append, eps, eps5]
          · intro q hq
            rcases List.mem_append.mp hq with hq | hq
            · exact fps q hq
            · exact frz q hq
          · rw [e3]
            have l5 : ps'.length = w1.length := by
              have := congrArg List.length eps5
              rwa [List.length_map, List.length_map] at this
            rw [show (ps ++ (psn ++ ps')).length = (ps ++ psn).length + w1.length by simp only [List.length_append]; omega]
            exact os
          · rw [List.append_assoc]
          · omega
        · rintro σ H' ⟨BZ, eP', du', hv', hn', zs, psn, wsn, wr, ci, cr, o5, eD', hz, hp', ll', eps, fps, ots, rfl, rfl, rfl⟩
          rw [List.drop_of_length_le (by omega)] at ots
          obtain ⟨_, rfl, rfl⟩ := ots.un0
          rw [List.take_of_length_le (by omega)] at hz
          refine ⟨_, rfl, _, rfl, .ref r, D, _, ds', t', rfl, hv', ⟨zs, eD', hz⟩, hw, fun v' H7 S7 hv7 => ?_⟩
          refine k v' H7 psn (BZ.trans (.of S7)) ?_ (ll'.same S7) (by rw [List.append_nil]; exact eps) (fun q hq => (fps q hq).1) hv7
          rw [show o.terms + ((ci + 0 + 1 : Nat) : Int) = o.terms + 1 + (ci : Int) by omega]
          exact S7 _ _ hp'
end
end K22
namespace K22
open PySem L2 FW PyProof.Rows
theorem valV_putK {κ : Type} [DecidableEq κ] (kvs : List (κ × V)) (k : κ) (v : V) : valV (putK kvs k v) k = some v := by
  unfold putK
  split
  · rename_i h
    induction kvs with
    | nil => simp at h
    | cons p r ih =>
      by_cases e : p.1 = k
      · rw [List.map_cons, if_pos e]
        exact valV_pos e
      · rw [List.map_cons, if_neg e, valV_neg e]
        refine ih ?_
        simpa [e] using h
  · rename_i h
    induction kvs with
    | nil => exact valV_pos rfl
    | cons p r ih =>
      have e : ¬ p.1 = k := fun z => h (by simp [z])
      show valV (p :: (r ++ [(k, v)])) k = some v
      rw [valV_neg e]
      exact ih fun z => h (by simp [e] at z ⊢; exact z)
/-- an opener in the midst of its work -/
structure OpI (K : PySem.W.Frag) (H : Hp) (C p dx : Addr) (o : OpS) (e : List (Key × V)) (ps : List (Addr × List Dt)) (sts : List Dt) : Prop where
  hp : H p = some (.ins C dx o.fs)
  hn : H o.nm = some (.dK e)
  ll : LLM K H o.dr ps
  st : LsM K H o.st sts
  sd : o.st ≠ o.dr
  si : ∀ q ∈ ps, q.1 ≠ o.st
def sp_let (K : PySem.W.Frag) (C : Addr) (h : Nat) : Sp := fun vs H Q _ => ∃ (p dx : Addr) (nm : Str) (v : V) (o : OpS) (t t' : Dt) (e : List (Key × V)) (ps : List (Addr × List Dt)) (sts : List Dt) (ws : List (List (Int × Int))) (c : Nat),
  vs = [.ref p, .str nm, v] ∧ OpI K H C p dx o e ps sts ∧ DatAt K H v t ∧ Ot e h t ps.length t' ws c ∧ o.terms + c ≤ 600 ∧ ps.length + ws.length ≤ 60 ∧ e.length < 1000 ∧ sts.length < 1000 ∧
  ∀ H' ps', BtZ [p, o.dr, o.nm, o.st] H H' → OpI K H' C p dx { o with terms := o.terms + c, slots := o.slots + 1 } (putK e (Sum.inr nm) (.int o.slots)) (ps ++ ps') (sts ++ [.tup [.int o.slots, t']]) → ps'.map (·.2) = ws.map (fun d => d.map pI) → (∀ q ∈ ps', H q.1 = none) → Q .non H'
section
variable {P : Program} {w : World} {K : PySem.W.Frag} {mg : Str → Option Value} {base : Heap} {C : Addr} {uS uD : Value}
set_option maxHeartbeats 2000000 in
theorem ok_let {h : Nat} {f fO f3 : Addr} {fd dO d3 : FuncData} (F : Fun K "open_let" "Opener.open_let" s_Opener_open_let f fd) (M_Opener_open_term : Meth K C "open_term" fO) (G_Opener_open_term : FnOk P w K mg base CX0 (h + 2) fO dO ["self", "term", "names"] (sp_open K C h)) (b_Opener_open_term : Binds K dO ["self", "term", "names"] [])
    (M_Opener_new_slot : Meth K C "new_slot" f3) (F3 : Fun K "new_slot" "Opener.new_slot" s_Opener_new_slot f3 d3) (b_Opener_new_slot : Binds K d3 ["self"] []) (T : Txt K mg C uS uD) : FnOk P w K mg base CX0 (h + 3) f fd ["self", "name", "term"] (sp_let K C h) := by
  have G_Opener_new_slot : FnOk P w K mg base CX0 1 f3 d3 ["self"] (sp_slot C) := ok_slot F3 T
  refine F.ok (k := h + 2) sc_Opener_open_let (fun vs H Q E h => ?_) (fun cdv Ar outer s H vs Q E hr h => ?_)
  · obtain ⟨p, dx, nm, v, o, t, t', e, ps, sts, ws, c, rfl, _⟩ := h
    rfl
  · obtain ⟨p, dx, nm, v, o, t, t', e, ps, sts, ws, c, rfl, I, hv, ot, b1, b2, le, ls, k⟩ := h
    refine ⟨_, (pss_cons (ps_set (i := 3) sc_Opener_open_let.nd rfl (Or.inl rfl) (pe_meth (pv 0) T.cl M_Opener_open_term G_Opener_open_term hr b_Opener_open_term .nil pass0 (pa_cons (pv 2) (pa_cons (pe_fld (pv 0) rfl) pa_nil))))
      (pss_cons (ps_dput (hu_of hr) (pe_fld (pv 0) rfl) (pv 1) (pe_meth0 (pv 0) T.cl M_Opener_new_slot G_Opener_new_slot (hr.mono (by omega)) b_Opener_new_slot .nil pass0) rfl)
      (pss_one (ps_expr (pe_bm PySem.F.plainAttrs_list PySem.F.slot_list_append PySem.F.type_list_append mt_append (pe_fld (pv 0) rfl) (pa_cons (pe_tup (pa_cons (pe_dget (hu_of hr) (pe_fld (pv 0) rfl) (pv 1) (fun _ _ => rfl)) (pa_cons (pv 3) pa_nil))) pa_nil)))))), ?_⟩
    obtain ⟨hp, hn, ll, ⟨us, es, du⟩, sd, si⟩ := I
    have npd : p ≠ o.dr := fun z => by have := ll.at_; rw [← z, hp] at this; cases this
    have nps : p ≠ o.st := fun z => by rw [← z, hp] at es; cases es
    have npn : p ≠ o.nm := fun z => by rw [← z, hp] at hn; cases hn
    have nnd : o.nm ≠ o.dr := fun z => by have := ll.at_; rw [← z, hn] at this; cases this
    have nns : o.nm ≠ o.st := fun z => by rw [← z, hn] at es; cases es
    refine ⟨_, rfl, p, dx, _, rfl, hp, rfl, _, rfl, _, rfl, p, C, dx, o.fs, .ref o.nm, rfl, hp, T.cl, T.n2, rfl, p, dx, o.nm, v, o, t, t', e, ps, ws, c, rfl, hp, hv, hn, ll, ot, b1, b2, fun v' H1 ps' BZ hp1 ll1 eps fr hv1 => ?_⟩
    have nz := ntz hp ll.at_
    have hn1 := BZ _ _ (nin2 npn.symm nnd) hn
    have es1 := BZ _ _ (nin2 nps.symm sd) es
    have du1 := du.butZ nz BZ
    refine ⟨_, rfl, p, dx, _, rfl, hp1, rfl, p, dx, _, rfl, hp1, ?_⟩
    have B2 : BtA p H1 (upd H1 p (.ins C dx { o with terms := o.terms + c, slots := o.slots + 1 }.fs)) := .upd
    have hp2 : (upd H1 p (.ins C dx { o with terms := o.terms + c, slots := o.slots + 1 }.fs)) p = some (.ins C dx { o with terms := o.terms + c, slots := o.slots + 1 }.fs) := upd_same
    have in1 : ∀ q ∈ ps ++ ps', q.1 ≠ p := fun q hq z => by
      obtain ⟨_, e2, _⟩ := ll1.it q hq
      rw [z, hp1] at e2
      cases e2
    have ll2 := ll1.but (.ins hp1) B2 npd.symm in1
    have hn2 := B2 _ _ npn.symm hn1
    have es2 := B2 _ _ nps.symm es1
    have du2 := du1.but (.ins hp1) B2
    have hv2 := hv1.but (.ins hp1) B2
    generalize upd H1 p (.ins C dx { o with terms := o.terms + c, slots := o.slots + 1 }.fs) = H2 at B2 hp2 ll2 hn2 es2 du2 hv2
    refine ⟨_, rfl, p, C, dx, _, .ref o.nm, rfl, hp2, T.cl, T.n2, rfl, _, rfl, o.nm, _, rfl, DPut.k (k := Sum.inr nm) hn2 (Nat.lt_of_lt_of_le le (by decide)), ?_⟩
    have B3 : BtA o.nm H2 (upd H2 o.nm (.dK (putK e (Sum.inr nm) (.int o.slots)))) := .upd
    have hn3 : (upd H2 o.nm (.dK (putK e (Sum.inr nm) (.int o.slots)))) o.nm = some (.dK (putK e (Sum.inr nm) (.int o.slots))) := upd_same
    have ntn : NT H2 o.nm := fun x ex => by
      rw [hn2] at ex
      cases ex
      exact ⟨(fun _ z => nomatch z), (fun _ _ z => nomatch z)⟩
    have ll3 := ll2.but ntn B3 nnd.symm fun q hq z => by
      obtain ⟨_, e2, _⟩ := ll2.it q hq
      rw [z, hn2] at e2
      cases e2
    have hp3 := B3 _ _ npn hp2
    have es3 := B3 _ _ nns.symm es2
    have du3 := du2.but ntn B3
    have hv3 := hv2.but ntn B3
    generalize upd H2 o.nm (.dK (putK e (Sum.inr nm) (.int o.slots))) = H3 at B3 hn3 ll3 hp3 es3 du3 hv3
    refine ⟨_, rfl, p, C, dx, _, .ref o.st, rfl, hp3, T.cl, T.n3, rfl, .inl ⟨rfl, _, SqL.of es3⟩, _, rfl, p, C, dx, _, .ref o.nm, rfl, hp3, T.cl, T.n2, rfl, _, rfl, o.nm, .int o.slots, rfl, by rw [← valV_putK e (Sum.inr nm) (.int o.slots)]; exact DGet.k (k := Sum.inr nm) hn3, _, rfl, two_le, fun q hq => ?_⟩
    have S4 := Same.upd (o := .tup [.int o.slots, v']) hq
    have lu := du.length
    refine ⟨o.st, us, _, rfl, rfl, S4 _ _ es3, Nat.lt_of_lt_of_le (show us.length < 1000 by omega) (by decide), ?_⟩
    have B5 : BtA o.st (upd H3 q (.tup [.int o.slots, v'])) (upd (upd H3 q (.tup [.int o.slots, v'])) o.st (.lst (us ++ [.ref q]))) := .upd
    have si5 : ∀ x ∈ ps ++ ps', x.1 ≠ o.st := fun x hx => by
      rcases List.mem_append.mp hx with z | z
      · exact si x z
      · exact (ne_of_none es (fr x z)).symm
    refine k _ ps' ?_ ⟨B5 _ _ nps (S4 _ _ hp3), B5 _ _ nns (S4 _ _ hn3), (ll3.same S4).but (.lst (S4 _ _ es3)) B5 sd.symm si5, ⟨_, upd_same, ((du3.same S4).append (.cons (.tup (SqT.of upd_same) (.cons (.int _) (.cons (hv3.same S4) .nil))) .nil)).but (.lst (S4 _ _ es3)) B5⟩, sd, si5⟩ eps fr
    exact ((BZ.mono (by simp)).trans (.one (by simp) B2)).trans ((BtZ.one (by simp) B3).trans ((BtZ.of S4).trans (.one (by simp) B5)))
end
end K22
namespace K22
open PySem L2 FW PyProof.Rows
abbrev stD (s : Int) (t : Dt) : Dt := .tup [.int s, t]
/-- rounds of a let -/
inductive Oag (h : Nat) (nm : Str) (t : Dt) : Nat → List (Key × V) → Nat → Int → List (Key × V) → List (List (Int × Int)) → List Dt → Nat → Prop
  | zero (e : List (Key × V)) (k : Nat) (s : Int) : Oag h nm t 0 e k s e [] [] 0
  | succ (n : Nat) (e e' : List (Key × V)) (k : Nat) (s : Int) (t' : Dt) (w1 w2 : List (List (Int × Int))) (c1 c2 : Nat) (st : List Dt) (hl : e.length < 1000) (ho : Ot e h t k t' w1 c1) (hr : Oag h nm t n (putK e (Sum.inr nm) (.int s)) (k + w1.length) (s + 1) e' w2 st c2) : Oag h nm t (n + 1) e k s e' (w1 ++ w2) (stD s t' :: st) (c1 + c2)
/-- a row opened: the names behind it, its draws, its steps, how many terms -/
inductive Orow (h : Nat) : Dt → List (Key × V) → Nat → Int → List (Key × V) → List (List (Int × Int)) → List Dt → Int → Nat → Prop
  | lett (nm : Str) (t : Dt) (e e' : List (Key × V)) (k : Nat) (s : Int) (ws : List (List (Int × Int))) (st : List Dt) (c : Nat) (hg : Oag h nm t 1 e k s e' ws st c) : Orow h (.tup [.str "let", .str nm, t]) e k s e' ws st (s + 1) c
  | again (n : Nat) (nm : Str) (t : Dt) (e e' : List (Key × V)) (k : Nat) (s : Int) (ws : List (List (Int × Int))) (st : List Dt) (c : Nat) (hn : n ≤ 30) (hg : Oag h nm t n e k s e' ws st c) : Orow h (.tup [.str "again", .int (n : Int), .str nm, t]) e k s e' ws st (s + n) c
  | see (t t' : Dt) (e : List (Key × V)) (k : Nat) (s : Int) (ws : List (List (Int × Int))) (c : Nat) (ho : Ot e h t k t' ws c) : Orow h (.tup [.str "see", t]) e k s e ws [stD (-1) t'] s c
  | ask (t t' : Dt) (e : List (Key × V)) (k : Nat) (s : Int) (ws : List (List (Int × Int))) (c : Nat) (ho : Ot e h t k t' ws c) : Orow h (.tup [.str "ask", t]) e k s e ws [stD s t'] (s + 1) c
def sp_row (K : PySem.W.Frag) (C : Addr) (h : Nat) : Sp := fun vs H Q _ => ∃ (p dx : Addr) (v : V) (o : OpS) (row : Dt) (e e' : List (Key × V)) (ps : List (Addr × List Dt)) (sts st : List Dt) (ws : List (List (Int × Int))) (s' : Int) (c : Nat),
  vs = [.ref p, v] ∧ OpI K H C p dx o e ps sts ∧ DatAt K H v row ∧ Orow h row e ps.length o.slots e' ws st s' c ∧ o.terms + c ≤ 600 ∧ ps.length + ws.length ≤ 60 ∧ sts.length + 40 < 1000 ∧
  ∀ H' ps', BtZ [p, o.dr, o.nm, o.st] H H' → OpI K H' C p dx { o with terms := o.terms + c, slots := s' } e' (ps ++ ps') (sts ++ st) → ps'.map (·.2) = ws.map (fun d => d.map pI) → (∀ q ∈ ps', H q.1 = none) → Q .non H'
section
variable {P : Program} {w : World} {K : PySem.W.Frag} {mg : Str → Option Value} {base : Heap} {C : Addr} {uS uD : Value}
theorem OpI.ntz {H : Hp} {p dx : Addr} {o : OpS} {e : List (Key × V)} {ps : List (Addr × List Dt)} {sts : List Dt} (I : OpI K H C p dx o e ps sts) : NTZ H [p, o.dr, o.nm, o.st] := fun a ha => by
  obtain ⟨us, es, _⟩ := I.st
  simp only [List.mem_cons, List.not_mem_nil, or_false] at ha
  rcases ha with z | z | z | z <;> rw [z]
  · exact .ins I.hp
  · exact .lst I.ll.at_
  · exact fun x ex => by
      rw [I.hn] at ex
      cases ex
      exact ⟨(fun _ z => nomatch z), (fun _ _ z => nomatch z)⟩
  · exact .lst es
/-- what was not there ahead was not there -/
theorem OpI.free {H H' : Hp} {p dx : Addr} {o : OpS} {e : List (Key × V)} {ps : List (Addr × List Dt)} {sts : List Dt} (I : OpI K H' C p dx o e ps sts) (B : BtZ [p, o.dr, o.nm, o.st] H H') {a : Addr} (h : H' a = none) : H a = none := by
  cases hH : H a with
  | none => rfl
  | some y =>
    obtain ⟨us, es, _⟩ := I.st
    by_cases z : a ∈ [p, o.dr, o.nm, o.st]
    · simp only [List.mem_cons, List.not_mem_nil, or_false] at z
      rcases z with z | z | z | z
      · rw [z, I.hp] at h; cases h
      · rw [z, I.ll.at_] at h; cases h
      · rw [z, I.hn] at h; cases h
      · rw [z, es] at h; cases h
    · rw [B _ _ z hH] at h; cases h
theorem Oag.un {h n k c : Nat} {nm : Str} {t : Dt} {e e' : List (Key × V)} {s : Int} {ws : List (List (Int × Int))} {st : List Dt} (g : Oag h nm t (n + 1) e k s e' ws st c) : ∃ t' w1 w2 c1 c2 st2, ws = w1 ++ w2 ∧ st = stD s t' :: st2 ∧ c = c1 + c2 ∧ e.length < 1000 ∧ Ot e h t k t' w1 c1 ∧ Oag h nm t n (putK e (Sum.inr nm) (.int s)) (k + w1.length) (s + 1) e' w2 st2 c2 := by
  cases g with
  | succ _ _ _ _ _ t' w1 w2 c1 c2 st2 hl ho hr => exact ⟨t', w1, w2, c1, c2, st2, rfl, rfl, rfl, hl, ho, hr⟩
theorem Oag.un0 {h k c : Nat} {nm : Str} {t : Dt} {e e' : List (Key × V)} {s : Int} {ws : List (List (Int × Int))} {st : List Dt} (g : Oag h nm t 0 e k s e' ws st c) : e' = e ∧ ws = [] ∧ st = [] ∧ c = 0 := by
  cases g
  exact ⟨rfl, rfl, rfl, rfl⟩
end
end K22
namespace K22
open PySem L2 FW PyProof.Rows
section
variable {P : Program} {w : World} {K : PySem.W.Frag} {mg : Str → Option Value} {base : Heap} {C : Addr} {uS uD : Value}
set_option maxHeartbeats 4000000 in
theorem ok_row {h : Nat} {f fL fO f3 : Addr} {fd dL dO d3 : FuncData} (F : Fun K "open_row" "Opener.open_row" s_Opener_open_row f fd) (M_Opener_open_let : Meth K C "open_let" fL) (G_Opener_open_let : FnOk P w K mg base CX0 (h + 3) fL dL ["self", "name", "term"] (sp_let K C h)) (b_Opener_open_let : Binds K dL ["self", "name", "term"] [])
    (M_Opener_open_term : Meth K C "open_term" fO) (G_Opener_open_term : FnOk P w K mg base CX0 (h + 2) fO dO ["self", "term", "names"] (sp_open K C h)) (b_Opener_open_term : Binds K dO ["self", "term", "names"] [])
    (M_Opener_new_slot : Meth K C "new_slot" f3) (F3 : Fun K "new_slot" "Opener.new_slot" s_Opener_new_slot f3 d3) (b_Opener_new_slot : Binds K d3 ["self"] []) (T : Txt K mg C uS uD) (range_ : mg "range" = none) : FnOk P w K mg base CX0 (h + 4) f fd ["self", "row"] (sp_row K C h) := by
  have G_Opener_new_slot : FnOk P w K mg base CX0 1 f3 d3 ["self"] (sp_slot C) := ok_slot F3 T
  refine F.ok (k := h + 3) sc_Opener_open_row (fun vs H Q E h => ?_) (fun cdv Ar outer s H vs Q E hr h => ?_)
  · obtain ⟨p, dx, v, o, row, e, e', ps, sts, st, ws, s', c, rfl, _⟩ := h
    rfl
  · obtain ⟨p, dx, v, o, row, e, e', ps, sts, st, ws, s', c, rfl, I, hv, ow, b1, b2, ls, k⟩ := h
    refine ⟨_, (pss_cons (ps_set (i := 2) sc_Opener_open_row.nd rfl (Or.inl rfl) (pe_ix ix_tup (pv 1) pe_int (fun _ _ => rfl)))
      (pss_one (ps_if (pt_cmpR op_eq (pv 2) pe_str (nomark _)) pss_no (pss_one (ps_if (pt_cmpR op_eq (pv 2) pe_str (nomark _)) (pss_one (ps_expr (pe_meth (pv 0) T.cl M_Opener_open_let G_Opener_open_let (hr.mono (by omega)) b_Opener_open_let .nil pass0 (pa_cons (pe_ix ix_tup (pv 1) pe_int (fun _ _ => rfl)) (pa_cons (pe_ix ix_tup (pv 1) pe_int (fun _ _ => rfl)) pa_nil))))) (pss_one (ps_if (pt_cmpR op_eq (pv 2) pe_str (nomark _)) (pss_one (ps_for PassesOwn.never rfl (pi_range1 rfl range_ (pa_cons (pe_ix ix_tup (pv 1) pe_int (fun _ _ => rfl)) pa_nil)) (pg_name (i := 3) sc_Opener_open_row.nd rfl (Or.inl rfl)) (pss_one (ps_expr (pe_meth (pv 0) T.cl M_Opener_open_let G_Opener_open_let (hr.mono (by omega)) b_Opener_open_let .nil pass0 (pa_cons (pe_ix ix_tup (pv 1) pe_int (fun _ _ => rfl)) (pa_cons (pe_ix ix_tup (pv 1) pe_int (fun _ _ => rfl)) pa_nil))))))) (pss_one (ps_if (pt_cmpR op_eq (pv 2) pe_str (nomark _)) (pss_one (ps_expr (pe_bm PySem.F.plainAttrs_list PySem.F.slot_list_append PySem.F.type_list_append mt_append (pe_fld (pv 0) rfl) (pa_cons (pe_tup (pa_cons (pe_un un_neg pe_int) (pa_cons (pe_meth (pv 0) T.cl M_Opener_open_term G_Opener_open_term (hr.mono (by omega)) b_Opener_open_term .nil pass0 (pa_cons (pe_ix ix_tup (pv 1) pe_int (fun _ _ => rfl)) (pa_cons (pe_fld (pv 0) rfl) pa_nil))) pa_nil))) pa_nil)))) (pss_cons (ps_set (i := 4) sc_Opener_open_row.nd rfl (Or.inl rfl) (pe_meth (pv 0) T.cl M_Opener_open_term G_Opener_open_term (hr.mono (by omega)) b_Opener_open_term .nil pass0 (pa_cons (pe_ix ix_tup (pv 1) pe_int (fun _ _ => rfl)) (pa_cons (pe_fld (pv 0) rfl) pa_nil))))
      (pss_one (ps_expr (pe_bm PySem.F.plainAttrs_list PySem.F.slot_list_append PySem.F.type_list_append mt_append (pe_fld (pv 0) rfl) (pa_cons (pe_tup (pa_cons (pe_meth0 (pv 0) T.cl M_Opener_new_slot G_Opener_new_slot (hr.mono (by omega)) b_Opener_new_slot .nil pass0) (pa_cons (pv 4) pa_nil))) pa_nil)))))))))))))), ?_⟩
    cases ow with
    | lett nm t _ _ _ _ _ _ _ hg =>
      obtain ⟨r, vs, rfl, sv, dv⟩ := hv.un
      obtain ⟨v0, v1, v2, rfl, h0, h1, h2⟩ := dats3 dv
      rw [h0.str_eq, h1.str_eq] at sv
      obtain ⟨t', w1, w2, c1, c2, st2, rfl, rfl, rfl, hl, ho, hg⟩ := hg.un
      obtain ⟨rfl, rfl, rfl, rfl⟩ := hg.un0
      refine ⟨_, rfl, r, _, 0, .str "let", rfl, rfl, sv, rfl, ?_⟩
      refine ⟨_, rfl, rfl, _, rfl, iteBB (fun hc => absurd hc (by decide +kernel)) (fun _ => ?_)⟩
      refine ⟨_, rfl, rfl, _, rfl, iteBB (fun _ => ?_) (fun hc => absurd hc (by decide +kernel))⟩
      rw [List.append_nil] at b2
      refine ⟨_, rfl, p, dx, _, rfl, I.hp, rfl, _, rfl, r, _, 1, .str nm, rfl, rfl, sv, rfl, _, rfl, r, _, 2, v2, rfl, rfl, sv, rfl, p, dx, nm, v2, o, t, t', e, ps, sts, w1, c1, rfl, I, h2, ho, by omega, b2, hl, by omega, fun H' ps' B I' eps fr => k H' ps' B I' (by rw [List.append_nil]; exact eps) fr⟩
    | again n nm t _ _ _ _ _ _ _ hn hg =>
      obtain ⟨r, vs, rfl, sv, dv⟩ := hv.un
      obtain ⟨v0, v1, v2, v3, rfl, h0, h1, h2, h3⟩ := dats4 dv
      rw [h0.str_eq, h1.int_eq, h2.str_eq] at sv
      refine ⟨_, rfl, r, _, 0, .str "again", rfl, rfl, sv, rfl, ?_⟩
      refine ⟨_, rfl, rfl, _, rfl, iteBB (fun hc => absurd hc (by decide +kernel)) (fun _ => ?_)⟩
      refine ⟨_, rfl, rfl, _, rfl, iteBB (fun hc => absurd hc (by decide +kernel)) (fun _ => ?_)⟩
      refine ⟨_, rfl, rfl, _, rfl, iteBB (fun _ => ?_) (fun hc => absurd hc (by decide +kernel))⟩
      refine ⟨_, rfl, r, _, 1, .int (n : Int), rfl, rfl, sv, rfl, (n : Int), rfl, by omega, by omega, for_range (lo := 0) (n := n) (fun i σ H' => BtZ [p, o.dr, o.nm, o.st] H H' ∧ SqT K H' r [.str "again", .int (n : Int), .str nm, v3] ∧ DatAt K H' v3 t ∧ ∃ (e1 : List (Key × V)) (psn : List (Addr × List Dt)) (wsn wr : List (List (Int × Int))) (sti str : List Dt) (ci cr : Nat) (o3 : Option V),
          OpI K H' C p dx { o with terms := o.terms + (ci : Int), slots := o.slots + (i : Int) } e1 (ps ++ psn) (sts ++ sti) ∧ psn.map (·.2) = wsn.map (fun d => d.map pI) ∧ (∀ q ∈ psn, H q.1 = none) ∧ sti.length = i ∧ Oag h nm t (n - i) e1 (ps ++ psn).length (o.slots + (i : Int)) e' wr str cr ∧ ws = wsn ++ wr ∧ st = sti ++ str ∧ c = ci + cr ∧
          σ = [some (.ref p), some (.ref r), some (.str "again"), o3, none])
        ⟨.refl, sv, h3, e, [], [], ws, [], st, 0, c, none, by rw [List.append_nil, List.append_nil, show o.terms + ((0 : Nat) : Int) = o.terms by omega, show o.slots + ((0 : Nat) : Int) = o.slots by omega]; exact I, rfl, (fun _ h => nomatch h), rfl, by rw [List.append_nil, show o.slots + ((0 : Nat) : Int) = o.slots by omega]; exact hg, rfl, rfl, by omega, rfl⟩ ?_ ?_⟩
      · rintro i σ H' hi ⟨B, sv', h3', e1, psn, wsn, wr, sti, str, ci, cr, o3, I', eps, fr, lsi, ag, rfl, rfl, rfl, rfl⟩
        rw [show n - i = (n - (i + 1)) + 1 by omega] at ag
        obtain ⟨t', w1, w2, c1, c2, st2, rfl, rfl, rfl, hl, ho, ag⟩ := ag.un
        have lpn : psn.length = wsn.length := by
          have := congrArg List.length eps
          rwa [List.length_map, List.length_map] at this
        simp only [List.length_append] at b2
        refine ⟨_, rfl, p, dx, _, rfl, I'.hp, rfl, _, rfl, r, _, 2, .str nm, rfl, rfl, sv', rfl, _, rfl, r, _, 3, v3, rfl, rfl, sv', rfl, p, dx, nm, v3, _, t, t', e1, ps ++ psn, sts ++ sti, w1, c1, rfl, I', h3', ho, (by show o.terms + (ci : Int) + (c1 : Int) ≤ 600; omega), (by rw [List.length_append]; omega), hl, (by rw [List.length_append]; omega), fun H5 ps5 B5 I5 eps5 fr5 => ?_⟩
        have nz := I'.ntz
        have l5 : ps5.length = w1.length := by
          have := congrArg List.length eps5
          rwa [List.length_map, List.length_map] at this
        refine ⟨B.trans B5, BtZ.tup nz B5 sv', h3'.butZ nz B5, putK e1 (Sum.inr nm) (.int (o.slots + (i : Int))), psn ++ ps5, wsn ++ w1, w2, sti ++ [stD (o.slots + (i : Int)) t'], st2, ci + c1, c2, _, ?_, ?_, ?_, by rw [List.length_append, lsi]; rfl, ?_, by rw [List.append_assoc], by rw [List.append_assoc]; rfl, by omega, rfl⟩
        · rw [← List.append_assoc, ← List.append_assoc, show o.terms + ((ci + c1 : Nat) : Int) = o.terms + (ci : Int) + (c1 : Int) by omega, show o.slots + ((i + 1 : Nat) : Int) = o.slots + (i : Int) + 1 by omega]
          exact I5
        · rw [List.map_append, List.map_append, eps, eps5]
        · intro q hq
          rcases List.mem_append.mp hq with z | z
          · exact fr q z
          · exact OpI.free I' B (fr5 q z)
        · rw [show (ps ++ (psn ++ ps5)).length = (ps ++ psn).length + w1.length by simp only [List.length_append]; omega, show o.slots + ((i + 1 : Nat) : Int) = o.slots + (i : Int) + 1 by omega]
          exact ag
      · rintro σ H' ⟨B, sv', h3', e1, psn, wsn, wr, sti, str, ci, cr, o3, I', eps, fr, lsi, ag, rfl, rfl, rfl, rfl⟩
        rw [show n - n = 0 by omega] at ag
        obtain ⟨rfl, rfl, rfl, rfl⟩ := ag.un0
        refine k H' psn B ?_ (by rw [List.append_nil]; exact eps) fr
        rw [List.append_nil]
        exact I'
    | see t t' _ _ _ _ _ ho =>
      obtain ⟨r, vs, rfl, sv, dv⟩ := hv.un
      obtain ⟨v0, v1, rfl, h0, h1⟩ := dv.two
      rw [h0.str_eq] at sv
      obtain ⟨hp, hn, ll, ⟨us, es, du⟩, sd, si⟩ := I
      have npd : p ≠ o.dr := fun z => by have := ll.at_; rw [← z, hp] at this; cases this
      have nps : p ≠ o.st := fun z => by rw [← z, hp] at es; cases es
      have npn : p ≠ o.nm := fun z => by rw [← z, hp] at hn; cases hn
      have nnd : o.nm ≠ o.dr := fun z => by have := ll.at_; rw [← z, hn] at this; cases this
      have nns : o.nm ≠ o.st := fun z => by rw [← z, hn] at es; cases es
      have nz := ntz hp ll.at_
      have lu := du.length
      refine ⟨_, rfl, r, _, 0, .str "see", rfl, rfl, sv, rfl, ?_⟩
      refine ⟨_, rfl, rfl, _, rfl, iteBB (fun hc => absurd hc (by decide +kernel)) (fun _ => ?_)⟩
      refine ⟨_, rfl, rfl, _, rfl, iteBB (fun hc => absurd hc (by decide +kernel)) (fun _ => ?_)⟩
      refine ⟨_, rfl, rfl, _, rfl, iteBB (fun hc => absurd hc (by decide +kernel)) (fun _ => ?_)⟩
      refine ⟨_, rfl, rfl, _, rfl, iteBB (fun _ => ?_) (fun hc => absurd hc (by decide +kernel))⟩
      refine ⟨_, rfl, p, C, dx, _, .ref o.st, rfl, hp, T.cl, T.n3, rfl, .inl ⟨rfl, _, SqL.of es⟩, _, rfl, _, rfl, p, dx, _, rfl, hp, rfl, _, rfl, r, _, 1, v1, rfl, rfl, sv, rfl, _, rfl, p, C, dx, o.fs, .ref o.nm, rfl, hp, T.cl, T.n2, rfl, p, dx, o.nm, v1, o, t, t', e, ps, ws, c, rfl, hp, h1, hn, ll, ho, b1, b2, fun v' H2 ps' BZ hp2 ll2 eps fr hv2 => ⟨two_le, fun q hq => ?_⟩⟩
      have hn2 := BZ _ _ (nin2 npn.symm nnd) hn
      have es2 := BZ _ _ (nin2 nps.symm sd) es
      have du2 := du.butZ nz BZ
      have BP : BtZ [p, o.dr, o.nm, o.st] H2 H2 := .refl
      have S4 := Same.upd (o := .tup [.int (-1), v']) hq
      refine ⟨o.st, us, _, rfl, rfl, S4 _ _ es2, Nat.lt_of_lt_of_le (show us.length < 1000 by omega) (by decide), ?_⟩
      have B5 : BtA o.st (upd H2 q (.tup [.int (-1), v'])) (upd (upd H2 q (.tup [.int (-1), v'])) o.st (.lst (us ++ [.ref q]))) := .upd
      have si5 : ∀ x ∈ ps ++ ps', x.1 ≠ o.st := fun x hx => by
        rcases List.mem_append.mp hx with z | z
        · exact si x z
        · exact (ne_of_none es (fr x z)).symm
      refine k _ ps' ?_ ⟨B5 _ _ nps (S4 _ _ hp2), B5 _ _ nns (S4 _ _ hn2), (ll2.same S4).but (.lst (S4 _ _ es2)) B5 sd.symm si5, ⟨_, upd_same, ((du2.same S4).append (.cons (.tup (SqT.of upd_same) (.cons (.int _) (.cons (hv2.same S4) .nil))) .nil)).but (.lst (S4 _ _ es2)) B5⟩, sd, si5⟩ eps fr
      exact ((BZ.mono (by simp)).trans BP).trans ((BtZ.of S4).trans (.one (by simp) B5))
    | ask t t' _ _ _ _ _ ho =>
      obtain ⟨r, vs, rfl, sv, dv⟩ := hv.un
      obtain ⟨v0, v1, rfl, h0, h1⟩ := dv.two
      rw [h0.str_eq] at sv
      obtain ⟨hp, hn, ll, ⟨us, es, du⟩, sd, si⟩ := I
      have npd : p ≠ o.dr := fun z => by have := ll.at_; rw [← z, hp] at this; cases this
      have nps : p ≠ o.st := fun z => by rw [← z, hp] at es; cases es
      have npn : p ≠ o.nm := fun z => by rw [← z, hp] at hn; cases hn
      have nnd : o.nm ≠ o.dr := fun z => by have := ll.at_; rw [← z, hn] at this; cases this
      have nns : o.nm ≠ o.st := fun z => by rw [← z, hn] at es; cases es
      have nz := ntz hp ll.at_
      have lu := du.length
      refine ⟨_, rfl, r, _, 0, .str "ask", rfl, rfl, sv, rfl, ?_⟩
      refine ⟨_, rfl, rfl, _, rfl, iteBB (fun hc => absurd hc (by decide +kernel)) (fun _ => ?_)⟩
      refine ⟨_, rfl, rfl, _, rfl, iteBB (fun hc => absurd hc (by decide +kernel)) (fun _ => ?_)⟩
      refine ⟨_, rfl, rfl, _, rfl, iteBB (fun hc => absurd hc (by decide +kernel)) (fun _ => ?_)⟩
      refine ⟨_, rfl, rfl, _, rfl, iteBB (fun hc => absurd hc (by decide +kernel)) (fun _ => ?_)⟩
      refine ⟨_, rfl, p, dx, _, rfl, hp, rfl, _, rfl, r, _, 1, v1, rfl, rfl, sv, rfl, _, rfl, p, C, dx, o.fs, .ref o.nm, rfl, hp, T.cl, T.n2, rfl, p, dx, o.nm, v1, o, t, t', e, ps, ws, c, rfl, hp, h1, hn, ll, ho, b1, b2, fun v' H1 ps' BZ hp1 ll1 eps fr hv1 => ?_⟩
      have hn1 := BZ _ _ (nin2 npn.symm nnd) hn
      have es1 := BZ _ _ (nin2 nps.symm sd) es
      have du1 := du.butZ nz BZ
      refine ⟨_, rfl, p, C, dx, _, .ref o.st, rfl, hp1, T.cl, T.n3, rfl, .inl ⟨rfl, _, SqL.of es1⟩, _, rfl, p, dx, _, rfl, hp1, rfl, p, dx, _, rfl, hp1, _, rfl, two_le, fun q hq => ?_⟩
      have B2 : BtA p H1 (upd H1 p (.ins C dx { o with terms := o.terms + c, slots := o.slots + 1 }.fs)) := .upd
      have hp2 : (upd H1 p (.ins C dx { o with terms := o.terms + c, slots := o.slots + 1 }.fs)) p = some (.ins C dx { o with terms := o.terms + c, slots := o.slots + 1 }.fs) := upd_same
      have in1 : ∀ x ∈ ps ++ ps', x.1 ≠ p := fun x hx z => by
        obtain ⟨_, e2, _⟩ := ll1.it x hx
        rw [z, hp1] at e2
        cases e2
      have ll2 := ll1.but (.ins hp1) B2 npd.symm in1
      have hn2 := B2 _ _ npn.symm hn1
      have es2 := B2 _ _ nps.symm es1
      have du2 := du1.but (.ins hp1) B2
      have hv2 := hv1.but (.ins hp1) B2
      have BP : BtZ [p, o.dr, o.nm, o.st] H1 (upd H1 p (.ins C dx { o with terms := o.terms + c, slots := o.slots + 1 }.fs)) := .one (by simp) B2
      generalize upd H1 p (.ins C dx { o with terms := o.terms + c, slots := o.slots + 1 }.fs) = H2 at hq B2 hp2 ll2 hn2 es2 du2 hv2 BP
      have S4 := Same.upd (o := .tup [.int o.slots, v']) hq
      refine ⟨o.st, us, _, rfl, rfl, S4 _ _ es2, Nat.lt_of_lt_of_le (show us.length < 1000 by omega) (by decide), ?_⟩
      have B5 : BtA o.st (upd H2 q (.tup [.int o.slots, v'])) (upd (upd H2 q (.tup [.int o.slots, v'])) o.st (.lst (us ++ [.ref q]))) := .upd
      have si5 : ∀ x ∈ ps ++ ps', x.1 ≠ o.st := fun x hx => by
        rcases List.mem_append.mp hx with z | z
        · exact si x z
        · exact (ne_of_none es (fr x z)).symm
      refine k _ ps' ?_ ⟨B5 _ _ nps (S4 _ _ hp2), B5 _ _ nns (S4 _ _ hn2), (ll2.same S4).but (.lst (S4 _ _ es2)) B5 sd.symm si5, ⟨_, upd_same, ((du2.same S4).append (.cons (.tup (SqT.of upd_same) (.cons (.int _) (.cons (hv2.same S4) .nil))) .nil)).but (.lst (S4 _ _ es2)) B5⟩, sd, si5⟩ eps fr
      exact ((BZ.mono (by simp)).trans BP).trans ((BtZ.of S4).trans (.one (by simp) B5))
end
end K22
namespace K22
open PySem L2 FW PyProof.Rows
section
variable {P : Program} {w : World} {K : PySem.W.Frag} {mg : Str → Option Value} {base : Heap} {C : Addr} {uS uD : Value}
/-- a new thing, and a field that holds it -/
theorem fld_new {H J : Hp} {p a dx : Addr} {fs fs' : List (Str × V)} {x : HO} (hp : J p = some (.ins C dx fs)) (B : BtA p H J) (ha : J a = none) :
    (upd J a x) p = some (.ins C dx fs) ∧ (upd (upd J a x) p (.ins C dx fs')) p = some (.ins C dx fs') ∧ (upd (upd J a x) p (.ins C dx fs')) a = some x ∧ BtA p H (upd (upd J a x) p (.ins C dx fs')) ∧ BtA p J (upd (upd J a x) p (.ins C dx fs')) ∧ H a = none ∧ a ≠ p := by
  have n : p ≠ a := ne_of_none hp ha
  have B2 : BtA p J (upd (upd J a x) p (.ins C dx fs')) := (BtA.updF ha).trans .upd
  refine ⟨by rw [upd_ne n]; exact hp, upd_same, by rw [upd_ne n.symm, upd_same], B.trans B2, B2, ?_, n.symm⟩
  cases hH : H a with
  | none => rfl
  | some y => rw [B _ _ n.symm hH] at ha; cases ha
theorem ok_init {f : Addr} {fd : FuncData} (F : Fun K "__init__" "Opener.__init__" s_Opener_init f fd) (T : Txt K mg C uS uD) : FnOk P w K mg base CX0 1 f fd ["self"] (sp_init C) := by
  refine F.ok sc_Opener_init (fun vs H Q E h => ?_) (fun cdv Ar outer s H vs Q E hr h => ?_)
  · obtain ⟨p, dx, rfl, _⟩ := h
    rfl
  · obtain ⟨p, dx, rfl, hp, k⟩ := h
    refine ⟨_, (pss_cons (ps_fld (pv 0) pe_dnewK rfl)
      (pss_cons (ps_fld (pv 0) pe_dnewK rfl)
      (pss_cons (ps_fld (pv 0) (pe_lst pa_nil) rfl)
      (pss_cons (ps_fld (pv 0) (pe_lst pa_nil) rfl)
      (pss_cons (ps_fld (pv 0) pe_int rfl)
      (pss_one (ps_fld (pv 0) pe_int rfl))))))), ?_⟩
    refine fun a1 h1 => ?_
    obtain ⟨q1, q2, q3, q4, q5, q6, q7⟩ := fld_new (fs' := [("helpers", .ref a1)]) (x := .dK []) hp (BtA.refl (a := p)) h1
    refine ⟨_, rfl, p, C, dx, [], rfl, q1, T.cl, T.n1, (by show 0 < 1000; decide), ?_⟩
    refine fun a2 h2 => ?_
    obtain ⟨r1, r2, r3, r4, r5, r6, r7⟩ := fld_new (fs' := [("helpers", .ref a1), ("names", .ref a2)]) (x := .dK []) q2 q4 h2
    refine ⟨_, rfl, p, C, dx, _, rfl, r1, T.cl, T.n2, (by show 1 < 1000; decide), ?_⟩
    refine ⟨Nat.zero_le _, fun a3 h3 => ?_⟩
    obtain ⟨s1, s2, s3, s4, s5, s6, s7⟩ := fld_new (fs' := [("helpers", .ref a1), ("names", .ref a2), ("steps", .ref a3)]) (x := .lst []) r2 r4 h3
    refine ⟨_, rfl, p, C, dx, _, rfl, s1, T.cl, T.n3, (by show 2 < 1000; decide), ?_⟩
    refine ⟨Nat.zero_le _, fun a4 h4 => ?_⟩
    obtain ⟨t1, t2, t3, t4, t5, t6, t7⟩ := fld_new (fs' := [("helpers", .ref a1), ("names", .ref a2), ("steps", .ref a3), ("draws", .ref a4)]) (x := .lst []) s2 s4 h4
    refine ⟨_, rfl, p, C, dx, _, rfl, t1, T.cl, T.n4, (by show 3 < 1000; decide), ?_⟩
    refine ⟨_, rfl, p, C, dx, _, rfl, t2, T.cl, T.n5, (by show 4 < 1000; decide), ?_⟩
    refine ⟨_, rfl, p, C, dx, _, rfl, upd_same, T.cl, T.n6, (by show 5 < 1000; decide), ?_⟩
    have n12 : a1 ≠ a2 := ne_of_none q3 h2
    have n34 : a3 ≠ a4 := ne_of_none s3 h4
    have e1 := t5 _ _ q7 (s5 _ _ q7 (r5 _ _ q7 q3))
    have e2 := t5 _ _ r7 (s5 _ _ r7 r3)
    have e3 := t5 _ _ s7 s3
    refine k ⟨a1, a2, a3, a4, 0, 0⟩ _ ((t4.trans .upd).trans .upd) upd_same rfl rfl ?_ ?_ ?_ ?_ (fun a ha => ?_) n12 n34
    · rw [upd_ne q7, upd_ne q7]; exact e1
    · rw [upd_ne r7, upd_ne r7]; exact e2
    · rw [upd_ne s7, upd_ne s7]; exact e3
    · rw [upd_ne t7, upd_ne t7]; exact t3
    · simp only [List.mem_cons, List.not_mem_nil, or_false] at ha
      rcases ha with z | z | z | z <;> rw [z]
      · exact q6
      · exact r6
      · exact s6
      · exact t6
end
end K22
namespace K22
open PySem L2 FW PyProof.Rows
/-- a term whose names are all known -/
inductive Kn (e : List (Key × V)) : Nat → Dt → Prop
  | name {h : Nat} (nm : Str) (hv : (valV e (Sum.inr nm)).isSome = true) : Kn e (h + 1) (.tup [.str "name", .str nm])
  | node {h : Nat} (kd : Str) (rr ds : List Dt) (n1 : kd ≠ "name") (n2 : kd ≠ "call") (hp : Pt (.tup (.str kd :: rr)) ds) (hs : ∀ d ∈ ds, Kn e h d) : Kn e (h + 1) (.tup (.str kd :: rr))
def sp_check (K : PySem.W.Frag) (h : Nat) : Sp := fun vs H Q _ => ∃ (rw_ v hl : V) (nm : Addr) (t : Dt) (e : List (Key × V)), vs = [rw_, v, .ref nm, hl] ∧ DatAt K H v t ∧ H nm = some (.dK e) ∧ Kn e h t ∧ ∀ H', Same H H' → Q .non H'
section
variable {P : Program} {w : World} {K : PySem.W.Frag} {mg : Str → Option Value} {base : Heap}
theorem ok_check {f fP : Addr} {fd dP : FuncData} (A : FnAt K mg "check_term" s_check_term ["row", "term", "names", "helpers"] f fd) (A_parts_of : FnAt K mg "parts_of" s_parts_of ["term"] fP dP) (B : Bl mg) (len_ : mg "len" = none) : ∀ h : Nat, FnOk P w K mg base CX0 (h + 1) f fd ["row", "term", "names", "helpers"] (sp_check K h)
  | 0 => by
    refine FnOk.imp (FnOk.no) (fun vs H Q E h => ?_)
    obtain ⟨rw_, v, hl, nm, t, e, rfl, _, _, b, _⟩ := h
    cases b
  | N + 1 => by
    have G_check_term : FnOk P w K mg base CX0 (N + 1) f fd _ (sp_check K N) := ok_check A A_parts_of B len_ N
    have G_parts_of : FnOk P w K mg base CX0 1 fP dP _ (sp_parts K) := ok_parts_of A_parts_of B
    refine A.F.ok (k := N + 1) sc_check_term (fun vs H Q E h => ?_) (fun cdv Ar outer s H vs Q E hr h => ?_)
    · obtain ⟨rw_, v, hl, nm, t, e, rfl, _⟩ := h
      rfl
    · obtain ⟨rw_, v, hl, nm, t, e, rfl, hv, hn, b, k⟩ := h
      refine ⟨_, (pss_cons (ps_set (i := 4) sc_check_term.nd rfl (Or.inl rfl) (pe_ix ix_tup (pv 1) pe_int (fun _ _ => rfl)))
        (pss_cons (ps_if (PW.pt (pw_and (pt_cmpR op_eq (pv 4) pe_str (nomark _)) (pw_and1 (pt_cmpR (op_notinD (hu_of hr)) (pe_ix ix_tup (pv 1) pe_int (fun _ _ => rfl)) (pv 2) (by rfl))))) pss_no pss_nil)
        (pss_cons (ps_if (PW.pt (pw_and (pt_cmpR op_eq (pv 4) pe_str (nomark _)) (pw_and1 (pt_cmpR op_ne pe_no (pe_callB call_len_seq (by rfl) len_ Boot.«len» (pa_cons (pe_ix ix_tup (pv 1) pe_int (fun _ _ => rfl)) pa_nil)) (nomark _))))) pss_no pss_nil)
        (pss_one (ps_for PassesOwn.never rfl (pi_list (pe_call G_parts_of (hr.mono (by omega)) rfl A_parts_of.m A_parts_of.F.kp A_parts_of.b .nil pass0 (pa_cons (pv 1) pa_nil))) (pg_name (i := 5) sc_check_term.nd rfl (Or.inl rfl)) (pss_one (ps_expr (pe_call G_check_term hr rfl A.m A.F.kp A.b .nil pass0 (pa_cons (pv 0) (pa_cons (pv 5) (pa_cons (pv 2) (pa_cons (pv 3) pa_nil)))))))))))), ?_⟩
      cases b with
      | name nm' hval =>
        obtain ⟨r, vs, rfl, sv, dv⟩ := hv.un
        obtain ⟨v0, v1, rfl, h0, h1⟩ := dv.two
        rw [h0.str_eq, h1.str_eq] at sv
        refine ⟨_, rfl, r, _, 0, .str "name", rfl, rfl, sv, rfl, ?_⟩
        refine ⟨_, rfl, rfl, _, rfl, iteBB (fun _ => ?_) (fun hc => absurd hc (by decide +kernel))⟩
        refine ⟨_, rfl, r, _, 1, .str nm', rfl, rfl, sv, rfl, _, rfl, nm, _, rfl, DGet.k (k := Sum.inr nm') hn, _, rfl, ?_⟩
        rw [hval]
        refine iteF ?_
        refine ⟨_, rfl, rfl, _, rfl, iteBB (fun hc => absurd hc (by decide +kernel)) (fun _ => ?_)⟩
        refine iteF ?_
        refine ⟨_, rfl, .ref r, _, [], rfl, hv, .name _, fun P1 H1 S1 hP1 lsP => ?_⟩
        obtain ⟨us, eP, du⟩ := lsP
        have := du.un0
        subst this
        exact ⟨P1, rfl, ⟨_, SqL.of eP⟩, for_list (K := K) (a := P1) (xs := []) (fun i σ H' => H' = H1) rfl (fun i σ H' _ z => by rw [z]; exact SqL.of eP) (fun i x σ H' hx _ => by simp at hx) (fun σ H' z => by rw [z]; exact k H1 S1)⟩
      | node kd rr ds n1 n2 hpt hs =>
        obtain ⟨r, vs, rfl, sv, dv⟩ := hv.un
        obtain ⟨v0, vr, rfl, g0, g1⟩ := dv.un
        rw [g0.str_eq] at sv
        refine ⟨_, rfl, r, _, 0, .str kd, rfl, rfl, sv, atI_nat (j := 0) rfl, ?_⟩
        refine ⟨_, rfl, rfl, _, rfl, iteBB (fun hc => absurd (show kd = "name" by simpa using hc) n1) (fun _ => ?_)⟩
        refine iteF ?_
        refine ⟨_, rfl, rfl, _, rfl, iteBB (fun hc => absurd (show kd = "call" by simpa using hc) n2) (fun _ => ?_)⟩
        refine iteF ?_
        refine ⟨_, rfl, .ref r, _, ds, rfl, hv, hpt, fun P1 H1 S1 hP1 lsP => ?_⟩
        obtain ⟨us, eP, du⟩ := lsP
        refine ⟨P1, rfl, ⟨_, SqL.of eP⟩, for_list (K := K) (a := P1) (xs := us) (fun i σ H' => Same H1 H' ∧ ∃ o5, σ = [some rw_, some (.ref r), some (.ref nm), some hl, some (.str kd), o5]) ⟨.refl _, none, rfl⟩ (fun i σ H' _ z => SqL.of (z.1 _ _ eP)) ?_ (fun σ H' z => k H' (S1.trans z.1))⟩
        rintro i x σ H' hx ⟨S2, o5, rfl⟩
        obtain ⟨d, ed, hxd⟩ := (du.same S2).get' hx
        exact ⟨_, rfl, _, rfl, _, rfl, _, rfl, rw_, x, hl, nm, d, e, rfl, hxd, (S1.trans S2) _ _ hn, hs d (List.mem_of_getElem? ed), fun H3 S3 => ⟨S2.trans S3, _, rfl⟩⟩
end
end K22
namespace K22
open PySem L2 FW PyProof.Rows
/-- rows opened one behind the other -/
inductive Orows (h : Nat) : List Dt → List (Key × V) → Nat → Int → List (Key × V) → List (List (Int × Int)) → List Dt → Int → Nat → Prop
  | nil (e : List (Key × V)) (k : Nat) (s : Int) : Orows h [] e k s e [] [] s 0
  | cons (r : Dt) (rs : List Dt) (e e1 e2 : List (Key × V)) (k : Nat) (s s1 s2 : Int) (w1 w2 : List (List (Int × Int))) (st1 st2 : List Dt) (c1 c2 : Nat) (hr : Orow h r e k s e1 w1 st1 s1 c1) (hs : Orows h rs e1 (k + w1.length) s1 e2 w2 st2 s2 c2) : Orows h (r :: rs) e k s e2 (w1 ++ w2) (st1 ++ st2) s2 (c1 + c2)
theorem Orows.un {h k c : Nat} {r : Dt} {rs st : List Dt} {e e2 : List (Key × V)} {s s2 : Int} {ws : List (List (Int × Int))} (o : Orows h (r :: rs) e k s e2 ws st s2 c) :
    ∃ e1 w1 w2 st1 st2 s1 c1 c2, ws = w1 ++ w2 ∧ st = st1 ++ st2 ∧ c = c1 + c2 ∧ Orow h r e k s e1 w1 st1 s1 c1 ∧ Orows h rs e1 (k + w1.length) s1 e2 w2 st2 s2 c2 := by
  cases o with
  | cons _ _ _ e1 _ _ _ s1 _ w1 w2 st1 st2 c1 c2 hr hs => exact ⟨e1, w1, w2, st1, st2, s1, c1, c2, rfl, rfl, rfl, hr, hs⟩
theorem Orows.un0 {h k c : Nat} {st : List Dt} {e e2 : List (Key × V)} {s s2 : Int} {ws : List (List (Int × Int))} (o : Orows h [] e k s e2 ws st s2 c) : e2 = e ∧ ws = [] ∧ st = [] ∧ s2 = s ∧ c = 0 := by
  cases o
  exact ⟨rfl, rfl, rfl, rfl, rfl⟩
theorem Orows.snoc {h : Nat} {r : Dt} {e2 : List (Key × V)} {w2 : List (List (Int × Int))} {st2 : List Dt} {s2 : Int} {c2 : Nat} : ∀ {rs : List Dt} {e e1 : List (Key × V)} {k : Nat} {s s1 : Int} {w1 : List (List (Int × Int))} {st1 : List Dt} {c1 : Nat}, Orows h rs e k s e1 w1 st1 s1 c1 → Orow h r e1 (k + w1.length) s1 e2 w2 st2 s2 c2 → Orows h (rs ++ [r]) e k s e2 (w1 ++ w2) (st1 ++ st2) s2 (c1 + c2)
  | [], e, e1, k, s, s1, w1, st1, c1, o, hr => by
    obtain ⟨rfl, rfl, rfl, rfl, rfl⟩ := o.un0
    have := Orows.cons r [] e1 e2 e2 k s1 s2 s2 w2 [] st2 [] c2 0 hr (.nil _ _ _)
    rw [List.append_nil, List.append_nil] at this
    rw [List.nil_append, List.nil_append, List.nil_append, Nat.zero_add]
    exact this
  | r0 :: rs, e, e1, k, s, s1, w1, st1, c1, o, hr => by
    obtain ⟨e3, u1, u2, t1, t2, s3, d1, d2, rfl, rfl, rfl, hr0, hs⟩ := o.un
    rw [List.append_assoc, List.append_assoc, Nat.add_assoc]
    refine .cons r0 (rs ++ [r]) e e3 e2 k s s3 s2 u1 (u2 ++ w2) t1 (t2 ++ st2) d1 (d2 + c2) hr0 (hs.snoc ?_)
    rw [List.length_append, ← Nat.add_assoc] at hr
    exact hr
/-- a row whose names are known -/
inductive Ck1 (h : Nat) : Dt → List (Key × V) → List (Key × V) → Prop
  | see (t : Dt) (e : List (Key × V)) (k : Kn e h t) : Ck1 h (.tup [.str "see", t]) e e
  | ask (t : Dt) (e : List (Key × V)) (k : Kn e h t) : Ck1 h (.tup [.str "ask", t]) e e
  | again (n : Int) (nm : Str) (t : Dt) (e : List (Key × V)) (hv : (valV e (Sum.inr nm)).isSome = true) (k : Kn e h t) : Ck1 h (.tup [.str "again", .int n, .str nm, t]) e e
  | lett (nm : Str) (t : Dt) (e : List (Key × V)) (k : Kn e h t) (hl : e.length < 1000) : Ck1 h (.tup [.str "let", .str nm, t]) e (putK e (Sum.inr nm) (.bl true))
inductive Cks (h : Nat) : List Dt → List (Key × V) → List (Key × V) → Prop
  | nil (e : List (Key × V)) : Cks h [] e e
  | cons (r : Dt) (rs : List Dt) (e e1 e2 : List (Key × V)) (hr : Ck1 h r e e1) (hs : Cks h rs e1 e2) : Cks h (r :: rs) e e2
theorem Cks.un {h : Nat} {r : Dt} {rs : List Dt} {e e2 : List (Key × V)} (o : Cks h (r :: rs) e e2) : ∃ e1, Ck1 h r e e1 ∧ Cks h rs e1 e2 := by
  cases o with
  | cons _ _ _ e1 _ hr hs => exact ⟨e1, hr, hs⟩
theorem Cks.un0 {h : Nat} {e e2 : List (Key × V)} (o : Cks h [] e e2) : e2 = e := by
  cases o
  rfl
theorem Cks.snoc {h : Nat} {r : Dt} {e2 : List (Key × V)} : ∀ {rs : List Dt} {e e1 : List (Key × V)}, Cks h rs e e1 → Ck1 h r e1 e2 → Cks h (rs ++ [r]) e e2
  | [], e, e1, o, hr => by
    cases o.un0
    exact .cons _ _ _ _ _ hr (.nil _)
  | r0 :: rs, e, e1, o, hr => by
    obtain ⟨e3, h0, hs⟩ := o.un
    exact .cons _ _ _ _ _ h0 (hs.snoc hr)
/-- texts, numbers and tuples of such, not deeper than so -/
inductive Okd : Nat → Dt → Prop
  | int (n : Nat) (i : Int) : Okd n (.int i)
  | str (n : Nat) (i : Str) : Okd n (.str i)
  | tup (n : Nat) (ds : List Dt) (h : ∀ d ∈ ds, Okd n d) : Okd (n + 1) (.tup ds)
theorem Okd.mono {n m : Nat} {d : Dt} (h : Okd n d) : n ≤ m → Okd m d := by
  induction h generalizing m with
  | int => exact fun _ => .int _ _
  | str => exact fun _ => .str _ _
  | tup n ds h ih =>
    intro l
    obtain ⟨m', rfl⟩ : ∃ m', m = m' + 1 := ⟨m - 1, by omega⟩
    exact .tup _ _ fun d hd => ih d hd (by omega)
theorem Okd.un {n : Nat} {ds : List Dt} (h : Okd (n + 1) (.tup ds)) : ∀ d ∈ ds, Okd n d := by
  cases h with
  | tup _ _ h => exact h
theorem hgts_le {n : Nat} : ∀ {ds : List Dt}, (∀ d ∈ ds, d.hgt ≤ n) → Dt.hgts ds ≤ n
  | [], _ => by simp [Dt.hgts]
  | d :: ds, h => by
    have h1 := h d (by simp)
    have h2 := hgts_le fun x hx => h x (List.mem_cons_of_mem _ hx)
    simp only [Dt.hgts]
    omega
theorem Okd.hgt {n : Nat} {d : Dt} (h : Okd n d) : d.hgt ≤ n := by
  induction h with
  | int => simp [Dt.hgt]
  | str => simp [Dt.hgt]
  | tup n ds h ih =>
    have := hgts_le ih
    simp only [Dt.hgt]
    omega
theorem okd1 {n : Nat} {a : Dt} (h : Okd n a) : ∀ d ∈ [a], Okd n d := by simpa using h
theorem okd2 {n : Nat} {a b : Dt} (h1 : Okd n a) (h2 : Okd n b) : ∀ d ∈ [a, b], Okd n d := by
  intro d hd
  rcases List.mem_cons.mp hd with rfl | hd
  · exact h1
  · exact okd1 h2 d hd
theorem okd3 {n : Nat} {a b c : Dt} (h1 : Okd n a) (h2 : Okd n b) (h3 : Okd n c) : ∀ d ∈ [a, b, c], Okd n d := by
  intro d hd
  rcases List.mem_cons.mp hd with rfl | hd
  · exact h1
  · exact okd2 h2 h3 d hd
theorem okd4 {n : Nat} {a b c e : Dt} (h1 : Okd n a) (h2 : Okd n b) (h3 : Okd n c) (h4 : Okd n e) : ∀ d ∈ [a, b, c, e], Okd n d := by
  intro d hd
  rcases List.mem_cons.mp hd with rfl | hd
  · exact h1
  · exact okd3 h2 h3 h4 d hd
theorem okd_pI (n : Nat) (p : Int × Int) : Okd (n + 1) (pI p) := .tup _ _ (okd2 (.int _ _) (.int _ _))
theorem Dr.okd {t : Dt} {ps : List (Int × Int)} (h : Dr t ps) (n : Nat) : Okd (n + 3) t := by
  cases h with
  | flip a b => exact .tup _ _ (okd3 (.str _ _) (.int _ _) (.int _ _))
  | pick => exact .tup _ _ (okd2 (.str _ _) (.tup _ _ fun d hd => by
      obtain ⟨p, _, rfl⟩ := List.mem_map.mp hd
      exact okd_pI _ _))
/-- no bind -/
def Nb (t : Dt) : Prop := ∀ r, t ≠ .tup (.str "bind" :: r)
theorem Wp.nb {t t' : Dt} {xs : List Dt} (h : Wp t xs t') : Nb t ∧ Nb t' := by
  cases h <;> exact ⟨fun r z => by injection z with z; injection z with z _; injection z with z; exact absurd z (by decide +kernel), fun r z => by injection z with z; injection z with z _; injection z with z; exact absurd z (by decide +kernel)⟩
theorem Wp.any {t t1 : Dt} {ds ds' : List Dt} (h : Wp t ds t1) (l : ds'.length = ds.length) : ∃ t', Wp t ds' t' := by
  cases h with
  | ite a b c x y z =>
    match ds', l with
    | [x, y, z], _ => exact ⟨_, .ite _ _ _ _ _ _⟩
  | op s a b x y =>
    match ds', l with
    | [x, y], _ => exact ⟨_, .op _ _ _ _ _⟩
  | rest a n x =>
    match ds', l with
    | [x], _ => exact ⟨_, .rest _ _ _⟩
  | field a n x =>
    match ds', l with
    | [x], _ => exact ⟨_, .field _ _ _⟩
  | record fs xs hl h6 => exact ⟨_, .record fs ds' (l.trans hl) h6⟩
theorem Wp.pt {t t' : Dt} {xs : List Dt} (h : Wp t xs t') : Pt t' xs := by
  cases h with
  | ite => exact .ite _ _ _
  | op => exact .op _ _ _
  | rest => exact .rest _ _
  | field => exact .field _ _
  | record fs _ hl h6 =>
    have e : ((((fs.map (·.1)).zip xs).map prS).map (·.2)) = xs := by
      rw [List.map_map]
      show ((fs.map (·.1)).zip xs).map (fun p => p.2) = xs
      exact List.map_snd_zip (by rw [List.length_map, hl]; exact Nat.le_refl _)
    have := Pt.record (((fs.map (·.1)).zip xs).map prS) (by rw [List.length_map, List.length_zip, List.length_map]; omega)
    rw [e] at this
    exact this
theorem Wp.okd {n : Nat} {t t' : Dt} {xs : List Dt} (h : Wp t xs t') (ht : Okd (n + 3) t) (hx : ∀ x ∈ xs, Okd n x) : Okd (n + 3) t' := by
  have hx2 : ∀ x ∈ xs, Okd (n + 2) x := fun x h => (hx x h).mono (by omega)
  cases h with
  | ite a b c x y z => exact .tup _ _ (okd4 (.str _ _) (hx2 _ (by simp)) (hx2 _ (by simp)) (hx2 _ (by simp)))
  | op s a b x y => exact .tup _ _ (okd4 (.str _ _) (.str _ _) (hx2 _ (by simp)) (hx2 _ (by simp)))
  | rest a m x => exact .tup _ _ (okd3 (.str _ _) (hx2 _ (by simp)) (ht.un _ (by simp)))
  | field a m x => exact .tup _ _ (okd3 (.str _ _) (hx2 _ (by simp)) (ht.un _ (by simp)))
  | record fs _ hl h6 =>
    refine .tup _ _ (okd2 (.str _ _) (.tup _ _ fun d hd => ?_))
    rw [List.map_map] at hd
    obtain ⟨p, hp, rfl⟩ := List.mem_map.mp hd
    exact .tup _ _ (okd2 (.str _ _) (hx _ (List.of_mem_zip hp).2))
mutual
/-- a good term: the names known, how deep; its draws, how many terms -/
inductive Gt (kn : List Str) : Nat → Dt → Nat → Nat → Prop
  | num {h : Nat} (x : Int) : Gt kn (h + 1) (.tup [.str "num", .int x]) 0 1
  | name {h : Nat} (s : Str) (hs : s ∈ kn) : Gt kn (h + 1) (.tup [.str "name", .str s]) 0 1
  | draw {h : Nat} (t : Dt) (ps : List (Int × Int)) (hd : Dr t ps) : Gt kn (h + 1) t 1 1
  | node {h : Nat} (t t1 : Dt) (ds : List Dt) (n c : Nat) (hp : Pt t ds) (hw : Wp t ds t1) (ok : Okd (3 * h + 3) t) (hs : Gts kn h ds n c) : Gt kn (h + 1) t n (c + 1)
inductive Gts (kn : List Str) : Nat → List Dt → Nat → Nat → Prop
  | nil {h : Nat} : Gts kn h [] 0 0
  | cons {h : Nat} (d : Dt) (ds : List Dt) (n1 n2 c1 c2 : Nat) (hd : Gt kn h d n1 c1) (hs : Gts kn h ds n2 c2) : Gts kn h (d :: ds) (n1 + n2) (c1 + c2)
end
mutual
/-- how many terms a term without a bind is -/
inductive Sz : Nat → Dt → Nat → Prop
  | mk {h : Nat} (t : Dt) (ds : List Dt) (m : Nat) (hp : Pt t ds) (nb : Nb t) (hs : Szs h ds m) : Sz (h + 1) t (m + 1)
inductive Szs : Nat → List Dt → Nat → Prop
  | nil {h : Nat} : Szs h [] 0
  | cons {h : Nat} (d : Dt) (ds : List Dt) (m1 m2 : Nat) (hd : Sz h d m1) (hs : Szs h ds m2) : Szs h (d :: ds) (m1 + m2)
end
theorem nb_of {k : Str} {r : List Dt} (h : k ≠ "bind") : Nb (.tup (.str k :: r)) := fun r z => by
  injection z with z; injection z with z _; injection z with z; exact absurd z h
theorem sz_num (h : Nat) (x : Dt) : Sz (h + 1) (.tup [.str "num", x]) 1 := .mk _ [] 0 (.num x) (nb_of (by decide +kernel)) .nil
theorem sz_slot (h : Nat) (x : Dt) : Sz (h + 1) (.tup [.str "slot", x]) 1 := .mk _ [] 0 (.slot x) (nb_of (by decide +kernel)) .nil
theorem sz_draw (h : Nat) (x : Dt) : Sz (h + 1) (.tup [.str "draw", x]) 1 := .mk _ [] 0 (.draw x) (nb_of (by decide +kernel)) .nil
mutual
theorem Gt.opens {kn : List Str} {e : List (Key × V)} (he : ∀ s ∈ kn, ∃ i : Int, valV e (Sum.inr s) = some (.int i)) : ∀ {h : Nat} {t : Dt} {n c : Nat}, Gt kn h t n c → ∀ k, ∃ t' ws, Ot e h t k t' ws c ∧ ws.length = n ∧ Okd (3 * h) t' ∧ Sz h t' c
  | _, _, _, _, .num x, k => ⟨_, _, .num _ k, rfl, .tup _ _ (okd2 (.str _ _) (.int _ _)), sz_num _ _⟩
  | _, _, _, _, .name s hs, k => by
    obtain ⟨i, hi⟩ := he s hs
    exact ⟨_, _, .name s i k hi, rfl, .tup _ _ (okd2 (.str _ _) (.int _ _)), sz_slot _ _⟩
  | _, _, _, _, .draw t ps hd, k => ⟨_, _, .draw t ps k hd, rfl, .tup _ _ (okd2 (.str _ _) (.int _ _)), sz_draw _ _⟩
  | _, _, _, _, .node t t1 ds n c hp hw ok hs, k => by
    obtain ⟨ds', ws, os, l, o3, s3⟩ := Gts.opens he hs k
    obtain ⟨t', hw'⟩ := hw.any os.len
    exact ⟨t', ws, .node t ds t' ds' k ws c hp os hw', l, hw'.okd ok o3, .mk t' ds' c hw'.pt hw'.nb.2 s3⟩
theorem Gts.opens {kn : List Str} {e : List (Key × V)} (he : ∀ s ∈ kn, ∃ i : Int, valV e (Sum.inr s) = some (.int i)) : ∀ {h : Nat} {ds : List Dt} {n c : Nat}, Gts kn h ds n c → ∀ k, ∃ ds' ws, Ots e h ds k ds' ws c ∧ ws.length = n ∧ (∀ d ∈ ds', Okd (3 * h) d) ∧ Szs h ds' c
  | _, _, _, _, .nil, k => ⟨_, _, .nil k, rfl, (fun _ h => nomatch h), .nil⟩
  | _, _, _, _, .cons d ds n1 n2 c1 c2 hd hs, k => by
    obtain ⟨d', w1, o1, l1, k1, z1⟩ := Gt.opens he hd k
    obtain ⟨ds', w2, o2, l2, k2, z2⟩ := Gts.opens he hs (k + w1.length)
    refine ⟨d' :: ds', w1 ++ w2, .cons _ _ _ _ _ _ _ _ _ o1 o2, by rw [List.length_append]; omega, fun x hx => ?_, .cons _ _ _ _ z1 z2⟩
    rcases List.mem_cons.mp hx with rfl | hx
    · exact k1
    · exact k2 x hx
end
mutual
theorem Gt.kn {kn : List Str} {e : List (Key × V)} (he : ∀ s ∈ kn, (valV e (Sum.inr s)).isSome = true) : ∀ {h : Nat} {t : Dt} {n c : Nat}, Gt kn h t n c → Kn e h t
  | _, _, _, _, .num x => .node "num" _ [] (by decide +kernel) (by decide +kernel) (.num _) (fun _ h => nomatch h)
  | _, _, _, _, .name s hs => .name s (he s hs)
  | _, _, _, _, .draw t ps hd => by
    cases hd
    · exact .node "flip" _ [] (by decide +kernel) (by decide +kernel) (.flip _ _) (fun _ h => nomatch h)
    · exact .node "pick" _ [] (by decide +kernel) (by decide +kernel) (.pick _) (fun _ h => nomatch h)
  | _, _, _, _, .node t t1 ds n c hp hw ok hs => by
    obtain ⟨kd, rr, rfl, n0, n1, n2, n3, n4⟩ := hw.kind
    exact .node kd rr ds n2 n0 hp (Gts.kn he hs)
theorem Gts.kn {kn : List Str} {e : List (Key × V)} (he : ∀ s ∈ kn, (valV e (Sum.inr s)).isSome = true) : ∀ {h : Nat} {ds : List Dt} {n c : Nat}, Gts kn h ds n c → ∀ d ∈ ds, Kn e h d
  | _, _, _, _, .nil => fun _ h => nomatch h
  | _, _, _, _, .cons d ds n1 n2 c1 c2 hd hs => by
    have a := Gt.kn he hd
    have b := Gts.kn he hs
    intro x hx
    rcases List.mem_cons.mp hx with rfl | hx
    · exact a
    · exact b x hx
end
theorem Gt.okd {kn : List Str} {h : Nat} {t : Dt} {n c : Nat} (g : Gt kn h t n c) : Okd (3 * h) t := by
  cases g with
  | num x => exact .tup _ _ (okd2 (.str _ _) (.int _ _))
  | name s hs => exact .tup _ _ (okd2 (.str _ _) (.str _ _))
  | draw _ ps hd => exact hd.okd _
  | node _ t1 ds n c hp hw ok hs => exact ok
/-- the parts of a good term -/
theorem Gt.parts {kn : List Str} {h : Nat} {t : Dt} {n c : Nat} (g : Gt kn h t n c) : ∃ ds, Pt t ds ∧ Nb t ∧ ∀ d ∈ ds, Okd (3 * h) d := by
  cases g with
  | num x => exact ⟨[], .num _, nb_of (by decide +kernel), (fun _ h => nomatch h)⟩
  | name s hs => exact ⟨[], .name _, nb_of (by decide +kernel), (fun _ h => nomatch h)⟩
  | draw _ ps hd =>
    cases hd
    · exact ⟨[], .flip _ _, nb_of (by decide +kernel), (fun _ h => nomatch h)⟩
    · exact ⟨[], .pick _, nb_of (by decide +kernel), (fun _ h => nomatch h)⟩
  | node _ t1 ds n c hp hw ok hs =>
    refine ⟨ds, hp, hw.nb.1, ?_⟩
    clear hp hw ok
    induction ds generalizing n c with
    | nil => exact fun _ h => nomatch h
    | cons d ds ih =>
      cases hs with
      | cons _ _ _ _ _ _ h1 h2 =>
        intro x hx
        rcases List.mem_cons.mp hx with rfl | hx
        · exact h1.okd.mono (by omega)
        · exact ih _ h2 x hx
/-- the parts of what has a size -/
theorem Sz.un {h m : Nat} {t : Dt} (s : Sz h t m) : ∃ h' ds m', h = h' + 1 ∧ m = m' + 1 ∧ Pt t ds ∧ Nb t ∧ Szs h' ds m' := by
  cases s with
  | mk _ ds m hp nb hs => exact ⟨_, ds, m, rfl, rfl, hp, nb, hs⟩
theorem Szs.un {h m : Nat} {d : Dt} {ds : List Dt} (s : Szs h (d :: ds) m) : ∃ m1 m2, m = m1 + m2 ∧ Sz h d m1 ∧ Szs h ds m2 := by
  cases s with
  | cons _ _ m1 m2 h1 h2 => exact ⟨m1, m2, rfl, h1, h2⟩
theorem Szs.un0 {h m : Nat} (s : Szs h [] m) : m = 0 := by
  cases s
  rfl
mutual
theorem Sz.mono : ∀ {h : Nat} {t : Dt} {m : Nat}, Sz h t m → ∀ {h' : Nat}, h ≤ h' → Sz h' t m
  | _, _, _, .mk t ds m hp nb hs, h', l => by
    obtain ⟨h2, rfl⟩ : ∃ h2, h' = h2 + 1 := ⟨h' - 1, by omega⟩
    exact .mk t ds m hp nb (Szs.mono hs (by omega))
theorem Szs.mono : ∀ {h : Nat} {t : List Dt} {m : Nat}, Szs h t m → ∀ {h' : Nat}, h ≤ h' → Szs h' t m
  | _, _, _, .nil, h', l => .nil
  | _, _, _, .cons d ds m1 m2 hd hs, h', l => .cons d ds m1 m2 (Sz.mono hd l) (Szs.mono hs l)
end
theorem Szs.append {h m2 : Nat} {b : List Dt} (s2 : Szs h b m2) : ∀ {a : List Dt} {m1 : Nat}, Szs h a m1 → Szs h (a ++ b) (m1 + m2)
  | [], m1, s => by
    cases s.un0
    rw [Nat.zero_add]
    exact s2
  | d :: a, m1, s => by
    obtain ⟨x, y, rfl, h1, h2⟩ := s.un
    rw [Nat.add_assoc]
    exact .cons d _ x _ h1 (Szs.append s2 h2)
theorem Szs.split {h : Nat} {b : List Dt} : ∀ {a : List Dt} {m : Nat}, Szs h (a ++ b) m → ∃ m1 m2, m = m1 + m2 ∧ Szs h a m1 ∧ Szs h b m2
  | [], m, s => ⟨0, m, by omega, .nil, s⟩
  | d :: a, m, s => by
    obtain ⟨x, y, rfl, h1, h2⟩ := Szs.un s
    obtain ⟨m1, m2, rfl, h3, h4⟩ := Szs.split h2
    exact ⟨x + m1, m2, by omega, .cons d a x m1 h1 h3, h4⟩
theorem Sz.pos {h m : Nat} {t : Dt} (s : Sz h t m) : 1 ≤ m := by
  obtain ⟨_, _, m', _, rfl, _⟩ := s.un
  omega
theorem Szs.len {h : Nat} : ∀ {a : List Dt} {m : Nat}, Szs h a m → a.length ≤ m
  | [], m, s => Nat.zero_le _
  | d :: a, m, s => by
    obtain ⟨x, y, rfl, h1, h2⟩ := s.un
    have := h2.len
    have := h1.pos
    rw [List.length_cons]
    omega
/-- steps, and how many terms they are -/
inductive Sts : List Dt → Nat → Prop
  | nil : Sts [] 0
  | cons (i : Int) (t : Dt) (m M : Nat) (st : List Dt) (hz : Sz 3 t m) (ho : Okd 9 t) (hs : Sts st M) : Sts (stD i t :: st) (m + M)
theorem Sts.append {b : List Dt} {m2 : Nat} (s2 : Sts b m2) : ∀ {a : List Dt} {m1 : Nat}, Sts a m1 → Sts (a ++ b) (m1 + m2)
  | _, _, .nil => by
    rw [Nat.zero_add]
    exact s2
  | _, _, .cons i t m M st hz ho hs => by
    rw [Nat.add_assoc]
    exact .cons i t m _ _ hz ho (Sts.append s2 hs)
theorem Sts.one (i : Int) {t : Dt} {m : Nat} (hz : Sz 3 t m) (ho : Okd 9 t) : Sts [stD i t] m := .cons i t m 0 [] hz ho .nil
theorem Sts.okd : ∀ {a : List Dt} {m : Nat}, Sts a m → ∀ d ∈ a, Okd 10 d
  | _, _, .nil => fun _ h => nomatch h
  | _, _, .cons i t m M st hz ho hs => fun x hx => by
    rcases List.mem_cons.mp hx with rfl | hx
    · exact .tup _ _ (okd2 (.int _ _) ho)
    · exact hs.okd x hx
/-- all steps are pairs of a slot and a term that is of some size -/
theorem Sts.pairs : ∀ {a : List Dt} {m : Nat}, Sts a m → ∃ ps : List (Int × Dt), a = ps.map (fun p => stD p.1 p.2) ∧ Szs 3 (ps.map (·.2)) m ∧ ∀ p ∈ ps, Okd 9 p.2
  | _, _, .nil => ⟨[], rfl, .nil, (fun _ h => nomatch h)⟩
  | _, _, .cons i t m M st hz ho hs => by
    obtain ⟨ps, rfl, z, o⟩ := hs.pairs
    refine ⟨(i, t) :: ps, rfl, .cons t _ m M hz z, fun p hp => ?_⟩
    rcases List.mem_cons.mp hp with rfl | hp
    · exact ho
    · exact o p hp
theorem putK_len {κ : Type} [DecidableEq κ] (kvs : List (κ × V)) (k : κ) (v : V) : (putK kvs k v).length ≤ kvs.length + 1 := by
  unfold putK
  split
  · rw [List.length_map]; omega
  · rw [List.length_append]; simp
theorem valV_put_ne {κ : Type} [DecidableEq κ] (kvs : List (κ × V)) {k k2 : κ} (v : V) (n : k2 ≠ k) : valV (putK kvs k v) k2 = valV kvs k2 := by
  rw [valV_put, if_neg n]
end K22
namespace K22
open PySem L2 FW PyProof.Rows
def flds (s a : Addr) (n : Int) : List (Str × V) := putF "slots" (.int n) (putF "draws" (.ref a) (putF "steps" (.ref s) []))
theorem flds_steps (s a : Addr) (n : Int) : (flds s a n).lookup ("steps" : Str) = some (.ref s) := by
  unfold flds
  rw [lookup_putF, if_neg (by decide +kernel), lookup_putF, if_neg (by decide +kernel), lookup_putF, if_pos rfl]
theorem flds_draws (s a : Addr) (n : Int) : (flds s a n).lookup ("draws" : Str) = some (.ref a) := by
  unfold flds
  rw [lookup_putF, if_neg (by decide +kernel), lookup_putF, if_pos rfl]
theorem flds_slots (s a : Addr) (n : Int) : (flds s a n).lookup ("slots" : Str) = some (.int n) := by
  unfold flds
  rw [lookup_putF, if_pos rfl]
/-- an opened program -/
structure OneAt (K : PySem.W.Frag) (C : Addr) (H : Hp) (p s a : Addr) (n : Int) (sts : List Dt) (ps : List (Addr × List Dt)) : Prop where
  ob : ∃ dx, H p = some (.ins C dx (flds s a n))
  st : LsM K H s sts
  dr : LLM K H a ps
theorem OneAt.same {K : PySem.W.Frag} {C : Addr} {H H' : Hp} {p s a : Addr} {n : Int} {sts : List Dt} {ps : List (Addr × List Dt)} (h : OneAt K C H p s a n sts ps) (e : Same H H') : OneAt K C H' p s a n sts ps := by
  obtain ⟨⟨dx, h1⟩, h2, h3⟩ := h
  exact ⟨⟨dx, e _ _ h1⟩, h2.same e, h3.same e⟩
structure Tx2 (K : PySem.W.Frag) (mg : Str → Option Value) (C : Addr) (uF : Value) : Prop where
  cl : Cls K C
  nS : NoAttr K C "steps"
  nD : NoAttr K C "draws"
  nN : NoAttr K C "slots"
  list_ : mg "list" = none
  len_ : mg "len" = none
  enumerate_ : mg "enumerate" = none
  MOST_DEFS : mg "MOST_DEFS" = some uF
  defs : RelV (.int 3) uF
def sp_oinit (K : PySem.W.Frag) (C : Addr) : Sp := fun vs H Q _ => ∃ p dx s a n sts ps, vs = [.ref p, .ref s, .ref a, .int n] ∧ H p = some (.ins C dx []) ∧ LsM K H s sts ∧ LLM K H a ps ∧ ps.length ≤ 60 ∧
  ∀ s' a' ps' H', BtA p H H' → OneAt K C H' p s' a' n sts ps' → ps'.map (·.2) = ps.map (·.2) → H s' = none → H a' = none → (∀ q ∈ ps', H q.1 = none) → Q .non H'
def sp_cnames (K : PySem.W.Frag) (h : Nat) : Sp := fun vs H Q _ => ∃ a rows e', vs = [.ref a] ∧ LsM K H a rows ∧ Cks h rows [] e' ∧ ∀ H', Same H H' → Q .non H'
def sp_cdefs (K : PySem.W.Frag) (h : Nat) : Sp := fun vs H Q _ => ∃ a rows e e', vs = [.ref a] ∧ LsM K H a rows ∧ Cks h rows e e' ∧ ∀ H', Same H H' → Q .non H'
theorem ne_of {H : Hp} {a b : Addr} {x y : HO} (h1 : H a = some x) (h2 : H b = some y) (n : x ≠ y) : a ≠ b := fun z => by
  rw [z, h2] at h1
  cases h1
  exact n rfl
theorem Ck1.kind {h : Nat} {r : Dt} {e e' : List (Key × V)} (c : Ck1 h r e e') : ∃ kd rr, r = .tup (.str kd :: rr) ∧ kd ≠ "def" := by
  cases c <;> exact ⟨_, _, rfl, by decide +kernel⟩
theorem Cks.kind {h : Nat} : ∀ {rs : List Dt} {e e' : List (Key × V)}, Cks h rs e e' → ∀ r ∈ rs, ∃ kd rr, r = .tup (.str kd :: rr) ∧ kd ≠ "def"
  | [], e, e', _ => fun _ h => nomatch h
  | r :: rs, e, e', c => fun x hx => by
    obtain ⟨e1, h1, h2⟩ := c.un
    rcases List.mem_cons.mp hx with rfl | hx
    · exact h1.kind
    · exact h2.kind x hx
section
variable {P : Program} {w : World} {K : PySem.W.Frag} {mg : Str → Option Value} {base : Heap} {C : Addr} {uF : Value}
set_option maxHeartbeats 2000000 in
theorem ok_oinit {f : Addr} {fd : FuncData} (F : Fun K "__init__" "Opened.__init__" s_Opened_init f fd) (T : Tx2 K mg C uF) : FnOk P w K mg base CX0 1 f fd ["self", "steps", "draws", "slots"] (sp_oinit K C) := by
  refine F.ok sc_Opened_init (fun vs H Q E h => ?_) (fun cdv Ar outer s H vs Q E hr h => ?_)
  · obtain ⟨p, dx, s, a, n, sts, ps, rfl, _⟩ := h
    rfl
  · obtain ⟨p, dx, s1, a, n, sts, ps, rfl, hp, hs, ll, few, k⟩ := h
    refine ⟨_, (pss_cons (ps_fld (pv 0) (pe_callTy call_list_of (by rfl) T.list_ Boot.«list» (pa_cons (pv 1) pa_nil)) rfl)
      (pss_cons (ps_fld (pv 0) (pe_comp rfl (Nc := ["draw"]) (caps0 rfl (by decide +kernel) (by decide +kernel) (by decide +kernel)) (pi_list (pv 2)) (fun _ _ _ _ => (pg_name (i := 0) (show List.Nodup (["draw"] : List Str) by decide +kernel) rfl (Or.inl rfl))) (fun _ _ _ _ => pts_nil) (fun _ _ _ _ => by exact (pe_callTy (call_list_ofK (K := K) rfl) (by rfl) T.list_ Boot.«list» (pa_cons (pv 0) pa_nil)))) rfl)
      (pss_one (ps_fld (pv 0) (pv 3) rfl)))), ?_⟩
    obtain ⟨us, es, ds⟩ := hs
    have nsp : s1 ≠ p := ne_of es hp (by intro z; cases z)
    have nap : a ≠ p := ne_of ll.at_ hp (by intro z; cases z)
    have nip : ∀ q ∈ ps, q.1 ≠ p := fun q hq => by
      obtain ⟨_, e, _⟩ := ll.it q hq
      exact ne_of e hp (by intro z; cases z)
    refine ⟨_, rfl, s1, us, rfl, .inl (SqL.of es), fun l hl => ?_⟩
    have npl : p ≠ l := ne_of_none hp hl
    refine ⟨_, rfl, p, C, dx, [], rfl, (by rw [upd_ne npl]; exact hp), T.cl, T.nS, (by show 0 < 1000; decide), ?_⟩
    have B1 : BtA p H (upd (upd H l (.lst us)) p (.ins C dx (putF "steps" (.ref l) []))) := (BtA.updF hl).trans .upd
    have hp1 : (upd (upd H l (.lst us)) p (.ins C dx (putF "steps" (.ref l) []))) p = some (.ins C dx (putF "steps" (.ref l) [])) := upd_same
    have el : (upd (upd H l (.lst us)) p (.ins C dx (putF "steps" (.ref l) []))) l = some (.lst us) := by rw [upd_ne npl.symm, upd_same]
    have fr1 : ∀ b, (upd (upd H l (.lst us)) p (.ins C dx (putF "steps" (.ref l) []))) b = none → H b = none := fun b e => by
      by_cases hb : b = p
      · subst hb
        rw [upd_same] at e
        cases e
      · rw [upd_ne hb] at e
        exact (Same.upd hl).free e
    generalize upd (upd H l (.lst us)) p (.ins C dx (putF "steps" (.ref l) [])) = H1 at B1 hp1 el fr1
    have nt0 : NT H p := .ins hp
    have ll1 := ll.but nt0 B1 nap nip
    have ds1 := ds.but nt0 B1
    refine ⟨_, rfl, a, rfl, ⟨_, SqL.of ll1.at_⟩, fun D hD => ?_⟩
    refine comp_list (K := K) (a := a) (D := D) (xs := ps.map fun q => V.ref q.1) (fun i σ ys H' => (∃ o1, σ = [o1]) ∧ Same H1 H' ∧ H' D = some (.lst ys) ∧ ∃ qs : List (Addr × List Dt), ys = qs.map (fun q => V.ref q.1) ∧ qs.map (·.2) = (ps.take i).map (·.2) ∧ ∀ q ∈ qs, LsM K H' q.1 q.2 ∧ H1 q.1 = none ∧ q.1 ≠ D)
      ⟨⟨none, rfl⟩, .upd hD, upd_same, [], rfl, rfl, (fun _ h => nomatch h)⟩ ?_ ?_ ?_
    · rintro i σ ys H' hi ⟨_, S2, eD, qs, rfl, eq, _⟩
      have := congrArg List.length eq
      rw [List.length_map, List.length_map, List.length_take] at this
      exact ⟨SqL.of (S2 _ _ ll1.at_), eD, Nat.lt_of_le_of_lt (show (qs.map fun q => V.ref q.1).length ≤ 60 by rw [List.length_map]; omega) (by decide)⟩
    · rintro i x σ ys H' hx ⟨⟨o1, rfl⟩, S2, eD, qs, rfl, eq, hq⟩ N hN
      obtain ⟨p0, e0, rfl⟩ := map_get hx
      obtain ⟨ws, ew, dw⟩ := (ll1.it p0 (List.mem_of_getElem? e0)).same S2
      refine iteT (B := True) ?_
      refine ⟨_, rfl, p0.1, ws, rfl, .inl (SqL.of ew), fun c hc => ?_⟩
      have S3 : Same H' (upd H' c (.lst ws)) := .upd hc
      have e5 := S3 _ _ eD
      have ncD : c ≠ D := (ne_of_none eD hc).symm
      refine ⟨e5, hN _ _ _ ⟨⟨_, rfl⟩, fun b o e => ?_, upd_same, qs ++ [(c, p0.2)], by rw [List.map_append]; rfl, ?_, fun q z => ?_⟩⟩
      · rw [upd_ne (ne_of_none e hD)]
        exact S3 _ _ (S2 _ _ e)
      · rw [List.map_append, take_snoc' e0, List.map_append, eq]
        rfl
      · rcases List.mem_append.mp z with z | z
        · exact ⟨((hq q z).1.same S3).but (.lst e5) .upd (hq q z).2.2, (hq q z).2⟩
        · cases List.mem_singleton.mp z
          exact ⟨LsM.but (a := D) ⟨ws, upd_same, dw.same S3⟩ (.lst e5) .upd ncD, S2.free hc, ncD⟩
    · rintro σ ys H2 ⟨_, S2, eD, qs, rfl, eq, hq⟩
      rw [List.take_of_length_le (by rw [List.length_map]; exact Nat.le_refl _)] at eq
      have hp2 := S2 _ _ hp1
      have nDp : D ≠ p := (ne_of_none hp1 hD).symm
      refine ⟨_, rfl, p, C, dx, _, rfl, hp2, T.cl, T.nD, (by show 1 < 1000; decide), ?_⟩
      refine ⟨_, rfl, _, rfl, p, C, dx, _, rfl, upd_same, T.cl, T.nN, (by show 2 < 1000; decide), ?_⟩
      have B2 : ∀ o o' : HO, BtA p H2 (upd (upd H2 p o) p o') := fun o o' => BtA.upd.trans .upd
      have nt2 : NT H2 p := .ins hp2
      refine k l D qs _ ((B1.trans (.of S2)).trans (B2 _ _)) ⟨⟨dx, upd_same⟩, LsM.but (H := H2) ⟨us, S2 _ _ el, ds1.same S2⟩ nt2 (B2 _ _) npl.symm, LLM.but (H := H2) ⟨eD, fun q z => (hq q z).1, fun q z => (hq q z).2.2⟩ nt2 (B2 _ _) nDp (fun q z => (ne_of_none hp1 (hq q z).2.1).symm)⟩ eq hl (fr1 _ hD) (fun q z => fr1 _ (hq q z).2.1)
set_option maxHeartbeats 2000000 in
theorem ok_check_names {h : Nat} {f fC fP : Addr} {fd dC dP : FuncData} (A : FnAt K mg "check_names" s_check_names ["program"] f fd) (A_check_term : FnAt K mg "check_term" s_check_term ["row", "term", "names", "helpers"] fC dC) (A_parts_of : FnAt K mg "parts_of" s_parts_of ["term"] fP dP) (B : Bl mg) (T : Tx2 K mg C uF) :
    FnOk P w K mg base CX0 (h + 2) f fd ["program"] (sp_cnames K h) := by
  have G_check_term : FnOk P w K mg base CX0 (h + 1) fC dC _ (sp_check K h) := ok_check A_check_term A_parts_of B T.len_ h
  refine A.F.ok (k := h + 1) sc_check_names (fun vs H Q E h => ?_) (fun cdv Ar outer s H vs Q E hr h => ?_)
  · obtain ⟨a, rows, e', rfl, _⟩ := h
    rfl
  · obtain ⟨a, rows, e', rfl, ⟨us, ea, du⟩, ck, k⟩ := h
    refine ⟨_, (pss_cons (ps_set (i := 1) sc_check_names.nd rfl (Or.inl rfl) pe_dnewK)
      (pss_cons (ps_set (i := 2) sc_check_names.nd rfl (Or.inl rfl) pe_dnewK)
      (pss_one (ps_for PassesOwn.never rfl (pi_enum rfl T.enumerate_ (pa_cons (pv 0) pa_nil)) (pg_tup rfl (pgs_cons (pg_name (i := 3) sc_check_names.nd rfl (Or.inl rfl)) (pgs_cons (pg_name (i := 4) sc_check_names.nd rfl (Or.inl rfl)) pgs_nil))) (pss_cons (ps_set (i := 5) sc_check_names.nd rfl (Or.inl rfl) (pe_ix ix_tup (pv 4) pe_int (fun _ _ => rfl)))
      (pss_one (ps_if (pt_cmpR op_eq (pv 5) pe_str (nomark _)) pss_no (pss_cons (ps_if (PW.pt (pw_and (pt_cmpR op_eq (pv 5) pe_str (nomark _)) (pw_and1 (pt_cmpR (op_notinD (hu_of hr)) (pe_ix ix_tup (pv 4) pe_int (fun _ _ => rfl)) (pv 1) (by rfl))))) pss_no pss_nil)
      (pss_cons (ps_expr (pe_call G_check_term hr rfl A_check_term.m A_check_term.F.kp A_check_term.b .nil pass0 (pa_cons (pv 3) (pa_cons (pe_ix ix_tup (pv 4) (pe_un un_neg pe_int) (fun _ _ => rfl)) (pa_cons (pv 1) (pa_cons (pv 2) pa_nil))))))
      (pss_one (ps_if (pt_cmpR op_eq (pv 5) pe_str (nomark _)) (pss_one (ps_dput (hu_of hr) (pv 1) (pe_ix ix_tup (pv 4) pe_int (fun _ _ => rfl)) pe_bl rfl)) pss_nil))))))))))), ?_⟩
    refine fun N hN => fun M hM => ?_
    have SN := Same.upd (o := .dK []) hN
    have eN : (upd H N (.dK [])) N = some (.dK []) := upd_same
    generalize upd H N (.dK []) = H1 at SN eN hM
    have SM := Same.upd (o := .dK []) hM
    have nMN : M ≠ N := (ne_of_none eN hM).symm
    have lu := du.length
    generalize upd H1 M (.dK []) = H2 at SM
    have S0 := SN.trans SM
    refine ⟨_, rfl, a, rfl, ⟨_, SqL.of (S0 _ _ ea)⟩, for_enum (K := K) (a := a) (xs := us) (fun i σ H' => Same H H' ∧ ∃ e1 o3 o4 o5, H' N = some (.dK e1) ∧ Cks h (rows.drop i) e1 e' ∧ σ = [some (.ref a), some (.ref N), some (.ref M), o3, o4, o5])
      ⟨S0, [], none, none, none, SM _ _ eN, ck, rfl⟩ (fun i σ H' _ z => SqL.of (z.1 _ _ ea)) ?_ (fun σ H' z => k H' z.1)⟩
    rintro i x σ H' q hx ⟨S, e1, o3, o4, o5, eN', ck', rfl⟩ hq
    have S3 := Same.upd (o := .tup [.int (i : Int), x]) hq
    have e3 : (upd H' q (.tup [.int (i : Int), x])) q = some (.tup [.int (i : Int), x]) := upd_same
    generalize upd H' q (.tup [.int (i : Int), x]) = H3 at S3 e3
    have S03 := S.trans S3
    have eN3 := S3 _ _ eN'
    obtain ⟨d, ed, hxd⟩ := (du.same S03).get' hx
    have hi := (List.getElem?_eq_some_iff.mp ed).1
    rw [List.drop_eq_getElem_cons hi, (List.getElem?_eq_some_iff.mp ed).2] at ck'
    obtain ⟨e2, c1, c2⟩ := ck'.un
    refine ⟨q, _, rfl, SqT.of e3, rfl, _, _, rfl, _, _, rfl, rfl, ?_⟩
    cases c1 with
    | see t _ kn =>
      obtain ⟨r, vs, rfl, sv, dv⟩ := hxd.un
      obtain ⟨v0, v1, rfl, h0, h1⟩ := dv.two
      rw [h0.str_eq] at sv
      refine ⟨_, rfl, r, _, 0, .str "see", rfl, rfl, sv, rfl, ?_⟩
      refine ⟨_, rfl, rfl, _, rfl, iteBB (fun hc => absurd hc (by decide +kernel)) (fun _ => ?_)⟩
      refine ⟨_, rfl, rfl, _, rfl, iteBB (fun hc => absurd hc (by decide +kernel)) (fun _ => ?_)⟩
      refine iteF ?_
      refine ⟨_, rfl, _, rfl, _, rfl, r, _, _, v1, rfl, rfl, sv, rfl, _, rfl, _, rfl, _, v1, _, N, t, e1, rfl, h1, eN3, kn, fun H4 S4 => ?_⟩
      exact ⟨_, rfl, rfl, _, rfl, iteBB (fun hc => absurd hc (by decide +kernel)) (fun _ => ⟨S03.trans S4, e1, _, _, _, S4 _ _ eN3, c2, rfl⟩)⟩
    | ask t _ kn =>
      obtain ⟨r, vs, rfl, sv, dv⟩ := hxd.un
      obtain ⟨v0, v1, rfl, h0, h1⟩ := dv.two
      rw [h0.str_eq] at sv
      refine ⟨_, rfl, r, _, 0, .str "ask", rfl, rfl, sv, rfl, ?_⟩
      refine ⟨_, rfl, rfl, _, rfl, iteBB (fun hc => absurd hc (by decide +kernel)) (fun _ => ?_)⟩
      refine ⟨_, rfl, rfl, _, rfl, iteBB (fun hc => absurd hc (by decide +kernel)) (fun _ => ?_)⟩
      refine iteF ?_
      refine ⟨_, rfl, _, rfl, _, rfl, r, _, _, v1, rfl, rfl, sv, rfl, _, rfl, _, rfl, _, v1, _, N, t, e1, rfl, h1, eN3, kn, fun H4 S4 => ?_⟩
      exact ⟨_, rfl, rfl, _, rfl, iteBB (fun hc => absurd hc (by decide +kernel)) (fun _ => ⟨S03.trans S4, e1, _, _, _, S4 _ _ eN3, c2, rfl⟩)⟩
    | again n nm t _ hv kn =>
      obtain ⟨r, vs, rfl, sv, dv⟩ := hxd.un
      obtain ⟨v0, v1, v2, v3, rfl, h0, h1, h2, h3⟩ := dats4 dv
      rw [h0.str_eq, h2.str_eq] at sv
      refine ⟨_, rfl, r, _, 0, .str "again", rfl, rfl, sv, rfl, ?_⟩
      refine ⟨_, rfl, rfl, _, rfl, iteBB (fun hc => absurd hc (by decide +kernel)) (fun _ => ?_)⟩
      refine ⟨_, rfl, rfl, _, rfl, iteBB (fun _ => ?_) (fun hc => absurd hc (by decide +kernel))⟩
      refine ⟨_, rfl, r, _, 2, .str nm, rfl, rfl, sv, rfl, _, rfl, N, _, rfl, DGet.k (k := Sum.inr nm) eN3, _, rfl, ?_⟩
      rw [hv]
      refine iteF ?_
      refine ⟨_, rfl, _, rfl, _, rfl, r, _, _, v3, rfl, rfl, sv, rfl, _, rfl, _, rfl, _, v3, _, N, t, e1, rfl, h3, eN3, kn, fun H4 S4 => ?_⟩
      exact ⟨_, rfl, rfl, _, rfl, iteBB (fun hc => absurd hc (by decide +kernel)) (fun _ => ⟨S03.trans S4, e1, _, _, _, S4 _ _ eN3, c2, rfl⟩)⟩
    | lett nm t _ kn hl =>
      obtain ⟨r, vs, rfl, sv, dv⟩ := hxd.un
      obtain ⟨v0, v1, v2, rfl, h0, h1, h2⟩ := dats3 dv
      rw [h0.str_eq, h1.str_eq] at sv
      refine ⟨_, rfl, r, _, 0, .str "let", rfl, rfl, sv, rfl, ?_⟩
      refine ⟨_, rfl, rfl, _, rfl, iteBB (fun hc => absurd hc (by decide +kernel)) (fun _ => ?_)⟩
      refine ⟨_, rfl, rfl, _, rfl, iteBB (fun hc => absurd hc (by decide +kernel)) (fun _ => ?_)⟩
      refine iteF ?_
      refine ⟨_, rfl, _, rfl, _, rfl, r, _, _, v2, rfl, rfl, sv, rfl, _, rfl, _, rfl, _, v2, _, N, t, e1, rfl, h2, eN3, kn, fun H4 S4 => ?_⟩
      refine ⟨_, rfl, rfl, _, rfl, iteBB (fun _ => ?_) (fun hc => absurd hc (by decide +kernel))⟩
      refine ⟨_, rfl, _, rfl, r, _, 1, .str nm, rfl, rfl, S4.tup sv, rfl, N, _, rfl, DPut.k (k := Sum.inr nm) (S4 _ _ eN3) (Nat.lt_of_lt_of_le hl (by decide)), ?_⟩
      refine ⟨fun b o e => ?_, _, _, _, _, upd_same, c2, rfl⟩
      rw [upd_ne (ne_of_none e hN)]
      exact (S03.trans S4) _ _ e
theorem ok_check_defs {h : Nat} {f : Addr} {fd : FuncData} (A : FnAt K mg "check_defs" s_check_defs ["program"] f fd) (T : Tx2 K mg C uF) : FnOk P w K mg base CX0 1 f fd ["program"] (sp_cdefs K h) := by
  refine A.F.ok sc_check_defs (fun vs H Q E h => ?_) (fun cdv Ar outer s H vs Q E hr h => ?_)
  · obtain ⟨a, rows, e, e', rfl, _⟩ := h
    rfl
  · obtain ⟨a, rows, e, e', rfl, ⟨us, ea, du⟩, ck, k⟩ := h
    refine ⟨_, (pss_one (ps_if (pt_cmpR op_gt (pe_callB call_len_seq (by rfl) T.len_ Boot.«len» (pa_cons (pe_comp rfl (Nc := ["row"]) (caps0 rfl (by decide +kernel) (by decide +kernel) (by decide +kernel)) (pi_list (pv 0)) (fun _ _ _ _ => (pg_name (i := 0) (show List.Nodup (["row"] : List Str) by decide +kernel) rfl (Or.inl rfl))) (fun _ _ _ _ => by exact (pts_one (pt_cmpR op_eq (pe_ix (ix_tupK (K := K) rfl) (pv 0) pe_int (fun _ _ => rfl)) pe_str (nomark _)))) (fun _ _ _ _ => (pv 0))) pa_nil)) (pe_glob rfl T.MOST_DEFS (v := .int 3) T.defs) (nomark _)) pss_no pss_nil)), ?_⟩
    refine ⟨_, rfl, a, rfl, ⟨_, SqL.of ea⟩, fun D hD => ?_⟩
    refine comp_list (K := K) (a := a) (D := D) (xs := us) (fun i σ ys H' => (∃ o1, σ = [o1]) ∧ Same H H' ∧ H' D = some (.lst ys) ∧ ys = [])
      ⟨⟨none, rfl⟩, .upd hD, upd_same, rfl⟩ ?_ ?_ ?_
    · rintro i σ ys H' hi ⟨_, S2, eD, rfl⟩
      exact ⟨SqL.of (S2 _ _ ea), eD, by decide⟩
    · rintro i x σ ys H' hx ⟨⟨o1, rfl⟩, S2, eD, rfl⟩ N hN
      obtain ⟨d, ed, hxd⟩ := (du.same S2).get' hx
      obtain ⟨kd, rr, rfl, nd⟩ := ck.kind d (List.mem_of_getElem? ed)
      obtain ⟨r, vs, rfl, sv, dv⟩ := hxd.un
      obtain ⟨v0, vr, rfl, g0, g1⟩ := dv.un
      rw [g0.str_eq] at sv
      refine ⟨_, rfl, r, _, 0, .str kd, rfl, rfl, sv, atI_nat (j := 0) rfl, ?_⟩
      refine ⟨rfl, _, rfl, iteBB (fun hc => absurd (show kd = "def" by simpa using hc) nd) (fun _ => ?_)⟩
      exact hN _ _ _ ⟨⟨_, rfl⟩, S2, eD, rfl⟩
    · rintro σ ys H' ⟨_, S2, eD, rfl⟩
      refine ⟨D, _, rfl, .inl (SqL.of eD), _, _, rfl, rfl, _, rfl, iteBB (fun hc => ?_) (fun _ => k H' S2)⟩
      have := of_decide_eq_true hc
      simp at this
end
end K22
namespace K22
open PySem L2 FW PyProof.Rows
theorem DatsAt.last {K : PySem.W.Frag} {H : Hp} : ∀ {ds : List Dt} {vs : List V}, DatsAt K H vs ds → vs ≠ [] → ∃ vs0 v ds0 d, vs = vs0 ++ [v] ∧ ds = ds0 ++ [d] ∧ DatsAt K H vs0 ds0 ∧ DatAt K H v d
  | [], vs, h, n => absurd h.un0 n
  | d :: ds, vs, h, n => by
    obtain ⟨v, r, rfl, h1, h2⟩ := h.un
    by_cases e : r = []
    · subst e
      have : ds = [] := by
        have := h2.length
        simpa using this.symm
      subst this
      exact ⟨[], v, [], d, rfl, rfl, .nil, h1⟩
    · obtain ⟨vs0, w, ds0, e0, rfl, rfl, h3, h4⟩ := DatsAt.last h2 e
      exact ⟨v :: vs0, w, d :: ds0, e0, rfl, rfl, .cons h1 h3, h4⟩
def sp_terms_in (K : PySem.W.Frag) (C : Addr) : Sp := fun vs H Q _ => ∃ p s a n sts ps M, vs = [.ref p] ∧ OneAt K C H p s a n sts ps ∧ Sts sts M ∧ M ≤ 600 ∧ ∀ F fs H', Same H H' → H' F = some (.lst fs) → fs.length + 0 = M → Q (.ref F) H'
def sp_size (K : PySem.W.Frag) (C : Addr) : Sp := fun vs H Q _ => ∃ p s a n sts ps M, vs = [.ref p] ∧ OneAt K C H p s a n sts ps ∧ Sts sts M ∧ M ≤ 600 ∧ ∀ H', Same H H' → Q (.int (M : Int)) H'
def sp_opened (K : PySem.W.Frag) (C : Addr) (h : Nat) : Sp := fun vs H Q _ => ∃ (a : Addr) (rows : List Dt) (e1 e' : List (Key × V)) (ws : List (List (Int × Int))) (st : List Dt) (s' : Int) (c : Nat),
  vs = [.ref a] ∧ LsM K H a rows ∧ Cks h rows [] e1 ∧ Orows h rows [] 0 0 e' ws st s' c ∧ c ≤ 600 ∧ ws.length ≤ 60 ∧ st.length ≤ 900 ∧
  ∀ p sA aA ps H', Same H H' → H p = none → OneAt K C H' p sA aA s' st ps → ps.map (·.2) = ws.map (fun d => d.map pI) → Q (.ref p) H'
section
variable {P : Program} {w : World} {K : PySem.W.Frag} {mg : Str → Option Value} {base : Heap} {C CO : Addr} {uF uS uD : Value}
set_option maxHeartbeats 2000000 in
theorem ok_terms_in {f fP : Addr} {fd dP : FuncData} (A : FnAt K mg "terms_in" s_terms_in ["one"] f fd) (A_parts_of : FnAt K mg "parts_of" s_parts_of ["term"] fP dP) (B : Bl mg) (T : Tx2 K mg C uF) : FnOk P w K mg base CX0 2 f fd ["one"] (sp_terms_in K C) := by
  have G_parts_of : FnOk P w K mg base CX0 1 fP dP _ (sp_parts K) := ok_parts_of A_parts_of B
  refine A.F.ok (k := 1) sc_terms_in (fun vs H Q E h => ?_) (fun cdv Ar outer s H vs Q E hr h => ?_)
  · obtain ⟨p, s, a, n, sts, ps, M, rfl, _⟩ := h
    rfl
  · obtain ⟨p, s1, a, n, sts, ps, M, rfl, ⟨⟨dx, hp0⟩, ⟨us, es0, du0⟩, ll⟩, sm, hM, k⟩ := h
    refine ⟨_, (pss_cons (ps_set (i := 1) sc_terms_in.nd rfl (Or.inl rfl) (pe_lst pa_nil))
      (pss_cons (ps_comp (i := 2) rfl sc_terms_in.nd rfl (Or.inl rfl) (Nc := ["slot", "term"]) (caps0 rfl (by decide +kernel) (by decide +kernel) (by decide +kernel)) (pi_list (pe_fld (pv 0) rfl)) (fun _ _ _ _ => by exact (pg_tupK (K := K) (n := 2) rfl rfl (pgs_cons (pg_name (i := 0) (show List.Nodup (["slot", "term"] : List Str) by decide +kernel) rfl (Or.inl rfl)) (pgs_cons (pg_name (i := 1) (show List.Nodup (["slot", "term"] : List Str) by decide +kernel) rfl (Or.inl rfl)) pgs_nil)))) (fun _ _ _ _ => pts_nil) (fun _ _ _ _ => (pv 1)))
      (pss_cons (ps_while PassesOwn.never (pt_cmpR op_gt (pe_callB call_len_seq (by rfl) T.len_ Boot.«len» (pa_cons (pv 2) pa_nil)) pe_int (nomark _)) (pss_cons (ps_set (i := 3) sc_terms_in.nd rfl (Or.inl rfl) (pe_bm0 PySem.F.plainAttrs_list PySem.F.slot_list_pop PySem.F.type_list_pop mt_pop (pv 2)))
      (pss_cons (ps_expr (pe_bm PySem.F.plainAttrs_list PySem.F.slot_list_extend PySem.F.type_list_extend mt_extend (pv 2) (pa_cons (pe_call G_parts_of hr rfl A_parts_of.m A_parts_of.F.kp A_parts_of.b .nil pass0 (pa_cons (pv 3) pa_nil)) pa_nil)))
      (pss_one (ps_expr (pe_bm PySem.F.plainAttrs_list PySem.F.slot_list_append PySem.F.type_list_append mt_append (pv 1) (pa_cons (pv 3) pa_nil)))))))
      (pss_one (ps_ret (pv 1)))))), ?_⟩
    obtain ⟨prs, rfl, sz, okp⟩ := sm.pairs
    have lp := sz.len
    rw [List.length_map] at lp
    have lu := du0.length
    rw [List.length_map] at lu
    refine ⟨(by show 0 ≤ sizeLine; decide), fun F hF => ?_⟩
    have SF : Same H (upd H F (.lst [])) := .upd hF
    have eF0 : (upd H F (.lst [])) F = some (.lst []) := upd_same
    have hp := SF _ _ hp0
    have es := SF _ _ es0
    have du := du0.same SF
    generalize upd H F (.lst []) = HF at SF eF0 hp es du
    refine ⟨_, rfl, p, C, dx, _, _, rfl, hp, T.cl, T.nS, flds_steps _ _ _, s1, rfl, ⟨_, SqL.of es⟩, fun D hD => ?_⟩
    have nFD : F ≠ D := ne_of_none eF0 hD
    have hDH : H D = none := SF.free hD
    refine comp_list (K := K) (a := s1) (D := D) (xs := us) (fun i σ ys H' => (∃ o1 o2, σ = [o1, o2]) ∧ Same HF H' ∧ H' D = some (.lst ys) ∧ DatsAt K H' ys ((prs.take i).map (·.2)))
      ⟨⟨none, none, rfl⟩, .upd hD, upd_same, .nil⟩ ?_ ?_ ?_
    · rintro i σ ys H' hi ⟨_, S2, eD, hy⟩
      have := hy.length
      rw [List.length_map, List.length_take] at this
      exact ⟨SqL.of (S2 _ _ es), eD, Nat.lt_of_le_of_lt (show ys.length ≤ 600 by omega) (by decide)⟩
    · rintro i x σ ys H' hx ⟨⟨o1, o2, rfl⟩, S2, eD, hy⟩ N hN
      obtain ⟨d, ed, hxd⟩ := (du.same S2).get' hx
      obtain ⟨pr, ep, rfl⟩ := map_get ed
      obtain ⟨q, va, vb, rfl, g1, g2, g3⟩ := DatAt.pr (p := (.int pr.1, pr.2)) hxd
      refine ⟨q, _, rfl, g1, rfl, _, _, rfl, _, _, rfl, rfl, ?_⟩
      refine iteT (B := True) ?_
      refine ⟨_, rfl, eD, hN _ _ _ ?_⟩
      obtain ⟨w1, w2, w3⟩ := snoc_ok (v := vb) (d := pr.2) hD S2 eD hy g3
      refine ⟨⟨_, _, rfl⟩, w1, w2, ?_⟩
      rw [take_snoc' ep, List.map_append]
      exact w3
    · rintro σ ys H1 ⟨_, S1, eD1, hy1⟩
      rw [List.take_of_length_le (by omega)] at hy1
      refine ⟨fun m σ H' => ∃ (zs : List V) (ds : List Dt) (fs : List V) (o3 : Option V), Same H H' ∧ H' D = some (.lst zs) ∧ DatsAt K H' zs ds ∧ Szs 3 ds m ∧ H' F = some (.lst fs) ∧ fs.length + m = M ∧ σ = [some (.ref p), some (.ref F), some (.ref D), o3], ⟨M, ys, _, [], none, SF.trans S1, eD1, hy1, sz, S1 _ _ eF0, Nat.zero_add _, rfl⟩, ?_⟩
      rintro m σ H' ⟨zs, ds, fs, o3, S, eD, dz, szz, eF, hm, rfl⟩
      refine ⟨_, rfl, D, zs, rfl, .inl (SqL.of eD), _, _, rfl, rfl, _, rfl, iteBB (fun hc => ?_) (fun hc => ?_)⟩
      · have hz : zs ≠ [] := by
          intro z
          subst z
          exact absurd hc (by decide)
        obtain ⟨vs0, v, ds0, d, rfl, rfl, d0, hd⟩ := DatsAt.last dz hz
        obtain ⟨m1, m2, rfl, z1, z2⟩ := szz.split
        obtain ⟨m3, m4, rfl, z3, z4⟩ := z2.un
        cases z4.un0
        obtain ⟨h', qs, m', eh, rfl, hpt, _, z5⟩ := z3.un
        have z6 := z5.mono (show h' ≤ 3 by omega)
        refine ⟨_, fun σ' H' z => ⟨m1 + m', by omega, z⟩, ?_⟩
        refine ⟨_, rfl, .inl ⟨rfl, _, SqL.of eD⟩, D, _, v, rfl, rfl, eD, (by simp), ?_⟩
        rw [List.dropLast_concat]
        have B1 : BtA D H' (upd H' D (.lst vs0)) := .upd
        have e1 : (upd H' D (.lst vs0)) D = some (.lst vs0) := upd_same
        have d1 := d0.but (.lst eD) B1
        have hd1 := hd.but (.lst eD) B1
        have S1' : Same H (upd H' D (.lst vs0)) := fun b o e => B1 _ _ (ne_of_none e hDH) (S _ _ e)
        have eF1 := B1 _ _ nFD eF
        generalize upd H' D (.lst vs0) = H2 at B1 e1 d1 hd1 S1' eF1
        refine ⟨_, rfl, .inl ⟨rfl, _, SqL.of e1⟩, _, rfl, v, d, qs, rfl, hd1, hpt, fun P1 H3 S3 hP1 lsP => ?_⟩
        obtain ⟨ts, eP, dt⟩ := lsP
        have l1 := (z6.append z1).len
        rw [List.length_append] at l1
        have l2 := d0.length
        have l3 := dt.length
        refine ⟨D, P1, vs0, ts, rfl, rfl, S3 _ _ e1, eP, Nat.le_trans (show vs0.length + ts.length ≤ 600 by omega) (by decide), ?_⟩
        have B4 : BtA D H3 (upd H3 D (.lst (vs0 ++ ts))) := .upd
        have e4 : (upd H3 D (.lst (vs0 ++ ts))) D = some (.lst (vs0 ++ ts)) := upd_same
        have d4 := ((d1.same S3).append dt).but (.lst (S3 _ _ e1)) B4
        have S4 : Same H (upd H3 D (.lst (vs0 ++ ts))) := fun b o e => B4 _ _ (ne_of_none e hDH) (S3 _ _ (S1' _ _ e))
        have eF4 := B4 _ _ nFD (S3 _ _ eF1)
        generalize upd H3 D (.lst (vs0 ++ ts)) = H4 at B4 e4 d4 S4 eF4
        refine ⟨_, rfl, .inl ⟨rfl, _, SqL.of eF4⟩, _, rfl, F, fs, v, rfl, rfl, eF4, Nat.lt_of_le_of_lt (show fs.length ≤ 600 by omega) (by decide), ?_⟩
        have B5 : BtA F H4 (upd H4 F (.lst (fs ++ [v]))) := .upd
        refine ⟨vs0 ++ ts, ds0 ++ qs, fs ++ [v], some v, fun b o e => B5 _ _ (ne_of_none e hF) (S4 _ _ e), B5 _ _ nFD.symm e4, d4.but (.lst eF4) B5, z6.append z1, upd_same, ?_, rfl⟩
        rw [List.length_append, List.length_singleton]
        omega
      · have : zs = [] := by
          cases zs with
          | nil => rfl
          | cons x r => exact absurd hc (by simp)
        subst this
        have : ds = [] := by
          have := dz.length
          simpa using this.symm
        subst this
        cases szz.un0
        refine ⟨_, rfl, ?_⟩
        exact k F fs H' S eF hm
set_option maxHeartbeats 2000000 in
theorem ok_size {f fP fT : Addr} {fd dP dT : FuncData} (A : FnAt K mg "size" s_size ["one"] f fd) (A_terms_in : FnAt K mg "terms_in" s_terms_in ["one"] fT dT) (A_parts_of : FnAt K mg "parts_of" s_parts_of ["term"] fP dP) (B : Bl mg) (T : Tx2 K mg C uF) : FnOk P w K mg base CX0 3 f fd ["one"] (sp_size K C) := by
  have G_terms_in : FnOk P w K mg base CX0 2 fT dT _ (sp_terms_in K C) := ok_terms_in A_terms_in A_parts_of B T
  refine A.F.ok (k := 2) sc_size (fun vs H Q E h => ?_) (fun cdv Ar outer s H vs Q E hr h => ?_)
  · obtain ⟨p, s, a, n, sts, ps, M, rfl, _⟩ := h
    rfl
  · obtain ⟨p, s1, a, n, sts, ps, M, rfl, o1, sm, hM, k⟩ := h
    refine ⟨_, (pss_one (ps_ret (pe_callB call_len_seq (by rfl) T.len_ Boot.«len» (pa_cons (pe_call G_terms_in hr rfl A_terms_in.m A_terms_in.F.kp A_terms_in.b .nil pass0 (pa_cons (pv 0) pa_nil)) pa_nil)))), ?_⟩
    refine ⟨_, rfl, p, s1, a, n, sts, ps, M, rfl, o1, sm, hM, fun F fs H' S eF e => ?_⟩
    refine ⟨F, fs, rfl, .inl (SqL.of eF), ?_⟩
    rw [show fs.length = M from e]
    exact k H' S
set_option maxHeartbeats 4000000 in
theorem ok_opened {h : Nat} {f fN fD fI fR fJ : Addr} {fd dN dD dI dR dJ : FuncData} (A : FnAt K mg "opened" s_opened ["program"] f fd) (A_check_names : FnAt K mg "check_names" s_check_names ["program"] fN dN) (G_check_names : FnOk P w K mg base CX0 (h + 2) fN dN ["program"] (sp_cnames K h))
    (A_check_defs : FnAt K mg "check_defs" s_check_defs ["program"] fD dD) (G_check_defs : FnOk P w K mg base CX0 1 fD dD ["program"] (sp_cdefs K h)) (M_Opener : Mk K C fI) (G_Opener_init : FnOk P w K mg base CX0 1 fI dI ["self"] (sp_init C)) (b_Opener_init : Binds K dI ["self"] [])
    (M_Opener_open_row : Meth K C "open_row" fR) (G_Opener_open_row : FnOk P w K mg base CX0 (h + 4) fR dR ["self", "row"] (sp_row K C h)) (b_Opener_open_row : Binds K dR ["self", "row"] [])
    (M_Opened : Mk K CO fJ) (G_Opened_init : FnOk P w K mg base CX0 1 fJ dJ ["self", "steps", "draws", "slots"] (sp_oinit K CO)) (b_Opened_init : Binds K dJ ["self", "steps", "draws", "slots"] [])
    (hOp : mg "Opener" = some (.ref C)) (hOd : mg "Opened" = some (.ref CO)) (T : Txt K mg C uS uD) : FnOk P w K mg base CX0 (h + 5) f fd ["program"] (sp_opened K CO h) := by
  refine A.F.ok (k := h + 4) sc_opened (fun vs H Q E h => ?_) (fun cdv Ar outer s H vs Q E hr h => ?_)
  · obtain ⟨a, rows, e1, e', ws, st, s', c, rfl, _⟩ := h
    rfl
  · obtain ⟨a, rows, e1, e', ws, st, s', c, rfl, la, ck, os, hc, hw, hst, k⟩ := h
    refine ⟨_, (pss_cons (ps_expr (pe_call G_check_names (hr.mono (by omega)) rfl A_check_names.m A_check_names.F.kp A_check_names.b .nil pass0 (pa_cons (pv 0) pa_nil)))
      (pss_cons (ps_expr (pe_call G_check_defs (hr.mono (by omega)) rfl A_check_defs.m A_check_defs.F.kp A_check_defs.b .nil pass0 (pa_cons (pv 0) pa_nil)))
      (pss_cons (ps_set (i := 1) sc_opened.nd rfl (Or.inl rfl) (pe_make0 M_Opener G_Opener_init (hr.mono (by omega)) rfl hOp b_Opener_init .nil pass0))
      (pss_cons (ps_for PassesOwn.never rfl (pi_list (pv 0)) (pg_name (i := 2) sc_opened.nd rfl (Or.inl rfl)) (pss_one (ps_expr (pe_meth (pv 1) T.cl M_Opener_open_row G_Opener_open_row (hr.mono (by omega)) b_Opener_open_row .nil pass0 (pa_cons (pv 2) pa_nil)))))
      (pss_one (ps_ret (pe_make M_Opened G_Opened_init (hr.mono (by omega)) rfl hOd b_Opened_init .nil pass0 (pa_cons (pe_fld (pv 1) rfl) (pa_cons (pe_fld (pv 1) rfl) (pa_cons (pe_fld (pv 1) rfl) pa_nil)))))))))), ?_⟩
    obtain ⟨us, ea, du⟩ := la
    refine ⟨_, rfl, a, rows, e1, rfl, ⟨us, ea, du⟩, ck, fun H1 S1 => ?_⟩
    refine ⟨_, rfl, a, rows, [], e1, rfl, ⟨us, S1 _ _ ea, du.same S1⟩, ck, fun H2 S2 => ?_⟩
    have S02 := S1.trans S2
    refine fun p dx hp hdx ndp => ?_
    have S3 : Same H2 (upd (upd H2 dx (.own p)) p (.ins C dx [])) := (Same.upd hdx).updR (by rw [upd_ne ndp.symm]; exact hp)
    have e3 : (upd (upd H2 dx (.own p)) p (.ins C dx [])) p = some (.ins C dx []) := upd_same
    refine ⟨p, dx, rfl, e3, fun o H4 B4 hp4 hs0 ht0 hh1 hh2 hh3 hh4 fr n12 n34 => ⟨rfl, ?_⟩⟩
    generalize upd (upd H2 dx (.own p)) p (.ins C dx []) = H3 at S3 e3 B4 fr
    have S24 : Same H2 H4 := fun b x e => B4 b x (ne_of_none e hp) (S3 b x e)
    have I4 : OpI K H4 C p dx o [] [] [] := ⟨hp4, hh2, ⟨hh4, (fun _ h => nomatch h), (fun _ h => nomatch h)⟩, ⟨[], hh3, .nil⟩, n34, (fun _ h => nomatch h)⟩
    have fz : ∀ x ∈ [p, o.dr, o.nm, o.st], H2 x = none := fun x hx => by
      rcases List.mem_cons.mp hx with z | z
      · rw [z]; exact hp
      · refine S3.free (fr x ?_)
        simp only [List.mem_cons, List.not_mem_nil, or_false] at z ⊢
        rcases z with z | z | z <;> simp [z]
    have lu := du.length
    refine ⟨_, rfl, a, rfl, ⟨_, SqL.of (S24 _ _ (S02 _ _ ea))⟩, for_list (K := K) (a := a) (xs := us) (fun i σ H' => Same H2 H' ∧ ∃ (tt ss : Int) (e : List (Key × V)) (ps : List (Addr × List Dt)) (wsn wr : List (List (Int × Int))) (sts str : List Dt) (cr : Nat) (o2 : Option V),
        OpI K H' C p dx { o with terms := tt, slots := ss } e ps sts ∧ ps.map (·.2) = wsn.map (fun d => d.map pI) ∧ ws = wsn ++ wr ∧ st = sts ++ str ∧ tt + (cr : Int) = (c : Int) ∧ Orows h (rows.drop i) e ps.length ss e' wr str s' cr ∧ σ = [some (.ref a), some (.ref p), o2])
      ⟨S24, o.terms, o.slots, [], [], [], ws, [], st, c, none, I4, rfl, rfl, rfl, by omega, by rw [hs0]; exact os, rfl⟩ (fun i σ H' _ z => SqL.of (z.1 _ _ (S02 _ _ ea))) ?_ ?_⟩
    · rintro i x σ H' hx ⟨S, tt, ss, e, ps, wsn, wr, sts, str, cr, o2, I, eps, rfl, rfl, ec, ors, rfl⟩
      obtain ⟨d, ed, hxd⟩ := (du.same (S02.trans S)).get' hx
      have hi := (List.getElem?_eq_some_iff.mp ed).1
      rw [List.drop_eq_getElem_cons hi, (List.getElem?_eq_some_iff.mp ed).2] at ors
      obtain ⟨e2, w1, w2, st1, st2, s1, c1, c2, rfl, rfl, rfl, or1, or2⟩ := ors.un
      have lps : ps.length = wsn.length := by
        have := congrArg List.length eps
        rwa [List.length_map, List.length_map] at this
      simp only [List.length_append] at hw hst
      refine ⟨_, rfl, p, dx, _, rfl, I.hp, rfl, _, rfl, p, dx, x, { o with terms := tt, slots := ss }, d, e, e2, ps, sts, st1, w1, s1, c1, rfl, I, hxd, or1, (by show tt + (c1 : Int) ≤ 600; omega), by omega, by omega, fun H5 ps' BZ I5 eps5 fr5 => ?_⟩
      refine ⟨BZ.same fz S, tt + c1, s1, e2, ps ++ ps', wsn ++ w1, w2, sts ++ st1, st2, c2, _, I5, by rw [List.map_append, List.map_append, eps, eps5], by rw [List.append_assoc], by rw [List.append_assoc], by omega, ?_, rfl⟩
      have l5 : ps'.length = w1.length := by
        have := congrArg List.length eps5
        rwa [List.length_map, List.length_map] at this
      rw [List.length_append, l5]
      exact or2
    · rintro σ H' ⟨S, tt, ss, e, ps, wsn, wr, sts, str, cr, o2, I, eps, rfl, rfl, ec, ors, rfl⟩
      rw [List.drop_of_length_le (by omega)] at ors
      obtain ⟨rfl, rfl, rfl, rfl, rfl⟩ := ors.un0
      rw [List.append_nil] at hw hst k
      rw [List.append_nil] at k
      have lps : ps.length = wsn.length := by
        have := congrArg List.length eps
        rwa [List.length_map, List.length_map] at this
      refine ⟨_, rfl, p, C, dx, _, .ref o.st, rfl, I.hp, T.cl, T.n3, rfl, _, rfl, p, C, dx, _, .ref o.dr, rfl, I.hp, T.cl, T.n4, rfl, _, rfl, p, C, dx, _, .int s', rfl, I.hp, T.cl, T.n5, rfl, fun p2 dx2 hp2 hdx2 nd2 => ?_⟩
      have S6 : Same H' (upd (upd H' dx2 (.own p2)) p2 (.ins CO dx2 [])) := (Same.upd hdx2).updR (by rw [upd_ne nd2.symm]; exact hp2)
      have e6 : (upd (upd H' dx2 (.own p2)) p2 (.ins CO dx2 [])) p2 = some (.ins CO dx2 []) := upd_same
      generalize upd (upd H' dx2 (.own p2)) p2 (.ins CO dx2 []) = H6 at S6 e6
      have S0' := S02.trans S
      refine ⟨p2, dx2, o.st, o.dr, s', sts, ps, rfl, e6, I.st.same S6, I.ll.same S6, by omega, fun s2 a2 ps2 H7 B7 one eq f1 f2 f3 => ⟨rfl, k p2 s2 a2 ps2 H7 (fun b x eb => B7 b x (ne_of_none (S0' _ _ eb) hp2) (S6 _ _ (S0' _ _ eb))) (S0'.free hp2) one (eq.trans eps)⟩⟩
end
end K22
namespace K22
open PySem L2 FW PyProof.Rows
structure Tl (mg : Str → Option Value) : Prop where
  len_ : mg "len" = none
  range_ : mg "range" = none
  int_ : mg "int" = none
  str_ : mg "str" = none
  bool_ : mg "bool" = none
  tuple_ : mg "tuple" = none
  list_ : mg "list" = none
  zip_ : mg "zip" = none
  sum_ : mg "sum" = none
  isinstance_ : mg "isinstance" = none
def sp_mix : Sp := fun vs H Q _ => ∃ c k : Int, vs = [.int c, .int k] ∧ 0 ≤ k ∧ k ≤ 1000 ∧ ∀ m : Int, 0 ≤ m → m < 2147483647 → Q (.int m) H
def sp_leaf (K : PySem.W.Frag) : Sp := fun vs H Q _ => ∃ (c : Int) (a : Addr) (kn : List Str), vs = [.int c, .ref a] ∧ H a = some (.lst (kn.map V.str)) ∧ ∀ v H' t, Same H H' → DatAt K H' v t → Gt kn 1 t 0 1 → Q v H'
def sp_drawQ (K : PySem.W.Frag) : Sp := fun vs H Q _ => ∃ c : Int, vs = [.int c] ∧ 0 ≤ c ∧ c < 2147483647 ∧ ∀ v H' t ps, Same H H' → DatAt K H' v t → Dr t ps → Q v H'
def sp_names : Sp := fun vs H Q _ => ∃ c : Int, vs = [.int c] ∧ ∀ D H' (ns : List Str), Same H H' → H D = none → H' D = some (.lst (ns.map V.str)) → ns.length = 6 → Q (.ref D) H'
theorem small_mul {x y : Int} (h : -(2 ^ 62) ≤ y ∧ y ≤ 2 ^ 62) : IntMulOk x y := .of_right (intBits_le_64 (by omega) (by omega))
theorem at_mod {xs : List V} (i : Int) (h : 0 < xs.length) : ∃ x, atI xs (i % (xs.length : Int)) = some x ∧ x ∈ xs := by
  have h0 := Int.emod_nonneg i (show (xs.length : Int) ≠ 0 by omega)
  have h1 := Int.emod_lt_of_pos i (show (0 : Int) < xs.length by omega)
  have hl : (i % (xs.length : Int)).toNat < xs.length := by omega
  refine ⟨xs[(i % (xs.length : Int)).toNat], ?_, List.getElem_mem hl⟩
  have := atI_nat (xs := xs) (j := (i % (xs.length : Int)).toNat) (List.getElem?_eq_getElem hl)
  rw [show (((i % (xs.length : Int)).toNat : Nat) : Int) = i % (xs.length : Int) by omega] at this
  exact this
theorem at_str {ns : List Str} (i : Int) {n : Int} (e : (ns.length : Int) = n) (h : 0 < ns.length) : ∃ s, atI (ns.map V.str) (i % n) = some (.str s) ∧ s ∈ ns := by
  obtain ⟨x, hx, mx⟩ := at_mod (xs := ns.map V.str) i (by rw [List.length_map]; exact h)
  rw [List.length_map, e] at hx
  obtain ⟨s, hs, rfl⟩ := List.mem_map.mp mx
  exact ⟨s, hx, hs⟩
def tx (w : List Nat) : Str := ⟨w.toArray⟩
theorem tx_len (r : List Nat) : (tx r).length = r.length := by
  show r.toArray.size = r.length
  simp
theorem tx_cat (a b : List Nat) : tx a ++ tx b = tx (a ++ b) := by
  show (⟨a.toArray ++ b.toArray⟩ : Str) = ⟨(a ++ b).toArray⟩
  simp
def abc : Str := "abcdghjklmnoqstuvwxyz"
theorem abc_at : ∀ i, i < 21 → (abc.cps.toList[i]?).isSome = true := by decide +kernel
theorem abc_len : abc.length ≤ sizeLine := by decide +kernel
theorem abc_ix {i : Int} (h0 : 0 ≤ i) (h1 : i < 21) : ∃ c, atI abc.cps.toList i = some c := by
  have q := abc_at i.toNat (by omega)
  obtain ⟨c, hc⟩ := Option.isSome_iff_exists.mp q
  refine ⟨c, ?_⟩
  have := atI_nat hc
  rw [show ((i.toNat : Nat) : Int) = i by omega] at this
  exact this
section
variable {P : Program} {w : World} {K : PySem.W.Frag} {mg : Str → Option Value} {base : Heap}
theorem ok_law_mix {f : Addr} {fd : FuncData} (A : FnAt K mg "_law_mix" s_law_mix ["_law_cell", "_law_k"] f fd) : FnOk P w K mg base CX0 1 f fd ["_law_cell", "_law_k"] sp_mix := by
  refine A.F.ok sc_law_mix (fun vs H Q E h => ?_) (fun cdv Ar outer s H vs Q E hr h => ?_)
  · obtain ⟨a, b, rfl, _⟩ := h
    rfl
  · obtain ⟨n, k, rfl, k0, k1, q⟩ := h
    refine ⟨_, (pss_cons (ps_set (i := 2) sc_law_mix.nd rfl (Or.inl rfl) (pe_op op_add (pe_op op_add (pe_op op_mod (pv 0) pe_int) (pe_op op_mulB pe_int (pv 1))) pe_int))
      (pss_one (ps_ret (pe_op op_mod (pe_op op_mulB (pe_op op_mod (pe_op op_mulB (pv 2) (pv 2)) pe_int) (pe_op op_add (pv 1) pe_int)) pe_int)))), ?_⟩
    have m0 := Int.emod_nonneg n (show (1000000007 : Int) ≠ 0 by decide)
    have m1 := Int.emod_lt_of_pos n (show (0 : Int) < 1000000007 by decide)
    refine ⟨_, rfl, _, _, rfl, rfl, (by show (0 : Int) < 1000000007; decide), _, rfl, _, _, rfl, rfl, small_mul (by omega), _, _, rfl, rfl, _, _, rfl, rfl, ?_⟩
    refine ⟨_, rfl, _, rfl, _, _, rfl, rfl, small_mul (by omega), _, _, rfl, rfl, (by show (0 : Int) < 2147483629; decide), _, rfl, _, _, rfl, rfl, _, _, rfl, rfl, small_mul (by omega), _, _, rfl, rfl, (by show (0 : Int) < 2147483647; decide), ?_⟩
    exact q _ (Int.emod_nonneg _ (by decide)) (Int.emod_lt_of_pos _ (by decide))
theorem ok_law_leaf {f : Addr} {fd : FuncData} (A : FnAt K mg "_law_leaf" s_law_leaf ["_law_cell", "_law_known"] f fd) (T : Tl mg) : FnOk P w K mg base CX0 1 f fd ["_law_cell", "_law_known"] (sp_leaf K) := by
  refine A.F.ok sc_law_leaf (fun vs H Q E h => ?_) (fun cdv Ar outer s H vs Q E hr h => ?_)
  · obtain ⟨c, a, kn, rfl, _⟩ := h
    rfl
  · obtain ⟨c, a, kn, rfl, ha, k⟩ := h
    refine ⟨_, (pss_cons (ps_if (PW.pt (pw_and (pt_cmpR op_gt (pe_callB call_len_seq (by rfl) T.len_ Boot.«len» (pa_cons (pv 1) pa_nil)) pe_int (nomark _)) (pw_and1 (pt_cmpR op_gt (pe_op op_mod (pv 0) pe_int) pe_int (nomark _))))) (pss_one (ps_ret (pe_tup (pa_cons pe_str (pa_cons (pe_ix ix_list (pv 1) (pe_op op_mod (pe_op op_fdivP (pv 0) pe_int) (pe_callB call_len_seq (by rfl) T.len_ Boot.«len» (pa_cons (pv 1) pa_nil))) (fun _ _ => rfl)) pa_nil))))) pss_nil)
      (pss_one (ps_ret (pe_tup (pa_cons pe_str (pa_cons (pe_op op_mod (pe_op op_mulB (pe_op op_fdivP (pv 0) pe_int) pe_int) pe_int) pa_nil)))))), ?_⟩
    have num : ∀ q, H q = none → DatAt K (upd H q (.tup [.str "num", .int (c / 3 * 7919 % 1000000000000)])) (.ref q) (.tup [.str "num", .int (c / 3 * 7919 % 1000000000000)]) := fun q hq => .tup (SqT.of upd_same) (.cons (.str _) (.cons (.int _) .nil))
    refine ⟨_, rfl, a, _, rfl, .inl (SqL.of ha), _, _, rfl, rfl, _, rfl, iteBB (fun hc => ?_) (fun _ => ?_)⟩
    · have hl : 0 < kn.length := by
        have := of_decide_eq_true hc
        rw [List.length_map] at this
        omega
      refine ⟨_, rfl, _, _, rfl, rfl, (by show (0 : Int) < 3; decide), _, _, rfl, rfl, _, rfl, iteBB (fun _ => ?_) (fun _ => ?_)⟩
      · obtain ⟨sx, hx, ms⟩ := at_str (ns := kn) (c / 3) (n := ((kn.map V.str).length : Nat)) (by rw [List.length_map]) hl
        refine ⟨_, rfl, _, rfl, _, _, rfl, rfl, ⟨by decide, by decide +kernel⟩, _, rfl, a, _, rfl, .inl (SqL.of ha), _, _, rfl, rfl, (by show (0 : Int) < ((kn.map V.str).length : Nat); rw [List.length_map]; omega), a, _, _, .str sx, rfl, rfl, SqL.of ha, hx, two_le, fun q hq => ?_⟩
        exact k _ _ _ (.upd hq) (.tup (SqT.of upd_same) (.cons (.str _) (.cons (.str _) .nil))) (.name sx ms)
      · exact ⟨_, rfl, _, _, rfl, rfl, ⟨by decide, by decide +kernel⟩, _, _, rfl, rfl, small_mul (by decide), _, _, rfl, rfl, (by show (0 : Int) < 1000000000000; decide), two_le, fun q hq => k _ _ _ (.upd hq) (num q hq) (.num _)⟩
    · refine iteF ?_
      exact ⟨_, rfl, _, _, rfl, rfl, ⟨by decide, by decide +kernel⟩, _, _, rfl, rfl, small_mul (by decide), _, _, rfl, rfl, (by show (0 : Int) < 1000000000000; decide), two_le, fun q hq => k _ _ _ (.upd hq) (num q hq) (.num _)⟩
theorem ok_law_flip {f : Addr} {fd : FuncData} (A : FnAt K mg "_law_flip" s_law_flip ["_law_cell"] f fd) : FnOk P w K mg base CX0 1 f fd ["_law_cell"] (sp_drawQ K) := by
  refine A.F.ok sc_law_flip (fun vs H Q E h => ?_) (fun cdv Ar outer s H vs Q E hr h => ?_)
  · obtain ⟨c, rfl, _⟩ := h
    rfl
  · obtain ⟨c, rfl, c0, c1, k⟩ := h
    refine ⟨_, (pss_cons (ps_set (i := 1) sc_law_flip.nd rfl (Or.inl rfl) (pe_op op_add pe_int (pe_op op_mod (pv 0) pe_int)))
      (pss_one (ps_ret (pe_tup (pa_cons pe_str (pa_cons (pe_op op_add pe_int (pe_op op_mod (pe_op op_fdivP (pv 0) pe_int) (pe_op op_sub (pv 1) pe_int))) (pa_cons (pv 1) pa_nil))))))), ?_⟩
    have m0 := Int.emod_nonneg c (show (999999 : Int) ≠ 0 by decide)
    refine ⟨_, rfl, _, _, rfl, rfl, (by show (0 : Int) < 999999; decide), _, _, rfl, rfl, ?_⟩
    refine ⟨_, rfl, _, _, rfl, rfl, ⟨by decide, by decide +kernel⟩, _, rfl, _, _, rfl, rfl, _, _, rfl, rfl, (by show (0 : Int) < 2 + c % 999999 - 1; omega), _, _, rfl, rfl, _, rfl, t3, fun q hq => ?_⟩
    exact k _ _ _ _ (.upd hq) (.tup (SqT.of upd_same) (.cons (.str _) (.cons (.int _) (.cons (.int _) .nil)))) (.flip _ _)
theorem ok_law_pick {f fM : Addr} {fd dM : FuncData} (A : FnAt K mg "_law_pick" s_law_pick ["_law_cell"] f fd) (A_law_mix : FnAt K mg "_law_mix" s_law_mix ["_law_cell", "_law_k"] fM dM) (T : Tl mg) : FnOk P w K mg base CX0 2 f fd ["_law_cell"] (sp_drawQ K) := by
  have G_law_mix : FnOk P w K mg base CX0 1 fM dM _ sp_mix := ok_law_mix A_law_mix
  refine A.F.ok (k := 1) sc_law_pick (fun vs H Q E h => ?_) (fun cdv Ar outer s H vs Q E hr h => ?_)
  · obtain ⟨c, rfl, _⟩ := h
    rfl
  · obtain ⟨c, rfl, c0, c1, k⟩ := h
    refine ⟨_, (pss_cons (ps_set (i := 1) sc_law_pick.nd rfl (Or.inl rfl) (pe_lst pa_nil))
      (pss_cons (ps_for PassesOwn.never rfl (pi_range1 rfl T.range_ (pa_cons (pe_op op_add pe_int (pe_op op_mod (pv 0) pe_int)) pa_nil)) (pg_name (i := 2) sc_law_pick.nd rfl (Or.inl rfl)) (pss_one (ps_expr (pe_bm PySem.F.plainAttrs_list PySem.F.slot_list_append PySem.F.type_list_append mt_append (pv 1) (pa_cons (pe_tup (pa_cons (pe_op op_add (pe_op op_mod (pe_op op_mulB (pv 0) pe_int) pe_int) (pe_op op_mulB (pv 2) (pe_op op_add pe_int (pe_op op_mod (pv 0) pe_int)))) (pa_cons (pe_op op_add pe_int (pe_op op_mod (pe_call G_law_mix (hr.mono (by decide)) rfl A_law_mix.m A_law_mix.F.kp A_law_mix.b .nil pass0 (pa_cons (pv 0) (pa_cons (pv 2) pa_nil))) pe_int)) pa_nil))) pa_nil)))))
      (pss_one (ps_ret (pe_tup (pa_cons pe_str (pa_cons (pe_callTy call_tuple_of (by rfl) T.tuple_ Boot.«tuple» (pa_cons (pv 1) pa_nil)) pa_nil))))))), ?_⟩
    have m0 := Int.emod_nonneg c (show (6 : Int) ≠ 0 by decide)
    have m1 := Int.emod_lt_of_pos c (show (0 : Int) < 6 by decide)
    have p0 := Int.emod_nonneg c (show (1000003 : Int) ≠ 0 by decide)
    have p1 := Int.emod_lt_of_pos c (show (0 : Int) < 1000003 by decide)
    refine ⟨Nat.zero_le _, fun D hD => ?_⟩
    refine ⟨_, rfl, _, _, rfl, rfl, (by show (0 : Int) < 6; decide), _, _, rfl, rfl, 1 + c % 6, rfl, by omega, by omega, for_range (lo := 0) (n := (1 + c % 6).toNat)
      (fun i σ H' => Same H H' ∧ ∃ (ps : List (Int × Int)) (vs : List V) (o2 : Option V), σ = [some (.int c), some (.ref D), o2] ∧ H' D = some (.lst vs) ∧ DatsAt K H' vs (ps.map pI) ∧ ps.length = i)
      ⟨.upd hD, [], [], none, rfl, upd_same, .nil, rfl⟩ ?_ ?_⟩
    · rintro i σ H' hi ⟨S2, ps, vs, o2, rfl, eD, hd, hl⟩
      have hl1 := hd.length
      rw [List.length_map] at hl1
      refine ⟨_, rfl, .inl ⟨rfl, _, SqL.of eD⟩, _, rfl, _, _, rfl, rfl, small_mul (by decide), _, _, rfl, rfl, (by show (0 : Int) < 100000000000; decide), _, rfl, _, rfl, _, _, rfl, rfl, (by show (0 : Int) < 1000003; decide), _, _, rfl, rfl, _, _, rfl, rfl, small_mul (by omega), _, _, rfl, rfl, _, rfl, _, rfl, _, _, rfl, by omega, by omega, fun m hm0 hm1 => ?_⟩
      refine ⟨_, _, rfl, rfl, (by show (0 : Int) < 1000000; decide), _, _, rfl, rfl, two_le, fun t ht => ?_⟩
      have S4 := Same.upd (o := .tup [V.int (c * 53 % 100000000000 + (0 + (i : Int)) * (1 + c % 1000003)), .int (1 + m % 1000000)]) ht
      have e4 := S4 _ _ eD
      refine ⟨D, _, _, rfl, rfl, e4, Nat.lt_of_le_of_lt (show vs.length ≤ 10 by omega) (by decide), ?_⟩
      obtain ⟨q1, q2, q3⟩ := snoc_ok (v := .ref t) (d := pI (c * 53 % 100000000000 + (0 + (i : Int)) * (1 + c % 1000003), 1 + m % 1000000)) hD (S2.trans S4) e4 (hd.same S4) (.tup (SqT.of upd_same) (.cons (.int _) (.cons (.int _) .nil)))
      refine ⟨q1, ps ++ [(c * 53 % 100000000000 + (0 + (i : Int)) * (1 + c % 1000003), 1 + m % 1000000)], _, _, rfl, q2, ?_, by rw [List.length_append, hl]; rfl⟩
      rw [List.map_append]
      exact q3
    · rintro σ H' ⟨S2, ps, vs, o2, rfl, eD, hd, hl⟩
      refine ⟨_, rfl, D, vs, rfl, .inl ⟨SqL.of eD, fun t ht => ?_⟩⟩
      have S3 := Same.upd (o := .tup vs) ht
      have e3 : (upd H' t (.tup vs)) t = some (.tup vs) := upd_same
      generalize upd H' t (.tup vs) = H3 at S3 e3
      refine ⟨two_le, fun q hq => ?_⟩
      have S4 := Same.upd (o := .tup [.str "pick", .ref t]) hq
      exact k _ _ _ ps (S2.trans (S3.trans S4)) (.tup (SqT.of upd_same) (.cons (.str _) (.cons (.tup (SqT.of (S4 _ _ e3)) (hd.same (S3.trans S4))) .nil))) (.pick ps)
set_option maxHeartbeats 1000000 in
theorem ok_law_names {f : Addr} {fd : FuncData} (A : FnAt K mg "_law_names" s_law_names ["_law_cell"] f fd) (T : Tl mg) : FnOk P w K mg base CX0 1 f fd ["_law_cell"] sp_names := by
  refine A.F.ok sc_law_names (fun vs H Q E h => ?_) (fun cdv Ar outer s H vs Q E hr h => ?_)
  · obtain ⟨c, rfl, _⟩ := h
    rfl
  · obtain ⟨c, rfl, k⟩ := h
    refine ⟨_, (pss_cons (ps_set (i := 1) sc_law_names.nd rfl (Or.inl rfl) pe_str)
      (pss_cons (ps_set (i := 2) sc_law_names.nd rfl (Or.inl rfl) (pe_op op_add pe_int (pe_op op_mod (pv 0) pe_int)))
      (pss_cons (ps_set (i := 3) sc_law_names.nd rfl (Or.inl rfl) (pe_op op_mod (pe_op op_fdivP (pv 0) pe_int) (pv 2)))
      (pss_cons (ps_set (i := 4) sc_law_names.nd rfl (Or.inl rfl) (pe_lst pa_nil))
      (pss_cons (ps_for PassesOwn.never rfl (pi_range1 rfl T.range_ (pa_cons pe_int pa_nil)) (pg_name (i := 5) sc_law_names.nd rfl (Or.inl rfl)) (pss_cons (ps_set (i := 6) sc_law_names.nd rfl (Or.inl rfl) pe_str)
      (pss_cons (ps_for PassesOwn.never rfl (pi_range1 rfl T.range_ (pa_cons (pv 2) pa_nil)) (pg_name (i := 7) sc_law_names.nd rfl (Or.inl rfl)) (pss_cons (ps_set (i := 8) sc_law_names.nd rfl (Or.inl rfl) (pe_op op_add (pe_op op_mulB (pv 7) (pv 7)) (pe_op op_mulB (pe_op op_mulB (pe_callTy call_int1 (by rfl) T.int_ Boot.«int» (pa_cons (pe_cmpR op_eq (pv 7) (pv 3) (nomark _)) pa_nil)) (pv 5)) pe_int)))
      (pss_one (ps_set (i := 6) sc_law_names.nd rfl (Or.inl rfl) (pe_op op_add_str (pv 6) (pe_ix ix_str (pv 1) (pe_op op_mod (pe_op op_add (pe_op op_fdivP (pv 0) pe_int) (pv 8)) pe_int) (fun _ _ => rfl)))))))
      (pss_one (ps_expr (pe_bm PySem.F.plainAttrs_list PySem.F.slot_list_append PySem.F.type_list_append mt_append (pv 4) (pa_cons (pv 6) pa_nil)))))))
      (pss_one (ps_ret (pv 4)))))))), ?_⟩
    have w0 := Int.emod_nonneg c (show (8 : Int) ≠ 0 by decide)
    have w1 := Int.emod_lt_of_pos c (show (0 : Int) < 8 by decide)
    refine ⟨_, rfl, _, _, rfl, rfl, (by show (0 : Int) < 8; decide), _, _, rfl, rfl, ?_⟩
    refine ⟨_, rfl, _, _, rfl, rfl, ⟨by decide, by decide +kernel⟩, _, rfl, _, _, rfl, rfl, (by show 0 < 1 + c % 8; omega), ?_⟩
    dsimp only
    generalize c / 8 % (1 + c % 8) = at_
    generalize hwd : 1 + c % 8 = wd
    refine ⟨Nat.zero_le _, fun D hD => ?_⟩
    refine ⟨6, rfl, by decide, by decide, for_range (lo := 0) (n := 6)
      (fun i σ H' => Same H H' ∧ ∃ (ns : List Str) (o5 o6 o7 o8 : Option V), σ = [some (.int c), some (.str abc), some (.int wd), some (.int at_), some (.ref D), o5, o6, o7, o8] ∧ H' D = some (.lst (ns.map V.str)) ∧ ns.length = i)
      ⟨.upd hD, [], none, none, none, none, rfl, upd_same, rfl⟩ ?_ ?_⟩
    · rintro i σ H' hi ⟨S2, ns, o5, o6, o7, o8, rfl, eD, hl⟩
      have ki : (i : Int) ≤ 6 := by omega
      refine ⟨_, rfl, wd, rfl, by omega, by omega, for_range (lo := 0) (n := wd.toNat) (fun j σ H'' => H'' = H' ∧ ∃ (w : List Nat) (o7 o8 : Option V), σ = [some (.int c), some (.str abc), some (.int wd), some (.int at_), some (.ref D), some (.int (0 + (i : Int))), some (.str (tx w)), o7, o8] ∧ w.length ≤ j)
        ⟨rfl, [], _, _, rfl, Nat.zero_le _⟩ ?_ ?_⟩
      · rintro j σ H'' hj ⟨rfl, w, o7, o8, rfl, hw⟩
        have kj : (j : Int) ≤ 8 := by omega
        have mj : ∀ x : Int, IntMulOk x (0 + (j : Int)) := fun x => small_mul (by omega)
        have mi : ∀ x : Int, IntMulOk x (0 + (i : Int)) := fun x => small_mul (by omega)
        refine ⟨_, rfl, _, rfl, _, _, rfl, rfl, mj _, _, rfl, _, rfl, rfl, .inr ⟨_, rfl, _, rfl, _, _, rfl, rfl, mi _, _, _, rfl, rfl, small_mul (by decide), _, _, rfl, rfl, ?_⟩⟩
        dsimp only
        generalize (0 + (j : Int)) * (0 + (j : Int)) + (if decide (V.int (0 + (j : Int)) = V.int at_) = true then 1 else 0) * (0 + (i : Int)) * 5 = st
        obtain ⟨c', hc⟩ := abc_ix (i := (c / 64 + st) % 21) (Int.emod_nonneg _ (by decide)) (Int.emod_lt_of_pos _ (by decide))
        refine ⟨_, rfl, _, rfl, _, rfl, _, _, rfl, rfl, ⟨by decide, by decide +kernel⟩, _, rfl, _, _, rfl, rfl, _, _, rfl, rfl, (by show (0 : Int) < 21; decide), abc, _, c', rfl, rfl, abc_len, hc, tx w, tx [c'], rfl, rfl, ?_, ?_⟩
        · rw [tx_len, tx_len]
          exact Nat.le_trans (show w.length + 1 ≤ 20 by omega) (by decide)
        · rw [tx_cat]
          exact ⟨rfl, w ++ [c'], _, _, rfl, by rw [List.length_append]; show w.length + 1 ≤ j + 1; omega⟩
      · rintro σ H'' ⟨rfl, w, o7, o8, rfl, hw⟩
        refine ⟨_, rfl, .inl ⟨rfl, _, SqL.of eD⟩, _, rfl, D, _, _, rfl, rfl, eD, Nat.lt_of_le_of_lt (show (ns.map V.str).length ≤ 10 by rw [List.length_map]; omega) (by decide), ?_⟩
        refine ⟨fun b o e => ?_, ns ++ [tx w], _, _, _, _, rfl, ?_, by rw [List.length_append, hl]; rfl⟩
        · rw [upd_ne (ne_of_none e hD)]
          exact S2 _ _ e
        · rw [List.map_append]
          exact upd_same
    · rintro σ H' ⟨S2, ns, o5, o6, o7, o8, rfl, eD, hl⟩
      exact ⟨_, rfl, k D H' ns S2 hD eD hl⟩
end
end K22
namespace K22
open PySem L2 FW PyProof.Rows
/-- a kind that is not told apart by the law's own parts -/
theorem kind_cases {t : Dt} {ds : List Dt} (h : Pt t ds) (nb : Nb t) : (∃ kd rr, t = .tup (.str kd :: rr) ∧ ds = [] ∧ kd ≠ "if" ∧ kd ≠ "op" ∧ kd ≠ "record" ∧ kd ≠ "rest" ∧ kd ≠ "field") ∨ (∃ a b c, t = .tup [.str "if", a, b, c] ∧ ds = [a, b, c]) ∨ (∃ x a b, t = .tup [.str "op", x, a, b] ∧ ds = [a, b]) ∨
    (∃ kd a x, t = .tup [.str kd, a, x] ∧ ds = [a] ∧ (kd = "rest" ∨ kd = "field")) ∨ ∃ fs : List (Dt × Dt), fs.length ≤ 6 ∧ t = .tup [.str "record", .tup (fs.map prD)] ∧ ds = fs.map (·.2) := by
  cases h with
  | num x => exact .inl ⟨_, _, rfl, rfl, by decide +kernel, by decide +kernel, by decide +kernel, by decide +kernel, by decide +kernel⟩
  | name x => exact .inl ⟨_, _, rfl, rfl, by decide +kernel, by decide +kernel, by decide +kernel, by decide +kernel, by decide +kernel⟩
  | slot x => exact .inl ⟨_, _, rfl, rfl, by decide +kernel, by decide +kernel, by decide +kernel, by decide +kernel, by decide +kernel⟩
  | draw x => exact .inl ⟨_, _, rfl, rfl, by decide +kernel, by decide +kernel, by decide +kernel, by decide +kernel, by decide +kernel⟩
  | pick x => exact .inl ⟨_, _, rfl, rfl, by decide +kernel, by decide +kernel, by decide +kernel, by decide +kernel, by decide +kernel⟩
  | flip x y => exact .inl ⟨_, _, rfl, rfl, by decide +kernel, by decide +kernel, by decide +kernel, by decide +kernel, by decide +kernel⟩
  | ite a b c => exact .inr (.inl ⟨_, _, _, rfl, rfl⟩)
  | op x a b => exact .inr (.inr (.inl ⟨_, _, _, rfl, rfl⟩))
  | rest d x => exact .inr (.inr (.inr (.inl ⟨_, _, _, rfl, rfl, .inl rfl⟩)))
  | field d x => exact .inr (.inr (.inr (.inl ⟨_, _, _, rfl, rfl, .inr rfl⟩)))
  | bind x a b => exact absurd rfl (nb _)
  | record fs h => exact .inr (.inr (.inr (.inr ⟨fs, h, rfl, rfl⟩)))
def sp_lparts (K : PySem.W.Frag) : Sp := fun vs H Q _ => ∃ v d ds, vs = [v] ∧ DatAt K H v d ∧ Pt d ds ∧ Nb d ∧ lstQ K H Q ds
def sp_drawn (K : PySem.W.Frag) (h : Nat) : Sp := fun vs H Q _ => ∃ v t kn n c, vs = [v] ∧ DatAt K H v t ∧ Gt kn h t n c ∧ ∀ H', Same H H' → Q (.int (n : Nat)) H'
def sp_lsize (K : PySem.W.Frag) (h : Nat) : Sp := fun vs H Q _ => ∃ v t m, vs = [v] ∧ DatAt K H v t ∧ Sz h t m ∧ ∀ H', Same H H' → Q (.int (m : Nat)) H'
/-- what the law makes of a term and its opened parts -/
def sp_again (K : PySem.W.Frag) : Sp := fun vs H Q _ => ∃ v l t xs t', vs = [v, .ref l] ∧ DatAt K H v t ∧ LsM K H l xs ∧ (Wp t xs t' ∨ (t' = t ∧ ∃ x, t = .tup [.str "num", x])) ∧ datQ K H Q t'
section
variable {P : Program} {w : World} {K : PySem.W.Frag} {mg : Str → Option Value} {base : Heap}
theorem ok_law_parts {f : Addr} {fd : FuncData} (A : FnAt K mg "_law_parts" s_law_parts ["_law_term_here"] f fd) (T : Tl mg) : FnOk P w K mg base CX0 1 f fd ["_law_term_here"] (sp_lparts K) := by
  refine A.F.ok sc_law_parts (fun vs H Q E h => ?_) (fun cdv Ar outer s H vs Q E hr h => ?_)
  · obtain ⟨v, d, ds, rfl, _⟩ := h
    rfl
  · obtain ⟨v, d, ds, rfl, hv, hp, nb, k⟩ := h
    refine ⟨_, (pss_cons (ps_if (pt_cmpR op_eq (pe_ix ix_tup (pv 0) pe_int (fun _ _ => rfl)) pe_str (nomark _)) (pss_one (ps_ret (pe_callTy call_list_of (by rfl) T.list_ Boot.«list» (pa_cons (pe_slice sl_tup (pv 0) (po_some pe_int) po_none) pa_nil)))) pss_nil)
      (pss_cons (ps_if (pt_cmpR op_eq (pe_ix ix_tup (pv 0) pe_int (fun _ _ => rfl)) pe_str (nomark _)) (pss_one (ps_ret (pe_callTy call_list_of (by rfl) T.list_ Boot.«list» (pa_cons (pe_slice sl_tup (pv 0) (po_some pe_int) po_none) pa_nil)))) pss_nil)
      (pss_cons (ps_if (pt_cmpR op_eq (pe_ix ix_tup (pv 0) pe_int (fun _ _ => rfl)) pe_str (nomark _)) (pss_one (ps_ret (pe_comp rfl (Nc := ["_law_name", "_law_part"]) (caps0 rfl (by decide +kernel) (by decide +kernel) (by decide +kernel)) (pi_tup (pe_ix ix_tup (pv 0) pe_int (fun _ _ => rfl))) (fun _ _ _ _ => by exact (pg_tupK (K := K) (n := 2) rfl rfl (pgs_cons (pg_name (i := 0) (show List.Nodup (["_law_name", "_law_part"] : List Str) by decide +kernel) rfl (Or.inl rfl)) (pgs_cons (pg_name (i := 1) (show List.Nodup (["_law_name", "_law_part"] : List Str) by decide +kernel) rfl (Or.inl rfl)) pgs_nil)))) (fun _ _ _ _ => pts_nil) (fun _ _ _ _ => (pv 1))))) pss_nil)
      (pss_cons (ps_if (PW.pt (pw_or (pt_cmpR op_eq (pe_ix ix_tup (pv 0) pe_int (fun _ _ => rfl)) pe_str (nomark _)) (pw_or1 (pt_cmpR op_eq (pe_ix ix_tup (pv 0) pe_int (fun _ _ => rfl)) pe_str (nomark _))))) (pss_one (ps_ret (pe_lst (pa_cons (pe_ix ix_tup (pv 0) pe_int (fun _ _ => rfl)) pa_nil)))) pss_nil)
      (pss_one (ps_ret (pe_lst pa_nil))))))), ?_⟩
    rcases kind_cases hp nb with ⟨kd, rr, rfl, rfl, n1, n2, n3, n4, n5⟩ | ⟨a, b, c, rfl, rfl⟩ | ⟨x, a, b, rfl, rfl⟩ | ⟨kd, a, x, rfl, rfl, hk⟩ | ⟨fs, h6, rfl, rfl⟩
    · obtain ⟨r, vs, rfl, sv, dv⟩ := hv.un
      obtain ⟨v0, vr, rfl, g0, g1⟩ := dv.un
      rw [g0.str_eq] at sv
      refine ⟨_, rfl, r, _, 0, .str kd, rfl, rfl, sv, atI_nat (j := 0) rfl, rfl, _, rfl, iteBB (fun hc => absurd (show kd = "if" by simpa using hc) n1) (fun _ => ?_)⟩
      refine ⟨_, rfl, r, _, 0, .str kd, rfl, rfl, sv, atI_nat (j := 0) rfl, rfl, _, rfl, iteBB (fun hc => absurd (show kd = "op" by simpa using hc) n2) (fun _ => ?_)⟩
      refine ⟨_, rfl, r, _, 0, .str kd, rfl, rfl, sv, atI_nat (j := 0) rfl, rfl, _, rfl, iteBB (fun hc => absurd (show kd = "record" by simpa using hc) n3) (fun _ => ?_)⟩
      refine ⟨_, rfl, r, _, 0, .str kd, rfl, rfl, sv, atI_nat (j := 0) rfl, rfl, _, rfl, iteBB (fun hc => absurd (show kd = "rest" by simpa using hc) n4) (fun _ => ?_)⟩
      refine ⟨_, rfl, r, _, 0, .str kd, rfl, rfl, sv, atI_nat (j := 0) rfl, rfl, _, rfl, iteBB (fun hc => absurd (show kd = "field" by simpa using hc) n5) (fun _ => ?_)⟩
      exact ⟨Nat.zero_le _, fun l hl => k l _ (.upd hl) hl ⟨[], upd_same, .nil⟩⟩
    · obtain ⟨r, vs, rfl, sv, dv⟩ := hv.un
      obtain ⟨v0, v1, v2, v3, rfl, h0, h1, h2, h3⟩ := dats4 dv
      rw [h0.str_eq] at sv
      refine ⟨_, rfl, r, _, 0, .str "if", rfl, rfl, sv, rfl, rfl, _, rfl, iteBB (fun _ => ?_) (fun hc => absurd hc (by decide +kernel))⟩
      refine ⟨_, rfl, _, rfl, r, _, rfl, sv, (fun z => absurd (show HT.sIx 4 0 (some 1) = 0 from z.1) (by decide)), fun q hq => ?_⟩
      have S1 := Same.upd (o := .tup [v1, v2, v3]) hq
      refine ⟨q, [v1, v2, v3], rfl, .inr (SqT.of upd_same), fun l hl => ?_⟩
      have S2 := S1.updR (o := .lst [v1, v2, v3]) hl
      exact k l _ S2 (S1.free hl) ⟨[v1, v2, v3], upd_same, .cons (h1.same S2) (.cons (h2.same S2) (.cons (h3.same S2) .nil))⟩
    · obtain ⟨r, vs, rfl, sv, dv⟩ := hv.un
      obtain ⟨v0, v1, v2, v3, rfl, h0, h1, h2, h3⟩ := dats4 dv
      rw [h0.str_eq] at sv
      refine ⟨_, rfl, r, _, 0, .str "op", rfl, rfl, sv, rfl, rfl, _, rfl, iteBB (fun hc => absurd hc (by decide +kernel)) (fun _ => ?_)⟩
      refine ⟨_, rfl, r, _, 0, .str "op", rfl, rfl, sv, rfl, rfl, _, rfl, iteBB (fun _ => ?_) (fun hc => absurd hc (by decide +kernel))⟩
      refine ⟨_, rfl, _, rfl, r, _, rfl, sv, (fun z => absurd (show HT.sIx 4 0 (some 2) = 0 from z.1) (by decide)), fun q hq => ?_⟩
      have S1 := Same.upd (o := .tup [v2, v3]) hq
      refine ⟨q, [v2, v3], rfl, .inr (SqT.of upd_same), fun l hl => ?_⟩
      have S2 := S1.updR (o := .lst [v2, v3]) hl
      exact k l _ S2 (S1.free hl) ⟨[v2, v3], upd_same, .cons (h2.same S2) (.cons (h3.same S2) .nil)⟩
    · obtain ⟨r, vs, rfl, sv, dv⟩ := hv.un
      obtain ⟨v0, v1, v2, rfl, h0, h1, h2⟩ := dats3 dv
      rw [h0.str_eq] at sv
      have n1 : kd ≠ "if" := by rcases hk with z | z <;> rw [z] <;> decide +kernel
      have n2 : kd ≠ "op" := by rcases hk with z | z <;> rw [z] <;> decide +kernel
      have n3 : kd ≠ "record" := by rcases hk with z | z <;> rw [z] <;> decide +kernel
      refine ⟨_, rfl, r, _, 0, .str kd, rfl, rfl, sv, rfl, rfl, _, rfl, iteBB (fun hc => absurd (show kd = "if" by simpa using hc) n1) (fun _ => ?_)⟩
      refine ⟨_, rfl, r, _, 0, .str kd, rfl, rfl, sv, rfl, rfl, _, rfl, iteBB (fun hc => absurd (show kd = "op" by simpa using hc) n2) (fun _ => ?_)⟩
      refine ⟨_, rfl, r, _, 0, .str kd, rfl, rfl, sv, rfl, rfl, _, rfl, iteBB (fun hc => absurd (show kd = "record" by simpa using hc) n3) (fun _ => ?_)⟩
      refine ⟨_, rfl, r, _, 0, .str kd, rfl, rfl, sv, rfl, rfl, _, rfl, iteBB (fun _ => ?_) (fun n4 => ?_)⟩
      · refine iteT ?_
        exact ⟨_, rfl, r, _, 1, v1, rfl, rfl, sv, rfl, (by show 1 ≤ sizeLine; decide), fun l hl => k l _ (.upd hl) hl ⟨[v1], upd_same, .cons (h1.same (.upd hl)) .nil⟩⟩
      · have e5 : kd = "field" := by
          rcases hk with z | z
          · rw [z] at n4; exact absurd n4 (by decide +kernel)
          · exact z
        subst e5
        refine ⟨_, rfl, r, _, 0, .str "field", rfl, rfl, sv, rfl, rfl, _, rfl, iteBB (fun _ => ?_) (fun hc => absurd hc (by decide +kernel))⟩
        exact ⟨_, rfl, r, _, 1, v1, rfl, rfl, sv, rfl, (by show 1 ≤ sizeLine; decide), fun l hl => k l _ (.upd hl) hl ⟨[v1], upd_same, .cons (h1.same (.upd hl)) .nil⟩⟩
    · obtain ⟨r, vs, rfl, sv, dv⟩ := hv.un
      obtain ⟨v0, v1, rfl, h0, h1⟩ := dv.two
      rw [h0.str_eq] at sv
      obtain ⟨q, ws, rfl, sq, dq⟩ := h1.un
      have lw := dq.length
      rw [List.length_map] at lw
      refine ⟨_, rfl, r, _, 0, .str "record", rfl, rfl, sv, rfl, rfl, _, rfl, iteBB (fun hc => absurd hc (by decide +kernel)) (fun _ => ?_)⟩
      refine ⟨_, rfl, r, _, 0, .str "record", rfl, rfl, sv, rfl, rfl, _, rfl, iteBB (fun hc => absurd hc (by decide +kernel)) (fun _ => ?_)⟩
      refine ⟨_, rfl, r, _, 0, .str "record", rfl, rfl, sv, rfl, rfl, _, rfl, iteBB (fun _ => ?_) (fun hc => absurd hc (by decide +kernel))⟩
      refine ⟨_, rfl, r, _, 1, .ref q, rfl, rfl, sv, rfl, q, rfl, ⟨_, sq⟩, fun D hD => ?_⟩
      refine comp_tup (K := K) (a := q) (D := D) (xs := ws) (fun i σ ys H' => (∃ o1 o2, σ = [o1, o2]) ∧ Same H H' ∧ H' D = some (.lst ys) ∧ DatsAt K H' ys ((fs.take i).map (·.2)))
        ⟨⟨none, none, rfl⟩, .upd hD, upd_same, .nil⟩ ?_ ?_ ?_
      · rintro i σ ys H' hi ⟨_, S2, eD, hy⟩
        have := hy.length
        rw [List.length_map, List.length_take] at this
        exact ⟨S2.tup sq, eD, Nat.lt_of_le_of_lt (show ys.length ≤ 6 by omega) (by decide)⟩
      · rintro i x σ ys H' hx ⟨⟨o1, o2, rfl⟩, S2, eD, hy⟩ N hN
        obtain ⟨d, ed, hxd⟩ := (dq.same S2).get' hx
        obtain ⟨p, ep, rfl⟩ := map_get ed
        obtain ⟨rf, va, vb, rfl, s1, s2, s3⟩ := hxd.pr
        refine ⟨rf, _, rfl, s1, rfl, _, _, rfl, _, _, rfl, rfl, ?_⟩
        refine iteT (B := True) ?_
        refine ⟨_, rfl, eD, hN _ _ _ ?_⟩
        obtain ⟨w1, w2, w3⟩ := snoc_ok (v := vb) (d := p.2) hD S2 eD hy s3
        refine ⟨⟨_, _, rfl⟩, w1, w2, ?_⟩
        rw [take_snoc' ep, List.map_append]
        exact w3
      · rintro σ ys H' ⟨_, S2, eD, hy⟩
        rw [List.take_of_length_le (by omega)] at hy
        exact k D H' S2 hD ⟨ys, eD, hy⟩
theorem Gts.un {kn : List Str} {h n c : Nat} {d : Dt} {ds : List Dt} (g : Gts kn h (d :: ds) n c) : ∃ n1 n2 c1 c2, n = n1 + n2 ∧ c = c1 + c2 ∧ Gt kn h d n1 c1 ∧ Gts kn h ds n2 c2 := by
  cases g with
  | cons _ _ n1 n2 c1 c2 h1 h2 => exact ⟨n1, n2, c1, c2, rfl, rfl, h1, h2⟩
theorem Gts.un0 {kn : List Str} {h n c : Nat} (g : Gts kn h [] n c) : n = 0 ∧ c = 0 := by
  cases g
  exact ⟨rfl, rfl⟩
theorem Gt.head {kn : List Str} {N n c : Nat} {t : Dt} (b : Gt kn (N + 1) t n c) : ∃ kd rr ds n0 c0, t = .tup (.str kd :: rr) ∧ Pt t ds ∧ Nb t ∧ n = (if kd = "flip" ∨ kd = "pick" then 1 else 0) + n0 ∧ Gts kn N ds n0 c0 := by
  cases b with
  | num x => exact ⟨_, _, [], 0, 0, rfl, .num _, nb_of (by decide +kernel), by rw [if_neg (by decide +kernel)], .nil⟩
  | name s hs => exact ⟨_, _, [], 0, 0, rfl, .name _, nb_of (by decide +kernel), by rw [if_neg (by decide +kernel)], .nil⟩
  | draw _ ps hd =>
    cases hd
    · exact ⟨_, _, [], 0, 0, rfl, .flip _ _, nb_of (by decide +kernel), by rw [if_pos (by decide +kernel)], .nil⟩
    · exact ⟨_, _, [], 0, 0, rfl, .pick _, nb_of (by decide +kernel), by rw [if_pos (by decide +kernel)], .nil⟩
  | node _ t1 ds n c hp hw ok hs =>
    obtain ⟨kd, rr, rfl, n0, n1, n2, n3, n4⟩ := hw.kind
    exact ⟨kd, rr, ds, n, c, rfl, hp, hw.nb.1, by rw [if_neg (by simp [n3, n4]), Nat.zero_add], hs⟩
set_option maxHeartbeats 1000000 in
theorem ok_law_drawn {f fP : Addr} {fd dP : FuncData} (A_law_drawn : FnAt K mg "_law_drawn" s_law_drawn ["_law_term_here"] f fd) (A_law_parts : FnAt K mg "_law_parts" s_law_parts ["_law_term_here"] fP dP) (T : Tl mg) : ∀ h : Nat, FnOk P w K mg base CX0 (h + 1) f fd ["_law_term_here"] (sp_drawn K h)
  | 0 => by
    refine FnOk.imp (FnOk.no) (fun vs H Q E h => ?_)
    obtain ⟨v, t, kn, n, c, rfl, _, b, _⟩ := h
    cases b
  | N + 1 => by
    have G_law_drawn : FnOk P w K mg base CX0 (N + 1) f fd _ (sp_drawn K N) := ok_law_drawn A_law_drawn A_law_parts T N
    have G_law_parts : FnOk P w K mg base CX0 1 fP dP _ (sp_lparts K) := ok_law_parts A_law_parts T
    refine A_law_drawn.F.ok (k := N + 1) sc_law_drawn (fun vs H Q E h => ?_) (fun cdv Ar outer s H vs Q E hr h => ?_)
    · obtain ⟨v, t, kn, n, c, rfl, _⟩ := h
      rfl
    · obtain ⟨v, t, kn, n, c, rfl, hv, b, k⟩ := h
      refine ⟨_, (pss_cons (ps_set (i := 1) sc_law_drawn.nd rfl (Or.inl rfl) (pe_callTy call_int1 (by rfl) T.int_ Boot.«int» (pa_cons (pe_or (pe_cmpR op_eq (pe_ix ix_tup (pv 0) pe_int (fun _ _ => rfl)) pe_str (nomark _)) (pe_one (pe_cmpR op_eq (pe_ix ix_tup (pv 0) pe_int (fun _ _ => rfl)) pe_str (nomark _)))) pa_nil)))
      (pss_cons (ps_for PassesOwn.never rfl (pi_list (pe_call G_law_parts (hr.mono (by omega)) rfl A_law_parts.m A_law_parts.F.kp A_law_parts.b .nil pass0 (pa_cons (pv 0) pa_nil))) (pg_name (i := 2) sc_law_drawn.nd rfl (Or.inl rfl)) (pss_one (ps_set (i := 1) sc_law_drawn.nd rfl (Or.inl rfl) (pe_op op_add (pv 1) (pe_call G_law_drawn (hr.mono (by omega)) rfl A_law_drawn.m A_law_drawn.F.kp A_law_drawn.b .nil pass0 (pa_cons (pv 2) pa_nil))))))
      (pss_one (ps_ret (pv 1))))), ?_⟩
      obtain ⟨kd, rr, ds, n0, c0, rfl, hpt, nb, en, hs⟩ := b.head
      have hv0 := hv
      obtain ⟨r, vs, rfl, sv, dv⟩ := hv0.un
      obtain ⟨v0, vr, rfl, g0, g1⟩ := dv.un
      rw [g0.str_eq] at sv
      refine ⟨_, rfl, r, _, 0, .str kd, rfl, rfl, sv, atI_nat (j := 0) rfl, rfl, _, rfl, iteBB (fun h1 => ?_) (fun h1 => ?_)⟩
      · have e1 : kd = "flip" := by simpa using h1
        rw [if_pos (.inl e1)] at en
        refine .inr ⟨_, rfl, ?_⟩
        refine ⟨_, rfl, .ref r, _, ds, rfl, hv, hpt, nb, fun P1 H1 S1 hP1 lsP => ?_⟩
        obtain ⟨us, eP, du⟩ := lsP
        have lu := du.length
        refine ⟨P1, rfl, ⟨_, SqL.of eP⟩, for_list (K := K) (a := P1) (xs := us) (fun i σ H' => Same H1 H' ∧ ∃ (m : Nat) (nr cr : Nat) (o2 : Option V), Gts kn N (ds.drop i) nr cr ∧ n = m + nr ∧ σ = [some (.ref r), some (.int (m : Int)), o2]) ⟨.refl _, 1, n0, c0, none, hs, by omega, rfl⟩ (fun i σ H' _ z => SqL.of (z.1 _ _ eP)) ?_ ?_⟩
        · rintro i x σ H' hx ⟨S2, m, nr, cr, o2, gs, en', rfl⟩
          obtain ⟨d, ed, hxd⟩ := (du.same S2).get' hx
          have hi := (List.getElem?_eq_some_iff.mp ed).1
          rw [List.drop_eq_getElem_cons hi, (List.getElem?_eq_some_iff.mp ed).2] at gs
          obtain ⟨n1, n2, c1, c2, rfl, rfl, g1, g2⟩ := gs.un
          exact ⟨_, rfl, _, rfl, x, d, kn, n1, c1, rfl, hxd, g1, fun H3 S3 => ⟨_, _, rfl, rfl, S2.trans S3, m + n1, n2, c2, _, g2, by omega, rfl⟩⟩
        · rintro σ H' ⟨S2, m, nr, cr, o2, gs, en', rfl⟩
          rw [List.drop_of_length_le (by omega)] at gs
          obtain ⟨rfl, rfl⟩ := gs.un0
          refine ⟨_, rfl, ?_⟩
          rw [show m = n by omega]
          exact k H' (S1.trans S2)
      · refine ⟨_, rfl, r, _, 0, .str kd, rfl, rfl, sv, atI_nat (j := 0) rfl, rfl, .inr ⟨_, rfl, ?_⟩⟩
        have n1 : kd ≠ "flip" := by simpa using h1
        by_cases e2 : kd = "pick"
        · rw [if_pos (.inr e2)] at en
          rw [decide_eq_true (show V.str kd = V.str "pick" by rw [e2]), if_pos rfl]
          refine ⟨_, rfl, .ref r, _, ds, rfl, hv, hpt, nb, fun P1 H1 S1 hP1 lsP => ?_⟩
          obtain ⟨us, eP, du⟩ := lsP
          have lu := du.length
          refine ⟨P1, rfl, ⟨_, SqL.of eP⟩, for_list (K := K) (a := P1) (xs := us) (fun i σ H' => Same H1 H' ∧ ∃ (m : Nat) (nr cr : Nat) (o2 : Option V), Gts kn N (ds.drop i) nr cr ∧ n = m + nr ∧ σ = [some (.ref r), some (.int (m : Int)), o2]) ⟨.refl _, 1, n0, c0, none, hs, by omega, rfl⟩ (fun i σ H' _ z => SqL.of (z.1 _ _ eP)) ?_ ?_⟩
          · rintro i x σ H' hx ⟨S2, m, nr, cr, o2, gs, en', rfl⟩
            obtain ⟨d, ed, hxd⟩ := (du.same S2).get' hx
            have hi := (List.getElem?_eq_some_iff.mp ed).1
            rw [List.drop_eq_getElem_cons hi, (List.getElem?_eq_some_iff.mp ed).2] at gs
            obtain ⟨n1, n2, c1, c2, rfl, rfl, g1, g2⟩ := gs.un
            exact ⟨_, rfl, _, rfl, x, d, kn, n1, c1, rfl, hxd, g1, fun H3 S3 => ⟨_, _, rfl, rfl, S2.trans S3, m + n1, n2, c2, _, g2, by omega, rfl⟩⟩
          · rintro σ H' ⟨S2, m, nr, cr, o2, gs, en', rfl⟩
            rw [List.drop_of_length_le (by omega)] at gs
            obtain ⟨rfl, rfl⟩ := gs.un0
            refine ⟨_, rfl, ?_⟩
            rw [show m = n by omega]
            exact k H' (S1.trans S2)
        · rw [if_neg (by simp [n1, e2])] at en
          rw [decide_eq_false (show ¬ V.str kd = V.str "pick" by simpa using e2), if_neg (by decide)]
          refine ⟨_, rfl, .ref r, _, ds, rfl, hv, hpt, nb, fun P1 H1 S1 hP1 lsP => ?_⟩
          obtain ⟨us, eP, du⟩ := lsP
          have lu := du.length
          refine ⟨P1, rfl, ⟨_, SqL.of eP⟩, for_list (K := K) (a := P1) (xs := us) (fun i σ H' => Same H1 H' ∧ ∃ (m : Nat) (nr cr : Nat) (o2 : Option V), Gts kn N (ds.drop i) nr cr ∧ n = m + nr ∧ σ = [some (.ref r), some (.int (m : Int)), o2]) ⟨.refl _, 0, n0, c0, none, hs, by omega, rfl⟩ (fun i σ H' _ z => SqL.of (z.1 _ _ eP)) ?_ ?_⟩
          · rintro i x σ H' hx ⟨S2, m, nr, cr, o2, gs, en', rfl⟩
            obtain ⟨d, ed, hxd⟩ := (du.same S2).get' hx
            have hi := (List.getElem?_eq_some_iff.mp ed).1
            rw [List.drop_eq_getElem_cons hi, (List.getElem?_eq_some_iff.mp ed).2] at gs
            obtain ⟨n1, n2, c1, c2, rfl, rfl, g1, g2⟩ := gs.un
            exact ⟨_, rfl, _, rfl, x, d, kn, n1, c1, rfl, hxd, g1, fun H3 S3 => ⟨_, _, rfl, rfl, S2.trans S3, m + n1, n2, c2, _, g2, by omega, rfl⟩⟩
          · rintro σ H' ⟨S2, m, nr, cr, o2, gs, en', rfl⟩
            rw [List.drop_of_length_le (by omega)] at gs
            obtain ⟨rfl, rfl⟩ := gs.un0
            refine ⟨_, rfl, ?_⟩
            rw [show m = n by omega]
            exact k H' (S1.trans S2)
theorem ok_law_size {f fP : Addr} {fd dP : FuncData} (A_law_size : FnAt K mg "_law_size" s_law_size ["_law_term_here"] f fd) (A_law_parts : FnAt K mg "_law_parts" s_law_parts ["_law_term_here"] fP dP) (T : Tl mg) : ∀ h : Nat, FnOk P w K mg base CX0 (h + 1) f fd ["_law_term_here"] (sp_lsize K h)
  | 0 => by
    refine FnOk.imp (FnOk.no) (fun vs H Q E h => ?_)
    obtain ⟨v, t, m, rfl, _, b, _⟩ := h
    cases b
  | N + 1 => by
    have G_law_size : FnOk P w K mg base CX0 (N + 1) f fd _ (sp_lsize K N) := ok_law_size A_law_size A_law_parts T N
    have G_law_parts : FnOk P w K mg base CX0 1 fP dP _ (sp_lparts K) := ok_law_parts A_law_parts T
    refine A_law_size.F.ok (k := N + 1) sc_law_size (fun vs H Q E h => ?_) (fun cdv Ar outer s H vs Q E hr h => ?_)
    · obtain ⟨v, t, m, rfl, _⟩ := h
      rfl
    · obtain ⟨v, t, n, rfl, hv, b, k⟩ := h
      refine ⟨_, (pss_cons (ps_set (i := 1) sc_law_size.nd rfl (Or.inl rfl) pe_int)
      (pss_cons (ps_for PassesOwn.never rfl (pi_list (pe_call G_law_parts (hr.mono (by omega)) rfl A_law_parts.m A_law_parts.F.kp A_law_parts.b .nil pass0 (pa_cons (pv 0) pa_nil))) (pg_name (i := 2) sc_law_size.nd rfl (Or.inl rfl)) (pss_one (ps_set (i := 1) sc_law_size.nd rfl (Or.inl rfl) (pe_op op_add (pv 1) (pe_call G_law_size (hr.mono (by omega)) rfl A_law_size.m A_law_size.F.kp A_law_size.b .nil pass0 (pa_cons (pv 2) pa_nil))))))
      (pss_one (ps_ret (pv 1))))), ?_⟩
      obtain ⟨h', ds, m0, eh, rfl, hpt, nb, hs⟩ := b.un
      cases (show h' = N by omega)
      refine ⟨_, rfl, v, _, ds, rfl, hv, hpt, nb, fun P1 H1 S1 hP1 lsP => ?_⟩
      obtain ⟨us, eP, du⟩ := lsP
      have lu := du.length
      refine ⟨P1, rfl, ⟨_, SqL.of eP⟩, for_list (K := K) (a := P1) (xs := us) (fun i σ H' => Same H1 H' ∧ ∃ (m : Nat) (nr : Nat) (o2 : Option V), Szs N (ds.drop i) nr ∧ m0 + 1 = m + nr ∧ σ = [some (v), some (.int (m : Int)), o2]) ⟨.refl _, 1, m0, none, hs, by omega, rfl⟩ (fun i σ H' _ z => SqL.of (z.1 _ _ eP)) ?_ ?_⟩
      · rintro i x σ H' hx ⟨S2, m, nr, o2, gs, en', rfl⟩
        obtain ⟨d, ed, hxd⟩ := (du.same S2).get' hx
        have hi := (List.getElem?_eq_some_iff.mp ed).1
        rw [List.drop_eq_getElem_cons hi, (List.getElem?_eq_some_iff.mp ed).2] at gs
        obtain ⟨n1, n2, rfl, g1, g2⟩ := gs.un
        exact ⟨_, rfl, _, rfl, x, d, n1, rfl, hxd, g1, fun H3 S3 => ⟨_, _, rfl, rfl, S2.trans S3, m + n1, n2, _, g2, by omega, rfl⟩⟩
      · rintro σ H' ⟨S2, m, nr, o2, gs, en', rfl⟩
        rw [List.drop_of_length_le (by omega)] at gs
        cases gs.un0
        refine ⟨_, rfl, ?_⟩
        rw [show m = m0 + 1 by omega]
        exact k H' (S1.trans S2)
set_option maxHeartbeats 1000000 in
theorem ok_law_again {f : Addr} {fd : FuncData} (A : FnAt K mg "_law_again" s_law_again ["_law_term_here", "_law_parts_here"] f fd) (T : Tl mg) : FnOk P w K mg base CX0 1 f fd ["_law_term_here", "_law_parts_here"] (sp_again K) := by
  refine A.F.ok sc_law_again (fun vs H Q E h => ?_) (fun cdv Ar outer s H vs Q E hr h => ?_)
  · obtain ⟨v, l, t, xs, t', rfl, _⟩ := h
    rfl
  · obtain ⟨v, l, t, xs, t', rfl, hv, ⟨us, el, du⟩, hw, k⟩ := h
    refine ⟨_, (pss_cons (ps_if (pt_cmpR op_eq (pe_ix ix_tup (pv 0) pe_int (fun _ _ => rfl)) pe_str (nomark _)) (pss_one (ps_ret (pe_tup (pa_cons pe_str (pa_cons (pe_ix ix_list (pv 1) pe_int (fun _ _ => rfl)) (pa_cons (pe_ix ix_list (pv 1) pe_int (fun _ _ => rfl)) (pa_cons (pe_ix ix_list (pv 1) pe_int (fun _ _ => rfl)) pa_nil))))))) pss_nil)
      (pss_cons (ps_if (pt_cmpR op_eq (pe_ix ix_tup (pv 0) pe_int (fun _ _ => rfl)) pe_str (nomark _)) (pss_one (ps_ret (pe_tup (pa_cons pe_str (pa_cons (pe_ix ix_tup (pv 0) pe_int (fun _ _ => rfl)) (pa_cons (pe_ix ix_list (pv 1) pe_int (fun _ _ => rfl)) (pa_cons (pe_ix ix_list (pv 1) pe_int (fun _ _ => rfl)) pa_nil))))))) pss_nil)
      (pss_cons (ps_if (pt_cmpR op_eq (pe_ix ix_tup (pv 0) pe_int (fun _ _ => rfl)) pe_str (nomark _)) (pss_one (ps_ret (pe_tup (pa_cons pe_str (pa_cons (pe_callTy call_tuple_of (by rfl) T.tuple_ Boot.«tuple» (pa_cons (pe_comp rfl (Nc := ["_law_pair", "_law_part"]) (caps0 rfl (by decide +kernel) (by decide +kernel) (by decide +kernel)) (pi_zipM rfl T.zip_ (pa_cons (pe_ix ix_tup (pv 0) pe_int (fun _ _ => rfl)) (pa_cons (pv 1) pa_nil))) (fun _ _ _ _ => by exact (pg_tupK (K := K) (n := 2) rfl rfl (pgs_cons (pg_name (i := 0) (show List.Nodup (["_law_pair", "_law_part"] : List Str) by decide +kernel) rfl (Or.inl rfl)) (pgs_cons (pg_name (i := 1) (show List.Nodup (["_law_pair", "_law_part"] : List Str) by decide +kernel) rfl (Or.inl rfl)) pgs_nil)))) (fun _ _ _ _ => pts_nil) (fun _ _ _ _ => by exact (pe_tup (pa_cons (pe_ix (ix_tupK (K := K) rfl) (pv 0) pe_int (fun _ _ => rfl)) (pa_cons (pv 1) pa_nil))))) pa_nil)) pa_nil))))) pss_nil)
      (pss_cons (ps_if (PW.pt (pw_or (pt_cmpR op_eq (pe_ix ix_tup (pv 0) pe_int (fun _ _ => rfl)) pe_str (nomark _)) (pw_or1 (pt_cmpR op_eq (pe_ix ix_tup (pv 0) pe_int (fun _ _ => rfl)) pe_str (nomark _))))) (pss_one (ps_ret (pe_tup (pa_cons (pe_ix ix_tup (pv 0) pe_int (fun _ _ => rfl)) (pa_cons (pe_ix ix_list (pv 1) pe_int (fun _ _ => rfl)) (pa_cons (pe_ix ix_tup (pv 0) pe_int (fun _ _ => rfl)) pa_nil)))))) pss_nil)
      (pss_one (ps_ret (pv 0))))))), ?_⟩
    rcases hw with hw | ⟨rfl, x, rfl⟩
    rotate_left
    · have hv0 := hv
      obtain ⟨r, vs, rfl, sv, dv⟩ := hv.un
      obtain ⟨v0, v1, rfl, h0, h1⟩ := dv.two
      rw [h0.str_eq] at sv
      refine ⟨_, rfl, r, _, 0, .str "num", rfl, rfl, sv, rfl, rfl, _, rfl, iteBB (fun hc => absurd hc (by decide +kernel)) (fun _ => ?_)⟩
      refine ⟨_, rfl, r, _, 0, .str "num", rfl, rfl, sv, rfl, rfl, _, rfl, iteBB (fun hc => absurd hc (by decide +kernel)) (fun _ => ?_)⟩
      refine ⟨_, rfl, r, _, 0, .str "num", rfl, rfl, sv, rfl, rfl, _, rfl, iteBB (fun hc => absurd hc (by decide +kernel)) (fun _ => ?_)⟩
      refine ⟨_, rfl, r, _, 0, .str "num", rfl, rfl, sv, rfl, rfl, _, rfl, iteBB (fun hc => absurd hc (by decide +kernel)) (fun _ => ?_)⟩
      refine ⟨_, rfl, r, _, 0, .str "num", rfl, rfl, sv, rfl, rfl, _, rfl, iteBB (fun hc => absurd hc (by decide +kernel)) (fun _ => ?_)⟩
      exact ⟨_, rfl, k _ _ (.refl _) hv0⟩
    cases hw with
    | ite a b c x y z =>
      obtain ⟨r, vs, rfl, sv, dv⟩ := hv.un
      obtain ⟨v0, v1, v2, v3, rfl, h0, h1, h2, h3⟩ := dats4 dv
      rw [h0.str_eq] at sv
      obtain ⟨u0, u1, u2, rfl, g0, g1, g2⟩ := dats3 du
      refine ⟨_, rfl, r, _, 0, .str "if", rfl, rfl, sv, rfl, rfl, _, rfl, iteBB (fun _ => ?_) (fun hc => absurd hc (by decide +kernel))⟩
      exact ⟨_, rfl, l, _, 0, u0, rfl, rfl, SqL.of el, rfl, _, rfl, l, _, 1, u1, rfl, rfl, SqL.of el, rfl, _, rfl, l, _, 2, u2, rfl, rfl, SqL.of el, rfl, t4, fun q hq => k _ _ (.upd hq) (.tup (SqT.of upd_same) (.cons (.str _) (.cons (g0.same (.upd hq)) (.cons (g1.same (.upd hq)) (.cons (g2.same (.upd hq)) .nil)))))⟩
    | op sg a b x y =>
      obtain ⟨r, vs, rfl, sv, dv⟩ := hv.un
      obtain ⟨v0, v1, v2, v3, rfl, h0, h1, h2, h3⟩ := dats4 dv
      rw [h0.str_eq, h1.str_eq] at sv
      obtain ⟨u0, u1, rfl, g0, g1⟩ := du.two
      refine ⟨_, rfl, r, _, 0, .str "op", rfl, rfl, sv, rfl, rfl, _, rfl, iteBB (fun hc => absurd hc (by decide +kernel)) (fun _ => ?_)⟩
      refine ⟨_, rfl, r, _, 0, .str "op", rfl, rfl, sv, rfl, rfl, _, rfl, iteBB (fun _ => ?_) (fun hc => absurd hc (by decide +kernel))⟩
      exact ⟨_, rfl, r, _, 1, .str sg, rfl, rfl, sv, rfl, _, rfl, l, _, 0, u0, rfl, rfl, SqL.of el, rfl, _, rfl, l, _, 1, u1, rfl, rfl, SqL.of el, rfl, t4, fun q hq => k _ _ (.upd hq) (.tup (SqT.of upd_same) (.cons (.str _) (.cons (.str _) (.cons (g0.same (.upd hq)) (.cons (g1.same (.upd hq)) .nil)))))⟩
    | rest a n x =>
      obtain ⟨r, vs, rfl, sv, dv⟩ := hv.un
      obtain ⟨v0, v1, v2, rfl, h0, h1, h2⟩ := dats3 dv
      rw [h0.str_eq] at sv
      obtain ⟨u0, ur, rfl, g0, hn0⟩ := du.un
      have := hn0.un0
      subst this
      refine ⟨_, rfl, r, _, 0, .str "rest", rfl, rfl, sv, rfl, rfl, _, rfl, iteBB (fun hc => absurd hc (by decide +kernel)) (fun _ => ?_)⟩
      refine ⟨_, rfl, r, _, 0, .str "rest", rfl, rfl, sv, rfl, rfl, _, rfl, iteBB (fun hc => absurd hc (by decide +kernel)) (fun _ => ?_)⟩
      refine ⟨_, rfl, r, _, 0, .str "rest", rfl, rfl, sv, rfl, rfl, _, rfl, iteBB (fun hc => absurd hc (by decide +kernel)) (fun _ => ?_)⟩
      refine ⟨_, rfl, r, _, 0, .str "rest", rfl, rfl, sv, rfl, rfl, _, rfl, iteBB (fun _ => ?_) (fun hc => absurd hc (by decide +kernel))⟩
      refine iteT ?_
      exact ⟨_, rfl, r, _, 0, .str "rest", rfl, rfl, sv, rfl, _, rfl, l, _, 0, u0, rfl, rfl, SqL.of el, rfl, _, rfl, r, _, 2, v2, rfl, rfl, sv, rfl, t3, fun q hq => k _ _ (.upd hq) (.tup (SqT.of upd_same) (.cons (.str _) (.cons (g0.same (.upd hq)) (.cons (h2.same (.upd hq)) .nil))))⟩
    | field a n x =>
      obtain ⟨r, vs, rfl, sv, dv⟩ := hv.un
      obtain ⟨v0, v1, v2, rfl, h0, h1, h2⟩ := dats3 dv
      rw [h0.str_eq] at sv
      obtain ⟨u0, ur, rfl, g0, hn0⟩ := du.un
      have := hn0.un0
      subst this
      refine ⟨_, rfl, r, _, 0, .str "field", rfl, rfl, sv, rfl, rfl, _, rfl, iteBB (fun hc => absurd hc (by decide +kernel)) (fun _ => ?_)⟩
      refine ⟨_, rfl, r, _, 0, .str "field", rfl, rfl, sv, rfl, rfl, _, rfl, iteBB (fun hc => absurd hc (by decide +kernel)) (fun _ => ?_)⟩
      refine ⟨_, rfl, r, _, 0, .str "field", rfl, rfl, sv, rfl, rfl, _, rfl, iteBB (fun hc => absurd hc (by decide +kernel)) (fun _ => ?_)⟩
      refine ⟨_, rfl, r, _, 0, .str "field", rfl, rfl, sv, rfl, rfl, _, rfl, iteBB (fun hc => absurd hc (by decide +kernel)) (fun _ => ?_)⟩
      refine ⟨_, rfl, r, _, 0, .str "field", rfl, rfl, sv, rfl, rfl, _, rfl, iteBB (fun _ => ?_) (fun hc => absurd hc (by decide +kernel))⟩
      exact ⟨_, rfl, r, _, 0, .str "field", rfl, rfl, sv, rfl, _, rfl, l, _, 0, u0, rfl, rfl, SqL.of el, rfl, _, rfl, r, _, 2, v2, rfl, rfl, sv, rfl, t3, fun q hq => k _ _ (.upd hq) (.tup (SqT.of upd_same) (.cons (.str _) (.cons (g0.same (.upd hq)) (.cons (h2.same (.upd hq)) .nil))))⟩
    | record fs _ hl h6 =>
      obtain ⟨r, vs, rfl, sv, dv⟩ := hv.un
      obtain ⟨v0, v1, rfl, h0, h1⟩ := dv.two
      rw [h0.str_eq] at sv
      obtain ⟨q, ws, rfl, sq, dq⟩ := h1.un
      have lw := dq.length
      rw [List.length_map, List.length_map] at lw
      have lu := du.length
      refine ⟨_, rfl, r, _, 0, .str "record", rfl, rfl, sv, rfl, rfl, _, rfl, iteBB (fun hc => absurd hc (by decide +kernel)) (fun _ => ?_)⟩
      refine ⟨_, rfl, r, _, 0, .str "record", rfl, rfl, sv, rfl, rfl, _, rfl, iteBB (fun hc => absurd hc (by decide +kernel)) (fun _ => ?_)⟩
      refine ⟨_, rfl, r, _, 0, .str "record", rfl, rfl, sv, rfl, rfl, _, rfl, iteBB (fun _ => ?_) (fun hc => absurd hc (by decide +kernel))⟩
      have lp : ((fs.map (·.1)).zip xs).length = fs.length := by rw [List.length_zip, List.length_map]; omega
      refine ⟨_, rfl, r, _, 1, .ref q, rfl, rfl, sv, rfl, _, rfl, q, l, rfl, ⟨_, sq⟩, ⟨_, SqL.of el⟩, fun D hD => ?_⟩
      refine comp_zipM (K := K) (a := q) (b := l) (D := D) (xs := ws) (ys := us) (fun i σ zs H' => (∃ o1 o2, σ = [o1, o2]) ∧ Same H H' ∧ H' D = some (.lst zs) ∧ DatsAt K H' zs (((((fs.map (·.1)).zip xs).take i).map prS).map prD))
        ⟨⟨none, none, rfl⟩, .upd hD, upd_same, .nil⟩ ?_ ?_ ?_
      · rintro i σ zs H' hi ⟨_, S2, eD, hz⟩
        have := hz.length
        rw [List.length_map, List.length_map, List.length_take] at this
        exact ⟨S2.tup sq, SqL.of (S2 _ _ el), eD, Nat.lt_of_le_of_lt (show zs.length ≤ 6 by omega) (by decide)⟩
      · rintro i x y σ zs H' pt hx hy ⟨⟨o1, o2, rfl⟩, S2, eD, hz⟩ hpt N hN
        have S3 := Same.upd (o := .tup [x, y]) hpt
        have e3 : (upd H' pt (.tup [x, y])) pt = some (.tup [x, y]) := upd_same
        generalize upd H' pt (.tup [x, y]) = H3 at S3 e3
        have S23 := S2.trans S3
        obtain ⟨d1, ed1, hx1⟩ := (dq.same S23).get' hx
        obtain ⟨p1, ep1, rfl⟩ := map_get ed1
        obtain ⟨f1, ef1, rfl⟩ := map_get ep1
        obtain ⟨d2, ed2, hy2⟩ := (du.same S23).get' hy
        obtain ⟨rf, vn, vt, rfl, sf, hn1, ht1⟩ := DatAt.pr hx1
        have hn1' : vn = .str f1.1 := DatAt.str_eq hn1
        subst hn1'
        refine ⟨pt, _, rfl, SqT.of e3, rfl, _, _, rfl, _, _, rfl, rfl, ?_⟩
        refine iteT (B := True) ?_
        refine ⟨_, rfl, rf, _, 0, .str f1.1, rfl, rfl, sf, rfl, _, rfl, two_le, fun t ht => ?_⟩
        have S4 := Same.upd (o := .tup [.str f1.1, y]) ht
        have e4 : (upd H3 t (.tup [.str f1.1, y])) t = some (.tup [.str f1.1, y]) := upd_same
        have eD4 := (S3.trans S4) _ _ eD
        refine ⟨eD4, hN _ _ _ ?_⟩
        obtain ⟨w1, w2, w3⟩ := snoc_ok (v := .ref t) (d := prD (prS (f1.1, d2))) hD (S23.trans S4) eD4 (hz.same (S3.trans S4)) (.tup (SqT.of e4) (.cons (.str _) (.cons (hy2.same S4) .nil)))
        refine ⟨⟨_, _, rfl⟩, w1, w2, ?_⟩
        have ez : ((fs.map (·.1)).zip xs)[i]? = some (f1.1, d2) := by
          rw [List.getElem?_zip_eq_some]
          exact ⟨by rw [List.getElem?_map, ef1]; rfl, ed2⟩
        rw [take_snoc' ez, List.map_append, List.map_append]
        exact w3
      · rintro σ zs H' ⟨_, S2, eD, hz⟩
        rw [List.take_of_length_le (by omega)] at hz
        refine ⟨D, zs, rfl, .inl ⟨SqL.of eD, fun t ht => ?_⟩⟩
        have S3 := Same.upd (o := .tup zs) ht
        have e3 : (upd H' t (.tup zs)) t = some (.tup zs) := upd_same
        generalize upd H' t (.tup zs) = H3 at S3 e3
        refine ⟨two_le, fun t2 ht2 => ?_⟩
        exact k _ _ (S2.trans (S3.updR ht2)) (.tup (SqT.of upd_same) (.cons (.str _) (.cons (.tup (SqT.of (Same.upd ht2 _ _ e3)) (hz.same (S3.updR ht2))) .nil)))
end
end K22
namespace K22
open PySem L2 FW PyProof.Rows
mutual
theorem Gt.mono {kn : List Str} : ∀ {h : Nat} {t : Dt} {n c : Nat}, Gt kn h t n c → ∀ {h' : Nat}, h ≤ h' → Gt kn h' t n c
  | _, _, _, _, .num x, h', l => by
    obtain ⟨h2, rfl⟩ : ∃ h2, h' = h2 + 1 := ⟨h' - 1, by omega⟩
    exact .num x
  | _, _, _, _, .name s hs, h', l => by
    obtain ⟨h2, rfl⟩ : ∃ h2, h' = h2 + 1 := ⟨h' - 1, by omega⟩
    exact .name s hs
  | _, _, _, _, .draw t ps hd, h', l => by
    obtain ⟨h2, rfl⟩ : ∃ h2, h' = h2 + 1 := ⟨h' - 1, by omega⟩
    exact .draw t ps hd
  | _, _, _, _, .node t t1 ds n c hp hw ok hs, h', l => by
    obtain ⟨h2, rfl⟩ : ∃ h2, h' = h2 + 1 := ⟨h' - 1, by omega⟩
    exact .node t t1 ds n c hp hw (ok.mono (by omega)) (Gts.mono hs (by omega))
theorem Gts.mono {kn : List Str} : ∀ {h : Nat} {t : List Dt} {n c : Nat}, Gts kn h t n c → ∀ {h' : Nat}, h ≤ h' → Gts kn h' t n c
  | _, _, _, _, .nil, h', l => .nil
  | _, _, _, _, .cons d ds n1 n2 c1 c2 hd hs, h', l => .cons d ds n1 n2 c1 c2 (Gt.mono hd l) (Gts.mono hs l)
end
theorem Gts.one {kn : List Str} {h n c : Nat} {a : Dt} (g : Gt kn h a n c) : Gts kn h [a] n c := .cons a [] n 0 c 0 g .nil
theorem Gts.two {kn : List Str} {h n c n2 c2 : Nat} {a b : Dt} (g : Gt kn h a n c) (g2 : Gt kn h b n2 c2) : Gts kn h [a, b] (n + n2) (c + c2) := .cons a [b] n n2 c c2 g (.one g2)
theorem Gts.three {kn : List Str} {h n c n2 c2 n3 c3 : Nat} {a b d : Dt} (g : Gt kn h a n c) (g2 : Gt kn h b n2 c2) (g3 : Gt kn h d n3 c3) : Gts kn h [a, b, d] (n + (n2 + n3)) (c + (c2 + c3)) := .cons a [b, d] n _ c _ g (.two g2 g3)
section
variable {kn : List Str} {h n c n2 c2 n3 c3 : Nat} {a b d : Dt}
theorem g_op (sg : Str) (g : Gt kn h a n c) (g2 : Gt kn h b n2 c2) : Gt kn (h + 1) (.tup [.str "op", .str sg, a, b]) (n + n2) (c + c2 + 1) :=
  .node _ (.tup [.str "op", .str sg, a, b]) [a, b] _ _ (.op _ _ _) (.op sg a b a b) (.tup _ _ (okd4 (.str _ _) (.str _ _) (g.okd.mono (by omega)) (g2.okd.mono (by omega)))) (.two g g2)
theorem g_if (g : Gt kn h a n c) (g2 : Gt kn h b n2 c2) (g3 : Gt kn h d n3 c3) : Gt kn (h + 1) (.tup [.str "if", a, b, d]) (n + (n2 + n3)) (c + (c2 + c3) + 1) :=
  .node _ (.tup [.str "if", a, b, d]) [a, b, d] _ _ (.ite _ _ _) (.ite a b d a b d) (.tup _ _ (okd4 (.str _ _) (g.okd.mono (by omega)) (g2.okd.mono (by omega)) (g3.okd.mono (by omega)))) (.three g g2 g3)
theorem g_rest (x : Int) (g : Gt kn h a n c) : Gt kn (h + 1) (.tup [.str "rest", a, .int x]) n (c + 1) :=
  .node _ (.tup [.str "rest", a, .int x]) [a] _ _ (.rest _ _) (.rest a _ a) (.tup _ _ (okd3 (.str _ _) (g.okd.mono (by omega)) (.int _ _))) (.one g)
theorem g_field (x : Str) (g : Gt kn h a n c) : Gt kn (h + 1) (.tup [.str "field", a, .str x]) n (c + 1) :=
  .node _ (.tup [.str "field", a, .str x]) [a] _ _ (.field _ _) (.field a _ a) (.tup _ _ (okd3 (.str _ _) (g.okd.mono (by omega)) (.str _ _))) (.one g)
theorem g_rec (s1 s2 : Str) (g : Gt kn h a n c) (g2 : Gt kn h b n2 c2) : Gt kn (h + 1) (.tup [.str "record", .tup [.tup [.str s1, a], .tup [.str s2, b]]]) (n + n2) (c + c2 + 1) :=
  .node _ (.tup [.str "record", .tup [.tup [.str s1, a], .tup [.str s2, b]]]) [a, b] _ _ (.record [(.str s1, a), (.str s2, b)] (by show 2 ≤ 6; decide)) (.record [(s1, a), (s2, b)] [a, b] rfl (by show 2 ≤ 6; decide))
    (.tup _ _ (okd2 (.str _ _) (.tup _ _ (okd2 (.tup _ _ (okd2 (.str _ _) (g.okd.mono (by omega)))) (.tup _ _ (okd2 (.str _ _) (g2.okd.mono (by omega)))))))) (.two g g2)
end
theorem at_six {ns : List Str} (hl : ns.length = 6) {i : Int} (h0 : 0 ≤ i) (h1 : i < 6) : ∃ s, atI (ns.map V.str) i = some (.str s) ∧ s ∈ ns := by
  obtain ⟨s, hs, ms⟩ := at_str (ns := ns) i (n := 6) (by omega) (by omega)
  rw [Int.emod_eq_of_lt h0 h1] at hs
  exact ⟨s, hs, ms⟩
def sp_term (K : PySem.W.Frag) : Sp := fun vs H Q _ => ∃ (c : Int) (a b : Addr) (kn ns : List Str), vs = [.int c, .ref a, .ref b] ∧ H a = some (.lst (kn.map V.str)) ∧ H b = some (.lst (ns.map V.str)) ∧ ns.length = 6 ∧
  ∀ v H' t n m, Same H H' → DatAt K H' v t → Gt kn 3 t n m → n ≤ 2 → m ≤ 7 → Q v H'
section
variable {P : Program} {w : World} {K : PySem.W.Frag} {mg : Str → Option Value} {base : Heap}
set_option maxHeartbeats 4000000 in
theorem ok_law_term {f fL fM fF fP : Addr} {fd dL dM dF dP : FuncData} (A : FnAt K mg "_law_term" s_law_term ["_law_cell", "_law_known", "_law_names_here"] f fd) (A_law_leaf : FnAt K mg "_law_leaf" s_law_leaf ["_law_cell", "_law_known"] fL dL) (A_law_mix : FnAt K mg "_law_mix" s_law_mix ["_law_cell", "_law_k"] fM dM)
    (A_law_flip : FnAt K mg "_law_flip" s_law_flip ["_law_cell"] fF dF) (A_law_pick : FnAt K mg "_law_pick" s_law_pick ["_law_cell"] fP dP) (T : Tl mg) : FnOk P w K mg base CX0 3 f fd ["_law_cell", "_law_known", "_law_names_here"] (sp_term K) := by
  have G_law_leaf : FnOk P w K mg base CX0 1 fL dL _ (sp_leaf K) := ok_law_leaf A_law_leaf T
  have G_law_mix : FnOk P w K mg base CX0 1 fM dM _ sp_mix := ok_law_mix A_law_mix
  have G_law_flip : FnOk P w K mg base CX0 1 fF dF _ (sp_drawQ K) := ok_law_flip A_law_flip
  have G_law_pick : FnOk P w K mg base CX0 2 fP dP _ (sp_drawQ K) := ok_law_pick A_law_pick A_law_mix T
  refine A.F.ok (k := 2) sc_law_term (fun vs H Q E h => ?_) (fun cdv Ar outer s H vs Q E hr h => ?_)
  · obtain ⟨c, a, b, kn, ns, rfl, _⟩ := h
    rfl
  · obtain ⟨c, a, b, kn, ns, rfl, ha, hb, hn, k⟩ := h
    refine ⟨_, (pss_cons (ps_set (i := 3) sc_law_term.nd rfl (Or.inl rfl) (pe_call G_law_leaf (hr.mono (by decide)) rfl A_law_leaf.m A_law_leaf.F.kp A_law_leaf.b .nil pass0 (pa_cons (pe_call G_law_mix (hr.mono (by decide)) rfl A_law_mix.m A_law_mix.F.kp A_law_mix.b .nil pass0 (pa_cons (pv 0) (pa_cons pe_int pa_nil))) (pa_cons (pv 1) pa_nil))))
      (pss_cons (ps_set (i := 4) sc_law_term.nd rfl (Or.inl rfl) (pe_call G_law_leaf (hr.mono (by decide)) rfl A_law_leaf.m A_law_leaf.F.kp A_law_leaf.b .nil pass0 (pa_cons (pe_call G_law_mix (hr.mono (by decide)) rfl A_law_mix.m A_law_mix.F.kp A_law_mix.b .nil pass0 (pa_cons (pv 0) (pa_cons pe_int pa_nil))) (pa_cons (pv 1) pa_nil))))
      (pss_cons (ps_set (i := 5) sc_law_term.nd rfl (Or.inl rfl) (pe_op op_mod (pe_call G_law_mix (hr.mono (by decide)) rfl A_law_mix.m A_law_mix.F.kp A_law_mix.b .nil pass0 (pa_cons (pv 0) (pa_cons pe_int pa_nil))) pe_int))
      (pss_cons (ps_set (i := 6) sc_law_term.nd rfl (Or.inl rfl) (pe_call G_law_mix (hr.mono (by decide)) rfl A_law_mix.m A_law_mix.F.kp A_law_mix.b .nil pass0 (pa_cons (pv 0) (pa_cons pe_int pa_nil))))
      (pss_cons (ps_set (i := 7) sc_law_term.nd rfl (Or.inl rfl) (pe_ix ix_list (pe_lst (pa_cons pe_str (pa_cons pe_str (pa_cons pe_str (pa_cons pe_str (pa_cons pe_str pa_nil)))))) (pe_op op_mod (pv 6) pe_int) (fun _ _ => rfl)))
      (pss_cons (ps_if (pt_cmpR op_lt (pv 5) pe_int (nomark _)) (pss_one (ps_ret (pe_ix ix_list (pe_lst (pa_cons (pe_call G_law_flip (hr.mono (by decide)) rfl A_law_flip.m A_law_flip.F.kp A_law_flip.b .nil pass0 (pa_cons (pv 6) pa_nil)) (pa_cons (pe_call G_law_pick (hr.mono (by decide)) rfl A_law_pick.m A_law_pick.F.kp A_law_pick.b .nil pass0 (pa_cons (pv 6) pa_nil)) pa_nil))) (pv 5) (fun _ _ => rfl)))) pss_nil)
      (pss_cons (ps_if (pt_cmpR op_eq (pv 5) pe_int (nomark _)) (pss_one (ps_ret (pe_tup (pa_cons pe_str (pa_cons (pv 7) (pa_cons (pv 3) (pa_cons (pv 4) pa_nil))))))) pss_nil)
      (pss_cons (ps_if (pt_cmpR op_eq (pv 5) pe_int (nomark _)) (pss_one (ps_ret (pe_tup (pa_cons pe_str (pa_cons (pv 3) (pa_cons (pe_call G_law_flip (hr.mono (by decide)) rfl A_law_flip.m A_law_flip.F.kp A_law_flip.b .nil pass0 (pa_cons (pv 6) pa_nil)) (pa_cons (pe_call G_law_pick (hr.mono (by decide)) rfl A_law_pick.m A_law_pick.F.kp A_law_pick.b .nil pass0 (pa_cons (pe_call G_law_mix (hr.mono (by decide)) rfl A_law_mix.m A_law_mix.F.kp A_law_mix.b .nil pass0 (pa_cons (pv 0) (pa_cons pe_int pa_nil))) pa_nil)) pa_nil))))))) pss_nil)
      (pss_cons (ps_if (pt_cmpR op_eq (pv 5) pe_int (nomark _)) (pss_one (ps_ret (pe_tup (pa_cons pe_str (pa_cons (pv 4) (pa_cons (pe_op op_add pe_int (pe_op op_mod (pe_op op_mulB (pv 6) pe_int) pe_int)) pa_nil)))))) pss_nil)
      (pss_cons (ps_if (pt_cmpR op_eq (pv 5) pe_int (nomark _)) (pss_one (ps_ret (pe_tup (pa_cons pe_str (pa_cons (pe_tup (pa_cons (pe_tup (pa_cons (pe_ix ix_list (pv 2) (pe_op op_mod (pv 6) pe_int) (fun _ _ => rfl)) (pa_cons (pv 3) pa_nil))) (pa_cons (pe_tup (pa_cons (pe_ix ix_list (pv 2) pe_int (fun _ _ => rfl)) (pa_cons (pe_call G_law_pick (hr.mono (by decide)) rfl A_law_pick.m A_law_pick.F.kp A_law_pick.b .nil pass0 (pa_cons (pv 6) pa_nil)) pa_nil))) pa_nil))) pa_nil))))) pss_nil)
      (pss_cons (ps_if (pt_cmpR op_eq (pv 5) pe_int (nomark _)) (pss_one (ps_ret (pe_tup (pa_cons pe_str (pa_cons (pv 3) (pa_cons (pe_ix ix_list (pv 2) (pe_op op_mod (pv 6) pe_int) (fun _ _ => rfl)) pa_nil)))))) pss_nil)
      (pss_cons (ps_if (pt_cmpR op_eq (pv 5) pe_int (nomark _)) (pss_one (ps_ret (pe_tup (pa_cons pe_str (pa_cons (pv 7) (pa_cons (pv 3) (pa_cons (pe_tup (pa_cons pe_str (pa_cons pe_str (pa_cons (pe_call G_law_pick (hr.mono (by decide)) rfl A_law_pick.m A_law_pick.F.kp A_law_pick.b .nil pass0 (pa_cons (pv 6) pa_nil)) (pa_cons (pv 4) pa_nil))))) pa_nil))))))) pss_nil)
      (pss_cons (ps_if (pt_cmpR op_eq (pv 5) pe_int (nomark _)) (pss_one (ps_ret (pe_tup (pa_cons pe_str (pa_cons (pe_tup (pa_cons pe_str (pa_cons pe_str (pa_cons (pv 4) (pa_cons (pe_call G_law_flip (hr.mono (by decide)) rfl A_law_flip.m A_law_flip.F.kp A_law_flip.b .nil pass0 (pa_cons (pv 6) pa_nil)) pa_nil))))) (pa_cons (pv 3) (pa_cons (pe_tup (pa_cons pe_str (pa_cons (pv 4) (pa_cons (pe_ix ix_list (pv 2) pe_int (fun _ _ => rfl)) pa_nil)))) pa_nil))))))) pss_nil)
      (pss_one (ps_ret (pv 3)))))))))))))))), ?_⟩
    refine ⟨_, rfl, _, _, rfl, by decide, by decide, fun m1 h10 h11 => ⟨_, rfl, m1, a, kn, rfl, ha, fun v1 H1 t1 S1 d1 g1 => ?_⟩⟩
    refine ⟨_, rfl, _, _, rfl, by decide, by decide, fun m2 h20 h21 => ⟨_, rfl, m2, a, kn, rfl, S1 _ _ ha, fun v2 H2 t2 S2 d2 g2 => ?_⟩⟩
    refine ⟨_, rfl, _, _, rfl, by decide, by decide, fun m3 h30 h31 => ⟨_, _, rfl, rfl, (by show (0 : Int) < 10; decide), ?_⟩⟩
    refine ⟨_, rfl, _, _, rfl, by decide, by decide, fun m4 h40 h41 => ?_⟩
    obtain ⟨sg, hsg, _⟩ := at_str (ns := ["+", "-", "*", "=", "<"]) m4 (n := 5) rfl (by decide)
    refine ⟨(by show 5 ≤ sizeLine; decide), fun l hl => ⟨_, rfl, _, _, rfl, rfl, (by show (0 : Int) < 5; decide), l, _, _, .str sg, rfl, rfl, SqL.of upd_same, hsg, ?_⟩⟩
    have S3 := Same.upd (o := .lst [V.str "+", .str "-", .str "*", .str "=", .str "<"]) hl
    generalize upd H2 l (.lst [V.str "+", .str "-", .str "*", .str "=", .str "<"]) = H3 at S3
    have S := S1.trans (S2.trans S3)
    have hb3 := S _ _ hb
    have d1' := d1.same (S2.trans S3)
    have d2' := d2.same S3
    have w0 := Int.emod_nonneg m3 (show (10 : Int) ≠ 0 by decide)
    dsimp only
    generalize m3 % 10 = W at w0
    refine ⟨_, rfl, _, _, rfl, rfl, _, rfl, iteBB (fun hc => ?_) (fun _ => ?_)⟩
    · have w1 : W < 2 := of_decide_eq_true hc
      refine ⟨_, rfl, m4, rfl, h40, h41, fun vf Hf tf pf Sf df drf => ⟨_, rfl, m4, rfl, h40, h41, fun vp Hp tp pp Sp dp drp => ⟨two_le, fun l2 hl2 => ?_⟩⟩⟩
      have S5 := Same.upd (o := .lst [vf, vp]) hl2
      rcases (show W = 0 ∨ W = 1 by omega) with rfl | rfl
      · exact ⟨_, rfl, l2, _, 0, vf, rfl, rfl, SqL.of upd_same, rfl, k _ _ _ 1 1 (S.trans (Sf.trans (Sp.trans S5))) (df.same (Sp.trans S5)) (.draw _ _ drf) (by decide) (by decide)⟩
      · exact ⟨_, rfl, l2, _, 1, vp, rfl, rfl, SqL.of upd_same, rfl, k _ _ _ 1 1 (S.trans (Sf.trans (Sp.trans S5))) (dp.same S5) (.draw _ _ drp) (by decide) (by decide)⟩
    refine ⟨_, rfl, rfl, _, rfl, iteBB (fun _ => ?_) (fun _ => ?_)⟩
    · exact ⟨_, rfl, _, rfl, _, rfl, t4, fun q hq => k _ _ _ _ _ (S.updR hq) (.tup (SqT.of upd_same) (.cons (.str _) (.cons (.str _) (.cons (d1'.same (.upd hq)) (.cons (d2'.same (.upd hq)) .nil))))) (g_op sg (g1.mono (by decide)) (g2.mono (by decide))) (by decide) (by decide)⟩
    refine ⟨_, rfl, rfl, _, rfl, iteBB (fun _ => ?_) (fun _ => ?_)⟩
    · refine ⟨_, rfl, _, rfl, m4, rfl, h40, h41, fun vf Hf tf pf Sf df drf => ⟨_, rfl, _, _, rfl, by decide, by decide, fun m6 h60 h61 => ⟨m6, rfl, h60, h61, fun vp Hp tp pp Sp dp drp => ⟨t4, fun q hq => ?_⟩⟩⟩⟩
      have S5 := Same.upd (o := .tup [.str "if", v1, vf, vp]) hq
      exact k _ _ _ _ _ (S.trans (Sf.trans (Sp.trans S5))) (.tup (SqT.of upd_same) (.cons (.str _) (.cons (d1'.same (Sf.trans (Sp.trans S5))) (.cons (df.same (Sp.trans S5)) (.cons (dp.same S5) .nil))))) (g_if (h := 2) (g1.mono (by decide)) (.draw _ _ drf) (.draw _ _ drp)) (by decide) (by decide)
    refine ⟨_, rfl, rfl, _, rfl, iteBB (fun _ => ?_) (fun _ => ?_)⟩
    · exact ⟨_, rfl, _, rfl, _, _, rfl, rfl, small_mul (by decide), _, _, rfl, rfl, (by show (0 : Int) < 999999999999; decide), _, _, rfl, rfl, t3, fun q hq => k _ _ _ _ _ (S.updR hq) (.tup (SqT.of upd_same) (.cons (.str _) (.cons (d2'.same (.upd hq)) (.cons (.int _) .nil)))) (g_rest _ (g2.mono (by decide))) (by decide) (by decide)⟩
    refine ⟨_, rfl, rfl, _, rfl, iteBB (fun _ => ?_) (fun _ => ?_)⟩
    · obtain ⟨s1, hs1, _⟩ := at_six hn (i := m4 % 5) (Int.emod_nonneg _ (by decide)) (by have := Int.emod_lt_of_pos m4 (show (0 : Int) < 5 by decide); omega)
      obtain ⟨s2, hs2, _⟩ := at_six hn (i := 5) (by decide) (by decide)
      refine ⟨_, rfl, _, rfl, _, _, rfl, rfl, (by show (0 : Int) < 5; decide), b, _, _, .str s1, rfl, rfl, SqL.of hb3, hs1, _, rfl, two_le, fun q1 hq1 => ?_⟩
      have T1 := Same.upd (o := .tup [.str s1, v1]) hq1
      have e1 : (upd H3 q1 (.tup [.str s1, v1])) q1 = some (.tup [.str s1, v1]) := upd_same
      generalize upd H3 q1 (.tup [.str s1, v1]) = H4 at T1 e1
      refine ⟨_, rfl, b, _, 5, .str s2, rfl, rfl, SqL.of (T1 _ _ hb3), hs2, _, rfl, m4, rfl, h40, h41, fun vp Hp tp pp Sp dp drp => ⟨two_le, fun q2 hq2 => ?_⟩⟩
      have T2 := Same.upd (o := .tup [.str s2, vp]) hq2
      have e2 : (upd Hp q2 (.tup [.str s2, vp])) q2 = some (.tup [.str s2, vp]) := upd_same
      generalize upd Hp q2 (.tup [.str s2, vp]) = H5 at T2 e2
      refine ⟨two_le, fun q3 hq3 => ?_⟩
      have T3 := Same.upd (o := .tup [.ref q1, .ref q2]) hq3
      have e3 : (upd H5 q3 (.tup [.ref q1, .ref q2])) q3 = some (.tup [.ref q1, .ref q2]) := upd_same
      generalize upd H5 q3 (.tup [.ref q1, .ref q2]) = H6 at T3 e3
      refine ⟨two_le, fun q4 hq4 => ?_⟩
      have T4 := Same.upd (o := .tup [.str "record", .ref q3]) hq4
      have U1 := Sp.trans (T2.trans (T3.trans T4))
      exact k _ _ _ _ _ (S.trans (T1.trans U1)) (.tup (SqT.of upd_same) (.cons (.str _) (.cons (.tup (SqT.of (T4 _ _ e3)) (.cons (.tup (SqT.of (U1 _ _ e1)) (.cons (.str _) (.cons (d1'.same (T1.trans U1)) .nil))) (.cons (.tup (SqT.of ((T3.trans T4) _ _ e2)) (.cons (.str _) (.cons (dp.same (T2.trans (T3.trans T4))) .nil))) .nil))) .nil))) (g_rec (h := 2) s1 s2 (g1.mono (by decide)) (.draw _ _ drp)) (by decide) (by decide)
    refine ⟨_, rfl, rfl, _, rfl, iteBB (fun _ => ?_) (fun _ => ?_)⟩
    · obtain ⟨s1, hs1, _⟩ := at_six hn (i := m4 % 6) (Int.emod_nonneg _ (by decide)) (Int.emod_lt_of_pos m4 (show (0 : Int) < 6 by decide))
      exact ⟨_, rfl, _, rfl, _, rfl, _, _, rfl, rfl, (by show (0 : Int) < 6; decide), b, _, _, .str s1, rfl, rfl, SqL.of hb3, hs1, t3, fun q hq => k _ _ _ _ _ (S.updR hq) (.tup (SqT.of upd_same) (.cons (.str _) (.cons (d1'.same (.upd hq)) (.cons (.str _) .nil)))) (g_field _ (g1.mono (by decide))) (by decide) (by decide)⟩
    refine ⟨_, rfl, rfl, _, rfl, iteBB (fun _ => ?_) (fun _ => ?_)⟩
    · refine ⟨_, rfl, _, rfl, _, rfl, m4, rfl, h40, h41, fun vp Hp tp pp Sp dp drp => ⟨_, rfl, t4, fun q hq => ?_⟩⟩
      have T1 := Same.upd (o := .tup [.str "op", .str "-", vp, v2]) hq
      have e1 : (upd Hp q (.tup [.str "op", .str "-", vp, v2])) q = some (.tup [.str "op", .str "-", vp, v2]) := upd_same
      generalize upd Hp q (.tup [.str "op", .str "-", vp, v2]) = H4 at T1 e1
      refine ⟨t4, fun q2 hq2 => ?_⟩
      have T2 := Same.upd (o := .tup [.str "op", .str sg, v1, .ref q]) hq2
      exact k _ _ _ _ _ (S.trans (Sp.trans (T1.trans T2))) (.tup (SqT.of upd_same) (.cons (.str _) (.cons (.str _) (.cons (d1'.same (Sp.trans (T1.trans T2))) (.cons (.tup (SqT.of (T2 _ _ e1)) (.cons (.str _) (.cons (.str _) (.cons (dp.same (T1.trans T2)) (.cons (d2'.same (Sp.trans (T1.trans T2))) .nil))))) .nil))))) (g_op (h := 2) sg (g1.mono (by decide)) (g_op (h := 1) "-" (.draw _ _ drp) g2)) (by decide) (by decide)
    refine ⟨_, rfl, rfl, _, rfl, iteBB (fun _ => ?_) (fun _ => ?_)⟩
    · obtain ⟨s1, hs1, _⟩ := at_six hn (i := 0) (by decide) (by decide)
      refine ⟨_, rfl, _, rfl, m4, rfl, h40, h41, fun vf Hf tf pf Sf df drf => ⟨t4, fun q hq => ?_⟩⟩
      have T1 := Same.upd (o := .tup [.str "op", .str "<", v2, vf]) hq
      have e1 : (upd Hf q (.tup [.str "op", .str "<", v2, vf])) q = some (.tup [.str "op", .str "<", v2, vf]) := upd_same
      generalize upd Hf q (.tup [.str "op", .str "<", v2, vf]) = H4 at T1 e1
      refine ⟨_, rfl, _, rfl, _, rfl, b, _, 0, .str s1, rfl, rfl, SqL.of ((Sf.trans T1) _ _ hb3), hs1, t3, fun q2 hq2 => ?_⟩
      have T2 := Same.upd (o := .tup [.str "field", v2, .str s1]) hq2
      have e2 : (upd H4 q2 (.tup [.str "field", v2, .str s1])) q2 = some (.tup [.str "field", v2, .str s1]) := upd_same
      generalize upd H4 q2 (.tup [.str "field", v2, .str s1]) = H5 at T2 e2
      refine ⟨t4, fun q3 hq3 => ?_⟩
      have T3 := Same.upd (o := .tup [.str "if", .ref q, v1, .ref q2]) hq3
      have U1 := Sf.trans (T1.trans (T2.trans T3))
      exact k _ _ _ _ _ (S.trans U1) (.tup (SqT.of upd_same) (.cons (.str _) (.cons (.tup (SqT.of ((T2.trans T3) _ _ e1)) (.cons (.str _) (.cons (.str _) (.cons (d2'.same U1) (.cons (df.same (T1.trans (T2.trans T3))) .nil))))) (.cons (d1'.same U1) (.cons (.tup (SqT.of (T3 _ _ e2)) (.cons (.str _) (.cons (d2'.same U1) (.cons (.str _) .nil)))) .nil))))) (g_if (h := 2) (g_op (h := 1) "<" g2 (.draw _ _ drf)) (g1.mono (by decide)) (g_field (h := 1) s1 g2)) (by decide) (by decide)
    exact ⟨_, rfl, k _ _ _ _ _ S d1' (g1.mono (by decide)) (by decide) (by decide)⟩
end
end K22
namespace K22
open PySem L2 FW PyProof.Rows
/-- a program as it is made: the names known behind it, its rows, draws, terms, steps -/
inductive Gp : List Str → List Dt → Nat → Nat → Nat → Prop
  | nil : Gp [] [] 0 0 0
  | see (kn : List Str) (rs : List Dt) (D C L n c : Nat) (t : Dt) (h : Gp kn rs D C L) (g : Gt kn 3 t n c) : Gp kn (rs ++ [.tup [.str "see", t]]) (D + n) (C + c) (L + 1)
  | ask (kn : List Str) (rs : List Dt) (D C L n c : Nat) (t : Dt) (h : Gp kn rs D C L) (g : Gt kn 3 t n c) : Gp kn (rs ++ [.tup [.str "ask", t]]) (D + n) (C + c) (L + 1)
  | again (kn : List Str) (rs : List Dt) (D C L n c : Nat) (t : Dt) (r : Nat) (nm : Str) (h : Gp kn rs D C L) (g : Gt kn 3 t n c) (hr : r ≤ 30) (hn : nm ∈ kn) : Gp kn (rs ++ [.tup [.str "again", .int (r : Int), .str nm, t]]) (D + r * n) (C + r * c) (L + r)
  | lett (kn kn' : List Str) (rs : List Dt) (D C L n c : Nat) (t : Dt) (nm : Str) (h : Gp kn rs D C L) (g : Gt kn 3 t n c) (hk : ∀ s ∈ kn', s ∈ kn ∨ s = nm) : Gp kn' (rs ++ [.tup [.str "let", .str nm, t]]) (D + n) (C + c) (L + 1)
theorem Gt.oag {kn : List Str} {t : Dt} {n c : Nat} (g : Gt kn 3 t n c) (nm : Str) : ∀ (r : Nat) (e : List (Key × V)) (k : Nat) (s : Int), (∀ x ∈ kn, ∃ i : Int, valV e (Sum.inr x) = some (.int i)) → e.length + r < 1000 →
    ∃ e' ws st, Oag 3 nm t r e k s e' ws st (r * c) ∧ ws.length = r * n ∧ st.length = r ∧ Sts st (r * c) ∧ e'.length ≤ e.length + r ∧ (∀ x, (x ∈ kn ∨ (x = nm ∧ 0 < r)) → ∃ i : Int, valV e' (Sum.inr x) = some (.int i))
  | 0, e, k, s, he, hl => by
    refine ⟨e, [], [], ?_, ?_, rfl, ?_, Nat.le_refl _, fun x hx => ?_⟩
    · rw [Nat.zero_mul]; exact .zero e k s
    · rw [Nat.zero_mul]; rfl
    · rw [Nat.zero_mul]; exact .nil
    · rcases hx with hx | ⟨_, hx⟩
      · exact he x hx
      · omega
  | r + 1, e, k, s, he, hl => by
    obtain ⟨t', w1, ot, l1, ok, sz⟩ := g.opens he k
    have he2 : ∀ x, (x ∈ kn ∨ x = nm) → ∃ i : Int, valV (putK e (Sum.inr nm) (.int s)) (Sum.inr x) = some (.int i) := fun x hx => by
      by_cases z : x = nm
      · subst z
        exact ⟨s, valV_putK _ _ _⟩
      · rw [valV_put_ne e (.int s) (fun y => z (Sum.inr.inj y))]
        exact he x (hx.resolve_right z)
    have pl := putK_len e (Sum.inr nm : Key) (.int s)
    obtain ⟨e', w2, st, oa, l2, l3, s3, l4, h4⟩ := Gt.oag g nm r (putK e (Sum.inr nm) (.int s)) (k + w1.length) (s + 1) (fun x hx => he2 x (.inl hx)) (by omega)
    have em : (r + 1) * c = c + r * c := by rw [Nat.succ_mul, Nat.add_comm]
    have en : (r + 1) * n = n + r * n := by rw [Nat.succ_mul, Nat.add_comm]
    refine ⟨e', w1 ++ w2, stD s t' :: st, ?_, ?_, ?_, ?_, by omega, fun x hx => ?_⟩
    · rw [em]; exact .succ r e e' k s t' w1 w2 c (r * c) st (by omega) ot oa
    · rw [en, List.length_append, l1, l2]
    · rw [List.length_cons, l3]
    · rw [em]; exact .cons s t' c _ st sz ok s3
    · rcases r with _ | r
      · have := oa.un0.1
        subst this
        exact he2 x (hx.imp id And.left)
      · exact h4 x (hx.imp id fun z => ⟨z.1, by omega⟩)
theorem Gp.opens {kn : List Str} {rs : List Dt} {D C L : Nat} (h : Gp kn rs D C L) : L ≤ 900 → ∃ e ws st s e1, Orows 3 rs [] 0 0 e ws st s C ∧ ws.length = D ∧ st.length = L ∧ e.length ≤ L ∧ (∀ x ∈ kn, ∃ i : Int, valV e (Sum.inr x) = some (.int i)) ∧ Sts st C ∧ Cks 3 rs [] e1 ∧ e1.length ≤ L ∧ (∀ x ∈ kn, (valV e1 (Sum.inr x)).isSome = true) := by
  induction h with
  | nil => exact fun _ => ⟨[], [], [], 0, [], .nil _ _ _, rfl, rfl, Nat.zero_le _, (fun _ h => nomatch h), .nil, .nil _, Nat.zero_le _, (fun _ h => nomatch h)⟩
  | see kn rs D C L n c t h g ih =>
    intro hL
    obtain ⟨e, ws, st, s, e1, os, lw, ls, le, he, ss, ck, l1, h1⟩ := ih (by omega)
    obtain ⟨t', w1, ot, l2, ok, sz⟩ := g.opens he (0 + ws.length)
    exact ⟨e, ws ++ w1, st ++ [stD (-1) t'], s, e1, os.snoc (.see t t' e _ s w1 c ot), by rw [List.length_append]; omega, by rw [List.length_append]; simp [ls], by omega, he, (Sts.one _ sz ok).append ss, ck.snoc (.see t e1 (g.kn h1)), by omega, h1⟩
  | ask kn rs D C L n c t h g ih =>
    intro hL
    obtain ⟨e, ws, st, s, e1, os, lw, ls, le, he, ss, ck, l1, h1⟩ := ih (by omega)
    obtain ⟨t', w1, ot, l2, ok, sz⟩ := g.opens he (0 + ws.length)
    exact ⟨e, ws ++ w1, st ++ [stD s t'], s + 1, e1, os.snoc (.ask t t' e _ s w1 c ot), by rw [List.length_append]; omega, by rw [List.length_append]; simp [ls], by omega, he, (Sts.one _ sz ok).append ss, ck.snoc (.ask t e1 (g.kn h1)), by omega, h1⟩
  | again kn rs D C L n c t r nm h g hr hn ih =>
    intro hL
    obtain ⟨e, ws, st, s, e1, os, lw, ls, le, he, ss, ck, l1, h1⟩ := ih (by omega)
    obtain ⟨e', w1, st1, oa, l2, l3, s3, l4, h4⟩ := g.oag nm r e (0 + ws.length) s he (by omega)
    exact ⟨e', ws ++ w1, st ++ st1, s + r, e1, os.snoc (.again r nm t e e' _ s w1 st1 _ hr oa), by rw [List.length_append]; omega, by rw [List.length_append]; omega, by omega, fun x hx => h4 x (.inl hx), s3.append ss, ck.snoc (.again _ nm t e1 (h1 nm hn) (g.kn h1)), by omega, h1⟩
  | lett kn kn' rs D C L n c t nm h g hk ih =>
    intro hL
    obtain ⟨e, ws, st, s, e1, os, lw, ls, le, he, ss, ck, l1, h1⟩ := ih (by omega)
    obtain ⟨e', w1, st1, oa, l2, l3, s3, l4, h4⟩ := g.oag nm 1 e (0 + ws.length) s he (by omega)
    rw [Nat.one_mul] at oa l2 s3
    have pl := putK_len e1 (Sum.inr nm : Key) (.bl true)
    refine ⟨e', ws ++ w1, st ++ st1, s + 1, _, os.snoc (.lett nm t e e' _ s w1 st1 _ oa), by rw [List.length_append]; omega, by rw [List.length_append]; omega, by omega, fun x hx => h4 x ((hk x hx).imp id fun z => ⟨z, by decide⟩), s3.append ss, ck.snoc (.lett nm t e1 (g.kn h1) (by omega)), by omega, fun x hx => ?_⟩
    by_cases z : x = nm
    · subst z
      rw [valV_putK]
      rfl
    · rw [valV_put_ne e1 (.bl true) (fun y => z (Sum.inr.inj y))]
      exact h1 x ((hk x hx).resolve_right z)
/-- the rows end with good terms -/
theorem Gp.rows {kn : List Str} {rs : List Dt} {D C L : Nat} (h : Gp kn rs D C L) : ∀ r ∈ rs, ∃ l t kn n c, r = .tup (l ++ [t]) ∧ Gt kn 3 t n c ∧ Okd 10 r := by
  induction h with
  | nil => exact fun _ h => nomatch h
  | see kn rs D C L n c t h g ih =>
    intro r hr
    rcases List.mem_append.mp hr with z | z
    · exact ih r z
    · cases List.mem_singleton.mp z
      exact ⟨[.str "see"], t, kn, n, c, rfl, g, .tup _ _ (okd2 (.str _ _) g.okd)⟩
  | ask kn rs D C L n c t h g ih =>
    intro r hr
    rcases List.mem_append.mp hr with z | z
    · exact ih r z
    · cases List.mem_singleton.mp z
      exact ⟨[.str "ask"], t, kn, n, c, rfl, g, .tup _ _ (okd2 (.str _ _) g.okd)⟩
  | again kn rs D C L n c t r nm h g hr hn ih =>
    intro r hr
    rcases List.mem_append.mp hr with z | z
    · exact ih r z
    · cases List.mem_singleton.mp z
      exact ⟨[.str "again", _, _], t, kn, n, c, rfl, g, .tup _ _ (okd4 (.str _ _) (.int _ _) (.str _ _) g.okd)⟩
  | lett kn kn' rs D C L n c t nm h g hk ih =>
    intro r hr
    rcases List.mem_append.mp hr with z | z
    · exact ih r z
    · cases List.mem_singleton.mp z
      exact ⟨[.str "let", _], t, kn, n, c, rfl, g, .tup _ _ (okd3 (.str _ _) (.str _ _) g.okd)⟩
theorem cut_n (ns : List Int) (k : Nat) : ∃ ms : List Int, cutV (ns.map V.int) none (some (k : Int)) = ms.map V.int ∧ ms.length ≤ k := by
  refine ⟨(ns.drop (HT.sIx (ns.map V.int).length 0 none)).take (HT.sIx (ns.map V.int).length (ns.map V.int).length (some (k : Int)) - HT.sIx (ns.map V.int).length 0 none), ?_, ?_⟩
  · unfold cutV
    rw [← List.map_drop, ← List.map_take]
  · rw [List.length_take, HT.sIx_nat]
    omega
theorem dats_str {K : PySem.W.Frag} {H : Hp} : ∀ kn : List Str, DatsAt K H (kn.map V.str) (kn.map Dt.str)
  | [] => .nil
  | s :: r => .cons (.str s) (dats_str r)
theorem hgts_str (kn : List Str) : Dt.hgts (kn.map Dt.str) ≤ 30 := hgts_le fun d hd => by
  obtain ⟨s, _, rfl⟩ := List.mem_map.mp hd
  simp [Dt.hgt]
theorem flat_str (kn : List Str) : (kn.map V.str).all flatV = true := by
  rw [List.all_eq_true]
  intro x hx
  obtain ⟨s, _, rfl⟩ := List.mem_map.mp hx
  rfl
def sp_program (K : PySem.W.Frag) : Sp := fun vs H Q _ => ∃ (a : Addr) (ns : List Int) (b : Addr) (nm : List Str), vs = [.ref a, .ref b] ∧ SqL K H a (ns.map V.int) ∧ H b = some (.lst (nm.map V.str)) ∧ nm.length = 6 ∧
  ∀ Z H' kn rows D C L, Same H H' → H Z = none → LsM K H' Z rows → Gp kn rows D C L → rows.length ≤ 60 → D ≤ 60 → C ≤ 600 → L ≤ 900 → Q (.ref Z) H'
section
variable {P : Program} {w : World} {K : PySem.W.Frag} {mg : Str → Option Value} {base : Heap}
set_option maxHeartbeats 8000000 in
theorem ok_law_program {f fT fL fM fF fP fW fQ : Addr} {fd dT dL dM dF dP dW dQ : FuncData} (A : FnAt K mg "_law_program" s_law_program ["_law_script", "_law_names_here"] f fd) (A_law_term : FnAt K mg "_law_term" s_law_term ["_law_cell", "_law_known", "_law_names_here"] fT dT) (A_law_leaf : FnAt K mg "_law_leaf" s_law_leaf ["_law_cell", "_law_known"] fL dL) (A_law_mix : FnAt K mg "_law_mix" s_law_mix ["_law_cell", "_law_k"] fM dM)
    (A_law_flip : FnAt K mg "_law_flip" s_law_flip ["_law_cell"] fF dF) (A_law_pick : FnAt K mg "_law_pick" s_law_pick ["_law_cell"] fP dP) (A_law_drawn : FnAt K mg "_law_drawn" s_law_drawn ["_law_term_here"] fW dW) (A_law_parts : FnAt K mg "_law_parts" s_law_parts ["_law_term_here"] fQ dQ) (T : Tl mg) : FnOk P w K mg base CX0 5 f fd ["_law_script", "_law_names_here"] (sp_program K) := by
  have G_law_leaf : FnOk P w K mg base CX0 1 fL dL _ (sp_leaf K) := ok_law_leaf A_law_leaf T
  have G_law_mix : FnOk P w K mg base CX0 1 fM dM _ sp_mix := ok_law_mix A_law_mix
  have G_law_flip : FnOk P w K mg base CX0 1 fF dF _ (sp_drawQ K) := ok_law_flip A_law_flip
  have G_law_term : FnOk P w K mg base CX0 3 fT dT _ (sp_term K) := ok_law_term A_law_term A_law_leaf A_law_mix A_law_flip A_law_pick T
  have G_law_drawn : FnOk P w K mg base CX0 4 fW dW _ (sp_drawn K 3) := ok_law_drawn A_law_drawn A_law_parts T 3
  refine A.F.ok (k := 4) sc_law_program (fun vs H Q E h => ?_) (fun cdv Ar outer s H vs Q E hr h => ?_)
  · obtain ⟨a, ns, b, nm, rfl, _⟩ := h
    rfl
  · obtain ⟨a, ns, b, nm, rfl, hS, hb, hn, k⟩ := h
    refine ⟨_, (pss_cons (ps_set (i := 2) sc_law_program.nd rfl (Or.inl rfl) (pe_lst pa_nil))
      (pss_cons (ps_set (i := 3) sc_law_program.nd rfl (Or.inl rfl) (pe_lst pa_nil))
      (pss_cons (ps_set (i := 4) sc_law_program.nd rfl (Or.inl rfl) pe_int)
      (pss_cons (ps_for PassesOwn.never rfl (pi_list (pe_slice sl_list (pv 0) po_none (po_some pe_int))) (pg_name (i := 5) sc_law_program.nd rfl (Or.inl rfl)) (pss_cons (ps_set (i := 6) sc_law_program.nd rfl (Or.inl rfl) (pe_call G_law_term (hr.mono (by decide)) rfl A_law_term.m A_law_term.F.kp A_law_term.b .nil pass0 (pa_cons (pv 5) (pa_cons (pv 3) (pa_cons (pv 1) pa_nil)))))
      (pss_cons (ps_set (i := 7) sc_law_program.nd rfl (Or.inl rfl) (pe_ix ix_list (pv 1) (pe_op op_mod (pe_call G_law_mix (hr.mono (by decide)) rfl A_law_mix.m A_law_mix.F.kp A_law_mix.b .nil pass0 (pa_cons (pv 5) (pa_cons pe_int pa_nil))) pe_int) (fun _ _ => rfl)))
      (pss_cons (ps_set (i := 8) sc_law_program.nd rfl (Or.inl rfl) (pe_op op_mod (pe_call G_law_mix (hr.mono (by decide)) rfl A_law_mix.m A_law_mix.F.kp A_law_mix.b .nil pass0 (pa_cons (pv 5) (pa_cons pe_int pa_nil))) pe_int))
      (pss_cons (ps_if (pt_cmpR op_gt (pv 4) pe_int (nomark _)) (pss_one (ps_set (i := 6) sc_law_program.nd rfl (Or.inl rfl) (pe_call G_law_leaf (hr.mono (by decide)) rfl A_law_leaf.m A_law_leaf.F.kp A_law_leaf.b .nil pass0 (pa_cons (pe_call G_law_mix (hr.mono (by decide)) rfl A_law_mix.m A_law_mix.F.kp A_law_mix.b .nil pass0 (pa_cons (pv 5) (pa_cons pe_int pa_nil))) (pa_cons (pv 3) pa_nil))))) pss_nil)
      (pss_cons (ps_set (i := 4) sc_law_program.nd rfl (Or.inl rfl) (pe_op op_add (pv 4) (pe_op op_mulB pe_int (pe_call G_law_drawn (hr.mono (by decide)) rfl A_law_drawn.m A_law_drawn.F.kp A_law_drawn.b .nil pass0 (pa_cons (pv 6) pa_nil)))))
      (pss_one (ps_if (pt_cmpR op_eq (pv 8) pe_int (nomark _)) (pss_one (ps_expr (pe_bm PySem.F.plainAttrs_list PySem.F.slot_list_append PySem.F.type_list_append mt_append (pv 2) (pa_cons (pe_tup (pa_cons pe_str (pa_cons (pv 6) pa_nil))) pa_nil)))) (pss_one (ps_if (PW.pt (pw_and (pt_cmpR op_eq (pv 8) pe_int (nomark _)) (pw_and1 (pt_cmpR op_gt (pe_callB call_len_seq (by rfl) T.len_ Boot.«len» (pa_cons (pv 3) pa_nil)) pe_int (nomark _))))) (pss_one (ps_expr (pe_bm PySem.F.plainAttrs_list PySem.F.slot_list_append PySem.F.type_list_append mt_append (pv 2) (pa_cons (pe_tup (pa_cons pe_str (pa_cons (pe_op op_mod (pe_call G_law_mix (hr.mono (by decide)) rfl A_law_mix.m A_law_mix.F.kp A_law_mix.b .nil pass0 (pa_cons (pv 5) (pa_cons pe_int pa_nil))) pe_int) (pa_cons (pe_ix ix_list (pv 3) (pe_op op_mod (pe_call G_law_mix (hr.mono (by decide)) rfl A_law_mix.m A_law_mix.F.kp A_law_mix.b .nil pass0 (pa_cons (pv 5) (pa_cons pe_int pa_nil))) (pe_callB call_len_seq (by rfl) T.len_ Boot.«len» (pa_cons (pv 3) pa_nil))) (fun _ _ => rfl)) (pa_cons (pv 6) pa_nil))))) pa_nil)))) (pss_cons (ps_expr (pe_bm PySem.F.plainAttrs_list PySem.F.slot_list_append PySem.F.type_list_append mt_append (pv 2) (pa_cons (pe_tup (pa_cons pe_str (pa_cons (pv 7) (pa_cons (pv 6) pa_nil)))) pa_nil)))
      (pss_one (ps_if (pt_cmpR op_notIn_seq (pv 7) (pv 3) (by rfl)) (pss_one (ps_expr (pe_bm PySem.F.plainAttrs_list PySem.F.slot_list_append PySem.F.type_list_append mt_append (pv 3) (pa_cons (pv 7) pa_nil)))) pss_nil)))))))))))))
      (pss_cons (ps_set (i := 9) sc_law_program.nd rfl (Or.inl rfl) (pe_call G_law_mix (hr.mono (by decide)) rfl A_law_mix.m A_law_mix.F.kp A_law_mix.b .nil pass0 (pa_cons (pe_callB (call_sum rfl) (by rfl) T.sum_ Boot.«sum» (pa_cons (pe_slice sl_list (pv 0) po_none (po_some pe_int)) pa_nil)) (pa_cons pe_int pa_nil))))
      (pss_cons (ps_if (PW.pt (pw_and (pt_cmpR op_eq (pe_op op_mod (pv 9) pe_int) pe_int (nomark _)) (pw_and1 (pt_cmpR (op_neL hr.units) (pv 3) (pe_lst pa_nil) (nomark _))))) (pss_cons (ps_set (i := 7) sc_law_program.nd rfl (Or.inl rfl) (pe_ix ix_list (pv 3) (pe_op op_mod (pe_op op_fdivP (pv 9) pe_int) (pe_callB call_len_seq (by rfl) T.len_ Boot.«len» (pa_cons (pv 3) pa_nil))) (fun _ _ => rfl)))
      (pss_cons (ps_set (i := 10) sc_law_program.nd rfl (Or.inl rfl) (pe_tup (pa_cons pe_str (pa_cons pe_int pa_nil))))
      (pss_cons (ps_if (pt_cmpR op_lt (pv 4) pe_int (nomark _)) (pss_one (ps_set (i := 10) sc_law_program.nd rfl (Or.inl rfl) (pe_call G_law_flip (hr.mono (by decide)) rfl A_law_flip.m A_law_flip.F.kp A_law_flip.b .nil pass0 (pa_cons (pv 9) pa_nil)))) pss_nil)
      (pss_cons (ps_set (i := 6) sc_law_program.nd rfl (Or.inl rfl) (pe_tup (pa_cons pe_str (pa_cons (pe_tup (pa_cons pe_str (pa_cons pe_str (pa_cons (pe_tup (pa_cons pe_str (pa_cons (pv 7) pa_nil))) (pa_cons (pv 10) pa_nil))))) (pa_cons pe_int pa_nil)))))
      (pss_one (ps_expr (pe_bm PySem.F.plainAttrs_list PySem.F.slot_list_append PySem.F.type_list_append mt_append (pv 2) (pa_cons (pe_tup (pa_cons pe_str (pa_cons (pe_op op_add pe_int (pe_op op_mod (pe_op op_fdivP (pv 9) pe_int) pe_int)) (pa_cons (pv 7) (pa_cons (pv 6) pa_nil))))) pa_nil)))))))) pss_nil)
      (pss_one (ps_ret (pe_op op_cat (pv 2) (pe_lst (pa_cons (pe_tup (pa_cons pe_str (pa_cons (pe_call G_law_leaf (hr.mono (by decide)) rfl A_law_leaf.m A_law_leaf.F.kp A_law_leaf.b .nil pass0 (pa_cons (pe_call G_law_mix (hr.mono (by decide)) rfl A_law_mix.m A_law_mix.F.kp A_law_mix.b .nil pass0 (pa_cons (pe_callB call_len_seq (by rfl) T.len_ Boot.«len» (pa_cons (pv 2) pa_nil)) (pa_cons pe_int pa_nil))) (pa_cons (pv 3) pa_nil))) pa_nil))) pa_nil))))))))))), ?_⟩
    refine ⟨Nat.zero_le _, fun D hD => ?_⟩
    have S1 := Same.upd (o := .lst []) hD
    have eD1 : (upd H D (.lst [])) D = some (.lst []) := upd_same
    generalize upd H D (.lst []) = H1 at S1 eD1
    refine ⟨Nat.zero_le _, fun B hB => ?_⟩
    have S2 := Same.upd (o := .lst []) hB
    have eB2 : (upd H1 B (.lst [])) B = some (.lst []) := upd_same
    have nBD : B ≠ D := (ne_of_none eD1 hB).symm
    have hB0 : H B = none := S1.free hB
    generalize upd H1 B (.lst []) = H2 at S2 eB2
    have S02 := S1.trans S2
    obtain ⟨ms, em, lm⟩ := cut_n ns 28
    refine ⟨_, rfl, _, rfl, a, _, rfl, S02.seq hS, fun p hp => ?_⟩
    rw [show cutV (ns.map V.int) none (some 28) = ms.map V.int from em]
    have S3 := Same.upd (o := .lst (ms.map V.int)) hp
    have ep3 : (upd H2 p (.lst (ms.map V.int))) p = some (.lst (ms.map V.int)) := upd_same
    have npD : p ≠ D := (ne_of_none (S2 _ _ eD1) hp).symm
    have npB : p ≠ B := (ne_of_none eB2 hp).symm
    generalize upd H2 p (.lst (ms.map V.int)) = H3 at S3 ep3
    have S03 := S02.trans S3
    refine ⟨p, rfl, ⟨_, SqL.of ep3⟩, for_list (K := K) (a := p) (xs := ms.map V.int) (fun i σ H' => Same H H' ∧ H' p = some (.lst (ms.map V.int)) ∧ ∃ (kn : List Str) (rows : List Dt) (us : List V) (D0 C L : Nat) (dd : Int) (o5 o6 o7 o8 : Option V), H' D = some (.lst us) ∧ DatsAt K H' us rows ∧ H' B = some (.lst (kn.map V.str)) ∧ Gp kn rows D0 C L ∧ (D0 : Int) ≤ dd ∧ dd ≤ 60 ∧ C ≤ 14 * i ∧ L ≤ 2 * i ∧ rows.length ≤ i ∧ kn.length ≤ i ∧
        σ = [some (.ref a), some (.ref b), some (.ref D), some (.ref B), some (.int dd), o5, o6, o7, o8, none, none])
      ⟨S03, ep3, [], [], [], 0, 0, 0, 0, none, none, none, none, (S2.trans S3) _ _ eD1, .nil, S3 _ _ eB2, .nil, by decide, by decide, Nat.le_refl _, Nat.le_refl _, Nat.le_refl _, Nat.le_refl _, rfl⟩ (fun i σ H' _ z => SqL.of z.2.1) ?_ ?_⟩
    · rintro i x σ H' hx ⟨S, ep, kn, rows, us, D0, C, L, dd, o5, o6, o7, o8, eD, du, eB, gp, hd1, hd2, hC, hL, hrl, hkl, rfl⟩
      obtain ⟨cell, hcell, rfl⟩ := map_get hx
      have hi : i < 28 := by
        have := (List.getElem?_eq_some_iff.mp hcell).1
        omega
      have lu := du.length
      refine ⟨_, rfl, _, rfl, _, rfl, cell, B, b, kn, nm, rfl, eB, S _ _ hb, hn, fun vt Ht t n m St dt gt hn2 hm7 => ?_⟩
      refine ⟨_, rfl, _, rfl, _, _, rfl, by decide, by decide, fun m7 _ _ => ?_⟩
      obtain ⟨sn, hsn, _⟩ := at_six hn (i := m7 % 6) (Int.emod_nonneg _ (by decide)) (Int.emod_lt_of_pos m7 (show (0 : Int) < 6 by decide))
      refine ⟨_, _, rfl, rfl, (by show (0 : Int) < 6; decide), b, _, _, .str sn, rfl, rfl, SqL.of ((S.trans St) _ _ hb), hsn, ?_⟩
      refine ⟨_, rfl, _, _, rfl, by decide, by decide, fun m8 _ _ => ⟨_, _, rfl, rfl, (by show (0 : Int) < 6; decide), ?_⟩⟩
      refine ⟨_, rfl, _, _, rfl, rfl, _, rfl, iteBB (fun hc => ?_) (fun hc => ?_)⟩
      · refine ⟨_, rfl, _, _, rfl, by decide, by decide, fun m2 _ _ => ⟨_, rfl, m2, B, kn, rfl, St _ _ eB, fun vl Hl tl Sl dl gl => ?_⟩⟩
        have hdd : dd + 2 * ((0 : Nat) : Int) ≤ 60 := by omega
        have St := St.trans Sl
        have gl := gl.mono (show 1 ≤ 3 by decide)
        have hm1 : 1 ≤ 7 := by decide
        have hn0 : 0 ≤ 2 := by decide
        refine ⟨_, rfl, _, rfl, vl, tl, kn, 0, 1, rfl, dl, gl, fun H5 S5 => ⟨_, _, rfl, rfl, small_mul (by omega), _, _, rfl, rfl, ?_⟩⟩
        have S' := S.trans (St.trans S5)
        have T5 := St.trans S5
        have eD5 := T5 _ _ eD
        have du5 := du.same T5
        have eB5 := T5 _ _ eB
        have ep5 := T5 _ _ ep
        have dt5 := dl.same S5
        have snoc : ∀ {q : Addr} {o : HO} {row : Dt}, H5 q = none → DatAt K (upd H5 q o) (.ref q) row → Same H (upd (upd H5 q o) D (.lst (us ++ [.ref q]))) ∧ (upd (upd H5 q o) D (.lst (us ++ [.ref q]))) p = some (.lst (ms.map V.int)) ∧ (upd (upd H5 q o) D (.lst (us ++ [.ref q]))) D = some (.lst (us ++ [.ref q])) ∧ DatsAt K (upd (upd H5 q o) D (.lst (us ++ [.ref q]))) (us ++ [.ref q]) (rows ++ [row]) ∧ (upd (upd H5 q o) D (.lst (us ++ [.ref q]))) B = some (.lst (kn.map V.str)) ∧ (upd H5 q o) D = some (.lst us) := fun {q o row} hq dr => by
          have S6 := Same.upd (o := o) hq
          have B6 : BtA D (upd H5 q o) (upd (upd H5 q o) D (.lst (us ++ [.ref q]))) := .upd
          exact ⟨fun b' o' e => B6 _ _ (ne_of_none e hD) (S6 _ _ (S' _ _ e)), B6 _ _ npD (S6 _ _ ep5), upd_same, ((du5.same S6).append (.cons dr .nil)).but (.lst (S6 _ _ eD5)) B6, B6 _ _ nBD (S6 _ _ eB5), S6 _ _ eD5⟩
        refine ⟨_, rfl, rfl, _, rfl, iteBB (fun _ => ?_) (fun _ => ?_)⟩
        · refine ⟨_, rfl, .inl ⟨rfl, _, SqL.of eD5⟩, _, rfl, two_le, fun q hq => ?_⟩
          obtain ⟨z1, z2, z3, z4, z5, z6⟩ := snoc (row := .tup [.str "see", tl]) hq (.tup (SqT.of upd_same) (.cons (.str _) (.cons (dt5.same (.upd hq)) .nil)))
          exact ⟨D, us, _, rfl, rfl, z6, Nat.lt_of_le_of_lt (show us.length ≤ 30 by omega) (by decide), z1, z2, kn, _, _, _, _, _, dd + 2 * (0 : Nat), _, _, _, _, z3, z4, z5, .see _ _ _ _ _ _ _ _ gp gl, by omega, by omega, by omega, by omega, by rw [List.length_append]; show rows.length + 1 ≤ i + 1; omega, by omega, rfl⟩
        have lett : ∀ {kn' : List Str}, (∀ s ∈ kn', s ∈ kn ∨ s = sn) → Gp kn' (rows ++ [.tup [.str "let", .str sn, tl]]) (D0 + 0) (C + 1) (L + 1) := fun hk => .lett kn _ _ _ _ _ _ _ _ _ gp gl hk
        refine ⟨_, rfl, rfl, _, rfl, iteBB (fun _ => ?_) (fun _ => ?_)⟩
        · refine ⟨_, rfl, B, _, rfl, .inl (SqL.of eB5), _, _, rfl, rfl, _, rfl, iteBB (fun hc2 => ?_) (fun _ => ?_)⟩
          · have hk0 : 0 < kn.length := by
              have := of_decide_eq_true hc2
              rw [List.length_map] at this
              omega
            refine ⟨_, rfl, .inl ⟨rfl, _, SqL.of eD5⟩, _, rfl, _, _, rfl, by decide, by decide, fun m9 _ _ => ⟨_, _, rfl, rfl, (by show (0 : Int) < 3; decide), _, rfl, _, rfl, _, _, rfl, by decide, by decide, fun m11 _ _ => ?_⟩⟩
            obtain ⟨sk, hsk, msk⟩ := at_str (ns := kn) m11 (n := ((kn.map V.str).length : Nat)) (by rw [List.length_map]) hk0
            obtain ⟨r, hr2, er⟩ : ∃ r : Nat, r ≤ 2 ∧ m9 % 3 = (r : Int) := ⟨(m9 % 3).toNat, by omega, by omega⟩
            refine ⟨_, rfl, B, _, rfl, .inl (SqL.of eB5), _, _, rfl, rfl, (by show (0 : Int) < ((kn.map V.str).length : Nat); rw [List.length_map]; omega), B, _, _, .str sk, rfl, rfl, SqL.of eB5, hsk, _, rfl, t4, fun q hq => ?_⟩
            obtain ⟨z1, z2, z3, z4, z5, z6⟩ := snoc (row := .tup [.str "again", .int (r : Int), .str sk, tl]) hq (.tup (SqT.of upd_same) (.cons (.str _) (.cons (by rw [← er]; exact .int _) (.cons (.str _) (.cons (dt5.same (.upd hq)) .nil)))))
            have q1 : r * 0 ≤ 2 * 0 := Nat.mul_le_mul_right _ hr2
            have q2 : r * 1 ≤ 2 * 1 := Nat.mul_le_mul_right _ hr2
            exact ⟨D, us, _, rfl, rfl, z6, Nat.lt_of_le_of_lt (show us.length ≤ 30 by omega) (by decide), z1, z2, kn, _, _, _, _, _, dd + 2 * (0 : Nat), _, _, _, _, z3, z4, z5, .again _ _ _ _ _ _ _ _ r sk gp gl (by omega) msk, by omega, by omega, by omega, by omega, by rw [List.length_append]; show rows.length + 1 ≤ i + 1; omega, by omega, rfl⟩
          · refine ⟨_, rfl, .inl ⟨rfl, _, SqL.of eD5⟩, _, rfl, _, rfl, t3, fun q hq => ?_⟩
            obtain ⟨z1, z2, z3, z4, z5, z6⟩ := snoc (row := .tup [.str "let", .str sn, tl]) hq (.tup (SqT.of upd_same) (.cons (.str _) (.cons (.str _) (.cons (dt5.same (.upd hq)) .nil))))
            refine ⟨D, us, _, rfl, rfl, z6, Nat.lt_of_le_of_lt (show us.length ≤ 30 by omega) (by decide), ?_⟩
            clear snoc
            generalize upd (upd H5 q (.tup [.str "let", .str sn, vl])) D (.lst (us ++ [.ref q])) = J at z1 z2 z3 z4 z5 ⊢
            refine ⟨_, rfl, _, rfl, B, _, rfl, .inl (SqL.of z5), rfl, flat_str kn, _, rfl, iteBB (fun _ => ?_) (fun _ => ?_)⟩
            · refine ⟨_, rfl, .inl ⟨rfl, _, SqL.of z5⟩, _, rfl, B, _, _, rfl, rfl, z5, Nat.lt_of_le_of_lt (show (kn.map V.str).length ≤ 30 by rw [List.length_map]; omega) (by decide), ?_⟩
              have BB : BtA B J (upd J B (.lst (kn.map V.str ++ [.str sn]))) := .upd
              refine ⟨fun b' o' e => BB _ _ (ne_of_none e hB0) (z1 _ _ e), BB _ _ npB z2, kn ++ [sn], _, _, _, _, _, dd + 2 * (0 : Nat), _, _, _, _, BB _ _ nBD.symm z3, z4.but (.lst z5) BB, ?_, lett (fun s hs => ?_), by omega, by omega, by omega, by omega, by rw [List.length_append]; show rows.length + 1 ≤ i + 1; omega, by rw [List.length_append]; show kn.length + 1 ≤ i + 1; omega, rfl⟩
              · rw [List.map_append]
                exact upd_same
              · rcases List.mem_append.mp hs with z | z
                · exact .inl z
                · exact .inr (List.mem_singleton.mp z)
            · exact ⟨z1, z2, kn, _, _, _, _, _, dd + 2 * (0 : Nat), _, _, _, _, z3, z4, z5, lett (fun s hs => .inl hs), by omega, by omega, by omega, by omega, by rw [List.length_append]; show rows.length + 1 ≤ i + 1; omega, by omega, rfl⟩
        · refine iteF ?_
          refine ⟨_, rfl, .inl ⟨rfl, _, SqL.of eD5⟩, _, rfl, _, rfl, t3, fun q hq => ?_⟩
          obtain ⟨z1, z2, z3, z4, z5, z6⟩ := snoc (row := .tup [.str "let", .str sn, tl]) hq (.tup (SqT.of upd_same) (.cons (.str _) (.cons (.str _) (.cons (dt5.same (.upd hq)) .nil))))
          refine ⟨D, us, _, rfl, rfl, z6, Nat.lt_of_le_of_lt (show us.length ≤ 30 by omega) (by decide), ?_⟩
          clear snoc
          generalize upd (upd H5 q (.tup [.str "let", .str sn, vl])) D (.lst (us ++ [.ref q])) = J at z1 z2 z3 z4 z5 ⊢
          refine ⟨_, rfl, _, rfl, B, _, rfl, .inl (SqL.of z5), rfl, flat_str kn, _, rfl, iteBB (fun _ => ?_) (fun _ => ?_)⟩
          · refine ⟨_, rfl, .inl ⟨rfl, _, SqL.of z5⟩, _, rfl, B, _, _, rfl, rfl, z5, Nat.lt_of_le_of_lt (show (kn.map V.str).length ≤ 30 by rw [List.length_map]; omega) (by decide), ?_⟩
            have BB : BtA B J (upd J B (.lst (kn.map V.str ++ [.str sn]))) := .upd
            refine ⟨fun b' o' e => BB _ _ (ne_of_none e hB0) (z1 _ _ e), BB _ _ npB z2, kn ++ [sn], _, _, _, _, _, dd + 2 * (0 : Nat), _, _, _, _, BB _ _ nBD.symm z3, z4.but (.lst z5) BB, ?_, lett (fun s hs => ?_), by omega, by omega, by omega, by omega, by rw [List.length_append]; show rows.length + 1 ≤ i + 1; omega, by rw [List.length_append]; show kn.length + 1 ≤ i + 1; omega, rfl⟩
            · rw [List.map_append]
              exact upd_same
            · rcases List.mem_append.mp hs with z | z
              · exact .inl z
              · exact .inr (List.mem_singleton.mp z)
          · exact ⟨z1, z2, kn, _, _, _, _, _, dd + 2 * (0 : Nat), _, _, _, _, z3, z4, z5, lett (fun s hs => .inl hs), by omega, by omega, by omega, by omega, by rw [List.length_append]; show rows.length + 1 ≤ i + 1; omega, by omega, rfl⟩
      · have hdd : dd + 2 * (n : Int) ≤ 60 := by
          have := of_decide_eq_false hc
          omega
        refine ⟨_, rfl, _, rfl, vt, t, kn, n, m, rfl, dt, gt, fun H5 S5 => ⟨_, _, rfl, rfl, small_mul (by omega), _, _, rfl, rfl, ?_⟩⟩
        have S' := S.trans (St.trans S5)
        have T5 := St.trans S5
        have eD5 := T5 _ _ eD
        have du5 := du.same T5
        have eB5 := T5 _ _ eB
        have ep5 := T5 _ _ ep
        have dt5 := dt.same S5
        have snoc : ∀ {q : Addr} {o : HO} {row : Dt}, H5 q = none → DatAt K (upd H5 q o) (.ref q) row → Same H (upd (upd H5 q o) D (.lst (us ++ [.ref q]))) ∧ (upd (upd H5 q o) D (.lst (us ++ [.ref q]))) p = some (.lst (ms.map V.int)) ∧ (upd (upd H5 q o) D (.lst (us ++ [.ref q]))) D = some (.lst (us ++ [.ref q])) ∧ DatsAt K (upd (upd H5 q o) D (.lst (us ++ [.ref q]))) (us ++ [.ref q]) (rows ++ [row]) ∧ (upd (upd H5 q o) D (.lst (us ++ [.ref q]))) B = some (.lst (kn.map V.str)) ∧ (upd H5 q o) D = some (.lst us) := fun {q o row} hq dr => by
          have S6 := Same.upd (o := o) hq
          have B6 : BtA D (upd H5 q o) (upd (upd H5 q o) D (.lst (us ++ [.ref q]))) := .upd
          exact ⟨fun b' o' e => B6 _ _ (ne_of_none e hD) (S6 _ _ (S' _ _ e)), B6 _ _ npD (S6 _ _ ep5), upd_same, ((du5.same S6).append (.cons dr .nil)).but (.lst (S6 _ _ eD5)) B6, B6 _ _ nBD (S6 _ _ eB5), S6 _ _ eD5⟩
        refine ⟨_, rfl, rfl, _, rfl, iteBB (fun _ => ?_) (fun _ => ?_)⟩
        · refine ⟨_, rfl, .inl ⟨rfl, _, SqL.of eD5⟩, _, rfl, two_le, fun q hq => ?_⟩
          obtain ⟨z1, z2, z3, z4, z5, z6⟩ := snoc (row := .tup [.str "see", t]) hq (.tup (SqT.of upd_same) (.cons (.str _) (.cons (dt5.same (.upd hq)) .nil)))
          exact ⟨D, us, _, rfl, rfl, z6, Nat.lt_of_le_of_lt (show us.length ≤ 30 by omega) (by decide), z1, z2, kn, _, _, _, _, _, dd + 2 * (n : Nat), _, _, _, _, z3, z4, z5, .see _ _ _ _ _ _ _ _ gp gt, by omega, by omega, by omega, by omega, by rw [List.length_append]; show rows.length + 1 ≤ i + 1; omega, by omega, rfl⟩
        have lett : ∀ {kn' : List Str}, (∀ s ∈ kn', s ∈ kn ∨ s = sn) → Gp kn' (rows ++ [.tup [.str "let", .str sn, t]]) (D0 + n) (C + m) (L + 1) := fun hk => .lett kn _ _ _ _ _ _ _ _ _ gp gt hk
        refine ⟨_, rfl, rfl, _, rfl, iteBB (fun _ => ?_) (fun _ => ?_)⟩
        · refine ⟨_, rfl, B, _, rfl, .inl (SqL.of eB5), _, _, rfl, rfl, _, rfl, iteBB (fun hc2 => ?_) (fun _ => ?_)⟩
          · have hk0 : 0 < kn.length := by
              have := of_decide_eq_true hc2
              rw [List.length_map] at this
              omega
            refine ⟨_, rfl, .inl ⟨rfl, _, SqL.of eD5⟩, _, rfl, _, _, rfl, by decide, by decide, fun m9 _ _ => ⟨_, _, rfl, rfl, (by show (0 : Int) < 3; decide), _, rfl, _, rfl, _, _, rfl, by decide, by decide, fun m11 _ _ => ?_⟩⟩
            obtain ⟨sk, hsk, msk⟩ := at_str (ns := kn) m11 (n := ((kn.map V.str).length : Nat)) (by rw [List.length_map]) hk0
            obtain ⟨r, hr2, er⟩ : ∃ r : Nat, r ≤ 2 ∧ m9 % 3 = (r : Int) := ⟨(m9 % 3).toNat, by omega, by omega⟩
            refine ⟨_, rfl, B, _, rfl, .inl (SqL.of eB5), _, _, rfl, rfl, (by show (0 : Int) < ((kn.map V.str).length : Nat); rw [List.length_map]; omega), B, _, _, .str sk, rfl, rfl, SqL.of eB5, hsk, _, rfl, t4, fun q hq => ?_⟩
            obtain ⟨z1, z2, z3, z4, z5, z6⟩ := snoc (row := .tup [.str "again", .int (r : Int), .str sk, t]) hq (.tup (SqT.of upd_same) (.cons (.str _) (.cons (by rw [← er]; exact .int _) (.cons (.str _) (.cons (dt5.same (.upd hq)) .nil)))))
            have q1 : r * n ≤ 2 * n := Nat.mul_le_mul_right _ hr2
            have q2 : r * m ≤ 2 * m := Nat.mul_le_mul_right _ hr2
            exact ⟨D, us, _, rfl, rfl, z6, Nat.lt_of_le_of_lt (show us.length ≤ 30 by omega) (by decide), z1, z2, kn, _, _, _, _, _, dd + 2 * (n : Nat), _, _, _, _, z3, z4, z5, .again _ _ _ _ _ _ _ _ r sk gp gt (by omega) msk, by omega, by omega, by omega, by omega, by rw [List.length_append]; show rows.length + 1 ≤ i + 1; omega, by omega, rfl⟩
          · refine ⟨_, rfl, .inl ⟨rfl, _, SqL.of eD5⟩, _, rfl, _, rfl, t3, fun q hq => ?_⟩
            obtain ⟨z1, z2, z3, z4, z5, z6⟩ := snoc (row := .tup [.str "let", .str sn, t]) hq (.tup (SqT.of upd_same) (.cons (.str _) (.cons (.str _) (.cons (dt5.same (.upd hq)) .nil))))
            refine ⟨D, us, _, rfl, rfl, z6, Nat.lt_of_le_of_lt (show us.length ≤ 30 by omega) (by decide), ?_⟩
            clear snoc
            generalize upd (upd H5 q (.tup [.str "let", .str sn, vt])) D (.lst (us ++ [.ref q])) = J at z1 z2 z3 z4 z5 ⊢
            refine ⟨_, rfl, _, rfl, B, _, rfl, .inl (SqL.of z5), rfl, flat_str kn, _, rfl, iteBB (fun _ => ?_) (fun _ => ?_)⟩
            · refine ⟨_, rfl, .inl ⟨rfl, _, SqL.of z5⟩, _, rfl, B, _, _, rfl, rfl, z5, Nat.lt_of_le_of_lt (show (kn.map V.str).length ≤ 30 by rw [List.length_map]; omega) (by decide), ?_⟩
              have BB : BtA B J (upd J B (.lst (kn.map V.str ++ [.str sn]))) := .upd
              refine ⟨fun b' o' e => BB _ _ (ne_of_none e hB0) (z1 _ _ e), BB _ _ npB z2, kn ++ [sn], _, _, _, _, _, dd + 2 * (n : Nat), _, _, _, _, BB _ _ nBD.symm z3, z4.but (.lst z5) BB, ?_, lett (fun s hs => ?_), by omega, by omega, by omega, by omega, by rw [List.length_append]; show rows.length + 1 ≤ i + 1; omega, by rw [List.length_append]; show kn.length + 1 ≤ i + 1; omega, rfl⟩
              · rw [List.map_append]
                exact upd_same
              · rcases List.mem_append.mp hs with z | z
                · exact .inl z
                · exact .inr (List.mem_singleton.mp z)
            · exact ⟨z1, z2, kn, _, _, _, _, _, dd + 2 * (n : Nat), _, _, _, _, z3, z4, z5, lett (fun s hs => .inl hs), by omega, by omega, by omega, by omega, by rw [List.length_append]; show rows.length + 1 ≤ i + 1; omega, by omega, rfl⟩
        · refine iteF ?_
          refine ⟨_, rfl, .inl ⟨rfl, _, SqL.of eD5⟩, _, rfl, _, rfl, t3, fun q hq => ?_⟩
          obtain ⟨z1, z2, z3, z4, z5, z6⟩ := snoc (row := .tup [.str "let", .str sn, t]) hq (.tup (SqT.of upd_same) (.cons (.str _) (.cons (.str _) (.cons (dt5.same (.upd hq)) .nil))))
          refine ⟨D, us, _, rfl, rfl, z6, Nat.lt_of_le_of_lt (show us.length ≤ 30 by omega) (by decide), ?_⟩
          clear snoc
          generalize upd (upd H5 q (.tup [.str "let", .str sn, vt])) D (.lst (us ++ [.ref q])) = J at z1 z2 z3 z4 z5 ⊢
          refine ⟨_, rfl, _, rfl, B, _, rfl, .inl (SqL.of z5), rfl, flat_str kn, _, rfl, iteBB (fun _ => ?_) (fun _ => ?_)⟩
          · refine ⟨_, rfl, .inl ⟨rfl, _, SqL.of z5⟩, _, rfl, B, _, _, rfl, rfl, z5, Nat.lt_of_le_of_lt (show (kn.map V.str).length ≤ 30 by rw [List.length_map]; omega) (by decide), ?_⟩
            have BB : BtA B J (upd J B (.lst (kn.map V.str ++ [.str sn]))) := .upd
            refine ⟨fun b' o' e => BB _ _ (ne_of_none e hB0) (z1 _ _ e), BB _ _ npB z2, kn ++ [sn], _, _, _, _, _, dd + 2 * (n : Nat), _, _, _, _, BB _ _ nBD.symm z3, z4.but (.lst z5) BB, ?_, lett (fun s hs => ?_), by omega, by omega, by omega, by omega, by rw [List.length_append]; show rows.length + 1 ≤ i + 1; omega, by rw [List.length_append]; show kn.length + 1 ≤ i + 1; omega, rfl⟩
            · rw [List.map_append]
              exact upd_same
            · rcases List.mem_append.mp hs with z | z
              · exact .inl z
              · exact .inr (List.mem_singleton.mp z)
          · exact ⟨z1, z2, kn, _, _, _, _, _, dd + 2 * (n : Nat), _, _, _, _, z3, z4, z5, lett (fun s hs => .inl hs), by omega, by omega, by omega, by omega, by rw [List.length_append]; show rows.length + 1 ≤ i + 1; omega, by omega, rfl⟩
    · rintro σ H' ⟨S, ep, kn, rows, us, D0, C, L, dd, o5, o6, o7, o8, eD, du, eB, gp, hd1, hd2, hC, hL, hrl, hkl, rfl⟩
      rw [List.length_map] at hC hL hrl hkl
      have lu := du.length
      obtain ⟨ms2, em2, _⟩ := cut_n ns 60
      refine ⟨_, rfl, _, rfl, a, _, rfl, S.seq hS, fun p2 hp2 => ?_⟩
      rw [show cutV (ns.map V.int) none (some 60) = ms2.map V.int from em2]
      have S4 := Same.upd (o := .lst (ms2.map V.int)) hp2
      have e4 : (upd H' p2 (.lst (ms2.map V.int))) p2 = some (.lst (ms2.map V.int)) := upd_same
      generalize upd H' p2 (.lst (ms2.map V.int)) = H4 at S4 e4
      refine ⟨p2, ms2, rfl, SqL.of e4, _, _, rfl, by decide, by decide, fun mb hb0 hb1 => ?_⟩
      replace S := S.trans S4
      replace eD := S4 _ _ eD
      replace du := du.same S4
      replace eB := S4 _ _ eB
      clear S4 e4
      refine ⟨_, rfl, _, _, rfl, rfl, (by show (0 : Int) < 4; decide), rfl, _, rfl, iteBB (fun _ => ?_) (fun _ => ?_)⟩
      · refine ⟨_, rfl, Nat.zero_le _, fun l hl => ?_⟩
        have S5 := Same.upd (o := .lst []) hl
        have e5 : (upd H4 l (.lst [])) l = some (.lst []) := upd_same
        generalize upd H4 l (.lst []) = H5 at S5 e5
        replace S := S.trans S5
        replace eD := S5 _ _ eD
        replace du := du.same S5
        replace eB := S5 _ _ eB
        refine ⟨B, l, _, [], kn.map Dt.str, [], rfl, rfl, SqL.of eB, SqL.of e5, dats_str kn, .nil, hgts_str kn, _, rfl, iteBB (fun hc => ?_) (fun _ => ?_)⟩
        · have hk0 : 0 < kn.length := by
            cases kn with
            | nil => exact absurd hc (by decide)
            | cons _ _ => simp
          obtain ⟨sk, hsk, msk⟩ := at_str (ns := kn) (mb / 4) (n := ((kn.map V.str).length : Nat)) (by rw [List.length_map]) hk0
          refine ⟨_, rfl, _, rfl, _, _, rfl, rfl, ⟨by decide, by decide +kernel⟩, _, rfl, B, _, rfl, .inl (SqL.of eB), _, _, rfl, rfl, (by show (0 : Int) < ((kn.map V.str).length : Nat); rw [List.length_map]; omega), B, _, _, .str sk, rfl, rfl, SqL.of eB, hsk, ?_⟩
          refine ⟨two_le, fun qn hqn => ?_⟩
          have S6 := Same.upd (o := .tup [.str "num", .int 1]) hqn
          have d6 : DatAt K (upd H5 qn (.tup [.str "num", .int 1])) (.ref qn) (.tup [.str "num", .int 1]) := .tup (SqT.of upd_same) (.cons (.str _) (.cons (.int _) .nil))
          generalize upd H5 qn (.tup [.str "num", .int 1]) = H6 at S6 d6
          replace S := S.trans S6
          replace eD := S6 _ _ eD
          replace du := du.same S6
          replace eB := S6 _ _ eB
          obtain ⟨r, hr30, er⟩ : ∃ r : Nat, r ≤ 30 ∧ 4 + mb / 64 % 27 = (r : Int) := ⟨(4 + mb / 64 % 27).toNat, by omega, by omega⟩
          refine ⟨_, rfl, _, _, rfl, rfl, _, rfl, iteBB (fun hc2 => ?_) (fun hc2 => ?_)⟩
          · have dd30 : dd < 30 := of_decide_eq_true hc2
            refine ⟨_, rfl, mb, rfl, hb0, hb1, fun vp Hp tp pp Sp dp drp => ?_⟩
            replace S := S.trans Sp
            replace eD := Sp _ _ eD
            replace du := du.same Sp
            replace eB := Sp _ _ eB
            have gpt : Gt kn 1 tp 1 1 := .draw _ _ drp
            have hDD : D0 + r * (0 + 1) ≤ 60 := by omega
            refine ⟨_, rfl, two_le, fun q1 hq1 => ?_⟩
            have T1 := Same.upd (o := .tup [.str "name", .str sk]) hq1
            have e1 : (upd Hp q1 (.tup [.str "name", .str sk])) q1 = some (.tup [.str "name", .str sk]) := upd_same
            generalize upd Hp q1 (.tup [.str "name", .str sk]) = J1 at T1 e1
            refine ⟨_, rfl, t4, fun q2 hq2 => ?_⟩
            have T2 := Same.upd (o := .tup [.str "op", .str "+", .ref q1, vp]) hq2
            have e2 : (upd J1 q2 (.tup [.str "op", .str "+", .ref q1, vp])) q2 = some (.tup [.str "op", .str "+", .ref q1, vp]) := upd_same
            generalize upd J1 q2 (.tup [.str "op", .str "+", .ref q1, vp]) = J2 at T2 e2
            refine ⟨t3, fun q3 hq3 => ?_⟩
            have T3 := Same.upd (o := .tup [.str "rest", .ref q2, .int 3]) hq3
            have e3 : (upd J2 q3 (.tup [.str "rest", .ref q2, .int 3])) q3 = some (.tup [.str "rest", .ref q2, .int 3]) := upd_same
            generalize upd J2 q3 (.tup [.str "rest", .ref q2, .int 3]) = J3 at T3 e3
            have T13 := T1.trans (T2.trans T3)
            refine ⟨_, rfl, .inl ⟨rfl, _, SqL.of (T13 _ _ eD)⟩, _, rfl, _, _, rfl, rfl, ⟨by decide, by decide +kernel⟩, _, _, rfl, rfl, (by show (0 : Int) < 27; decide), _, _, rfl, rfl, _, rfl, _, rfl, t4, fun q4 hq4 => ?_⟩
            have T4 := Same.upd (o := .tup [.str "again", .int (4 + mb / 64 % 27), .str sk, .ref q3]) hq4
            have dr : DatAt K (upd J3 q4 (.tup [.str "again", .int (4 + mb / 64 % 27), .str sk, .ref q3])) (.ref q4) (.tup [.str "again", .int (r : Int), .str sk, .tup [.str "rest", .tup [.str "op", .str "+", .tup [.str "name", .str sk], tp], .int 3]]) :=
              .tup (SqT.of upd_same) (.cons (.str _) (.cons (by rw [← er]; exact .int _) (.cons (.str _) (.cons (.tup (SqT.of (T4 _ _ e3)) (.cons (.str _) (.cons (.tup (SqT.of ((T3.trans T4) _ _ e2)) (.cons (.str _) (.cons (.str _) (.cons (.tup (SqT.of ((T2.trans (T3.trans T4)) _ _ e1)) (.cons (.str _) (.cons (.str _) .nil))) (.cons (dp.same (T13.trans T4)) .nil))))) (.cons (.int _) .nil)))) .nil))))
            generalize upd J3 q4 (.tup [.str "again", .int (4 + mb / 64 % 27), .str sk, .ref q3]) = J4 at T4 dr
            have T14 := T13.trans T4
            refine ⟨D, us, _, rfl, rfl, T14 _ _ eD, Nat.lt_of_le_of_lt (show us.length ≤ 30 by omega) (by decide), ?_⟩
            have BD : BtA D J4 (upd J4 D (.lst (us ++ [.ref q4]))) := .upd
            have eJ : (upd J4 D (.lst (us ++ [.ref q4]))) D = some (.lst (us ++ [.ref q4])) := upd_same
            have SJ : Same H (upd J4 D (.lst (us ++ [.ref q4]))) := fun b' o' e => BD _ _ (ne_of_none e hD) (T14 _ _ (S _ _ e))
            have dJ := ((du.same T14).append (.cons dr .nil)).but (.lst (T14 _ _ eD)) BD
            have bJ := BD _ _ nBD (T14 _ _ eB)
            generalize upd J4 D (.lst (us ++ [.ref q4])) = J5 at BD eJ SJ dJ bJ
            have gp2 := Gp.again kn rows D0 C L _ _ _ r sk gp (g_rest (h := 2) 3 (g_op (h := 1) "+" (.name sk msk) gpt)) hr30 msk
            have lrow : (rows ++ [Dt.tup [.str "again", .int (r : Int), .str sk, .tup [.str "rest", .tup [.str "op", .str "+", .tup [.str "name", .str sk], tp], .int 3]]]).length = rows.length + 1 := by rw [List.length_append]; rfl
            have q9 : r * (1 + 1 + 1 + 1) ≤ 30 * 4 := Nat.mul_le_mul_right _ hr30
            have hD6 := hDD
            have hC6 : C + r * (1 + 1 + 1 + 1) ≤ 512 := by omega
            have hL6 : L + r ≤ 86 := by omega
            have hR6 : (rows ++ [Dt.tup [.str "again", .int (r : Int), .str sk, .tup [.str "rest", .tup [.str "op", .str "+", .tup [.str "name", .str sk], tp], .int 3]]]).length ≤ 29 := by omega
            clear lrow gp S eD du eB
            generalize rows ++ [Dt.tup [.str "again", .int (r : Int), .str sk, .tup [.str "rest", .tup [.str "op", .str "+", .tup [.str "name", .str sk], tp], .int 3]]] = rows at dJ gp2 hR6
            generalize us ++ [V.ref q4] = us at eJ dJ
            have lu := dJ.length
            refine ⟨_, rfl, _, rfl, D, _, rfl, .inl (SqL.of eJ), _, _, rfl, by decide, by decide, fun mm _ _ => ⟨_, rfl, mm, B, kn, rfl, bJ, fun vl Hl tl Sl dl gl => ?_⟩⟩
            refine ⟨two_le, fun q hq => ?_⟩
            have U1 := Same.upd (o := .tup [.str "ask", vl]) hq
            have f1 : (upd Hl q (.tup [.str "ask", vl])) q = some (.tup [.str "ask", vl]) := upd_same
            generalize upd Hl q (.tup [.str "ask", vl]) = K1 at U1 f1
            refine ⟨(by show 1 ≤ sizeLine; decide), fun l2 hl2 => ?_⟩
            have U2 := Same.upd (o := .lst [.ref q]) hl2
            have f2 : (upd K1 l2 (.lst [.ref q])) l2 = some (.lst [.ref q]) := upd_same
            generalize upd K1 l2 (.lst [.ref q]) = K2 at U2 f2
            have U12 := Sl.trans (U1.trans U2)
            refine ⟨D, l2, us, _, rfl, rfl, U12 _ _ eJ, f2, Nat.le_trans (show us.length + 1 ≤ 60 by omega) (by decide), fun Z hZ => ?_⟩
            have U3 := Same.upd (o := .lst (us ++ [.ref q])) hZ
            have SS := SJ.trans (U12.trans U3)
            refine k Z _ kn _ _ _ _ SS ((SJ.trans U12).free hZ) ⟨_, upd_same, (dJ.same (U12.trans U3)).append (.cons (.tup (SqT.of ((U2.trans U3) _ _ f1)) (.cons (.str _) (.cons (dl.same (U1.trans (U2.trans U3))) .nil))) .nil)⟩ (.ask _ _ _ _ _ _ _ _ gp2 (gl.mono (by decide))) (by rw [List.length_append]; show rows.length + 1 ≤ 60; omega) (by omega) (by omega) (by omega)
          · have gpt : Gt kn 1 (.tup [.str "num", .int 1]) 0 1 := .num 1
            have hDD : D0 + r * (0 + 0) ≤ 60 := by omega
            refine ⟨_, rfl, two_le, fun q1 hq1 => ?_⟩
            have T1 := Same.upd (o := .tup [.str "name", .str sk]) hq1
            have e1 : (upd H6 q1 (.tup [.str "name", .str sk])) q1 = some (.tup [.str "name", .str sk]) := upd_same
            generalize upd H6 q1 (.tup [.str "name", .str sk]) = J1 at T1 e1
            refine ⟨_, rfl, t4, fun q2 hq2 => ?_⟩
            have T2 := Same.upd (o := .tup [.str "op", .str "+", .ref q1, .ref qn]) hq2
            have e2 : (upd J1 q2 (.tup [.str "op", .str "+", .ref q1, .ref qn])) q2 = some (.tup [.str "op", .str "+", .ref q1, .ref qn]) := upd_same
            generalize upd J1 q2 (.tup [.str "op", .str "+", .ref q1, .ref qn]) = J2 at T2 e2
            refine ⟨t3, fun q3 hq3 => ?_⟩
            have T3 := Same.upd (o := .tup [.str "rest", .ref q2, .int 3]) hq3
            have e3 : (upd J2 q3 (.tup [.str "rest", .ref q2, .int 3])) q3 = some (.tup [.str "rest", .ref q2, .int 3]) := upd_same
            generalize upd J2 q3 (.tup [.str "rest", .ref q2, .int 3]) = J3 at T3 e3
            have T13 := T1.trans (T2.trans T3)
            refine ⟨_, rfl, .inl ⟨rfl, _, SqL.of (T13 _ _ eD)⟩, _, rfl, _, _, rfl, rfl, ⟨by decide, by decide +kernel⟩, _, _, rfl, rfl, (by show (0 : Int) < 27; decide), _, _, rfl, rfl, _, rfl, _, rfl, t4, fun q4 hq4 => ?_⟩
            have T4 := Same.upd (o := .tup [.str "again", .int (4 + mb / 64 % 27), .str sk, .ref q3]) hq4
            have dr : DatAt K (upd J3 q4 (.tup [.str "again", .int (4 + mb / 64 % 27), .str sk, .ref q3])) (.ref q4) (.tup [.str "again", .int (r : Int), .str sk, .tup [.str "rest", .tup [.str "op", .str "+", .tup [.str "name", .str sk], .tup [.str "num", .int 1]], .int 3]]) :=
              .tup (SqT.of upd_same) (.cons (.str _) (.cons (by rw [← er]; exact .int _) (.cons (.str _) (.cons (.tup (SqT.of (T4 _ _ e3)) (.cons (.str _) (.cons (.tup (SqT.of ((T3.trans T4) _ _ e2)) (.cons (.str _) (.cons (.str _) (.cons (.tup (SqT.of ((T2.trans (T3.trans T4)) _ _ e1)) (.cons (.str _) (.cons (.str _) .nil))) (.cons (d6.same (T13.trans T4)) .nil))))) (.cons (.int _) .nil)))) .nil))))
            generalize upd J3 q4 (.tup [.str "again", .int (4 + mb / 64 % 27), .str sk, .ref q3]) = J4 at T4 dr
            have T14 := T13.trans T4
            refine ⟨D, us, _, rfl, rfl, T14 _ _ eD, Nat.lt_of_le_of_lt (show us.length ≤ 30 by omega) (by decide), ?_⟩
            have BD : BtA D J4 (upd J4 D (.lst (us ++ [.ref q4]))) := .upd
            have eJ : (upd J4 D (.lst (us ++ [.ref q4]))) D = some (.lst (us ++ [.ref q4])) := upd_same
            have SJ : Same H (upd J4 D (.lst (us ++ [.ref q4]))) := fun b' o' e => BD _ _ (ne_of_none e hD) (T14 _ _ (S _ _ e))
            have dJ := ((du.same T14).append (.cons dr .nil)).but (.lst (T14 _ _ eD)) BD
            have bJ := BD _ _ nBD (T14 _ _ eB)
            generalize upd J4 D (.lst (us ++ [.ref q4])) = J5 at BD eJ SJ dJ bJ
            have gp2 := Gp.again kn rows D0 C L _ _ _ r sk gp (g_rest (h := 2) 3 (g_op (h := 1) "+" (.name sk msk) gpt)) hr30 msk
            have lrow : (rows ++ [Dt.tup [.str "again", .int (r : Int), .str sk, .tup [.str "rest", .tup [.str "op", .str "+", .tup [.str "name", .str sk], .tup [.str "num", .int 1]], .int 3]]]).length = rows.length + 1 := by rw [List.length_append]; rfl
            have q9 : r * (1 + 1 + 1 + 1) ≤ 30 * 4 := Nat.mul_le_mul_right _ hr30
            have hD6 := hDD
            have hC6 : C + r * (1 + 1 + 1 + 1) ≤ 512 := by omega
            have hL6 : L + r ≤ 86 := by omega
            have hR6 : (rows ++ [Dt.tup [.str "again", .int (r : Int), .str sk, .tup [.str "rest", .tup [.str "op", .str "+", .tup [.str "name", .str sk], .tup [.str "num", .int 1]], .int 3]]]).length ≤ 29 := by omega
            clear lrow gp S eD du eB
            generalize rows ++ [Dt.tup [.str "again", .int (r : Int), .str sk, .tup [.str "rest", .tup [.str "op", .str "+", .tup [.str "name", .str sk], .tup [.str "num", .int 1]], .int 3]]] = rows at dJ gp2 hR6
            generalize us ++ [V.ref q4] = us at eJ dJ
            have lu := dJ.length
            refine ⟨_, rfl, _, rfl, D, _, rfl, .inl (SqL.of eJ), _, _, rfl, by decide, by decide, fun mm _ _ => ⟨_, rfl, mm, B, kn, rfl, bJ, fun vl Hl tl Sl dl gl => ?_⟩⟩
            refine ⟨two_le, fun q hq => ?_⟩
            have U1 := Same.upd (o := .tup [.str "ask", vl]) hq
            have f1 : (upd Hl q (.tup [.str "ask", vl])) q = some (.tup [.str "ask", vl]) := upd_same
            generalize upd Hl q (.tup [.str "ask", vl]) = K1 at U1 f1
            refine ⟨(by show 1 ≤ sizeLine; decide), fun l2 hl2 => ?_⟩
            have U2 := Same.upd (o := .lst [.ref q]) hl2
            have f2 : (upd K1 l2 (.lst [.ref q])) l2 = some (.lst [.ref q]) := upd_same
            generalize upd K1 l2 (.lst [.ref q]) = K2 at U2 f2
            have U12 := Sl.trans (U1.trans U2)
            refine ⟨D, l2, us, _, rfl, rfl, U12 _ _ eJ, f2, Nat.le_trans (show us.length + 1 ≤ 60 by omega) (by decide), fun Z hZ => ?_⟩
            have U3 := Same.upd (o := .lst (us ++ [.ref q])) hZ
            have SS := SJ.trans (U12.trans U3)
            refine k Z _ kn _ _ _ _ SS ((SJ.trans U12).free hZ) ⟨_, upd_same, (dJ.same (U12.trans U3)).append (.cons (.tup (SqT.of ((U2.trans U3) _ _ f1)) (.cons (.str _) (.cons (dl.same (U1.trans (U2.trans U3))) .nil))) .nil)⟩ (.ask _ _ _ _ _ _ _ _ gp2 (gl.mono (by decide))) (by rw [List.length_append]; show rows.length + 1 ≤ 60; omega) (by omega) (by omega) (by omega)
        · have hD6 : D0 ≤ 60 := by omega
          have hC6 : C ≤ 512 := by omega
          have hL6 : L ≤ 86 := by omega
          have hR6 : rows.length ≤ 29 := by omega
          refine ⟨_, rfl, _, rfl, D, _, rfl, .inl (SqL.of eD), _, _, rfl, by decide, by decide, fun mm _ _ => ⟨_, rfl, mm, B, kn, rfl, eB, fun vl Hl tl Sl dl gl => ?_⟩⟩
          refine ⟨two_le, fun q hq => ?_⟩
          have U1 := Same.upd (o := .tup [.str "ask", vl]) hq
          have f1 : (upd Hl q (.tup [.str "ask", vl])) q = some (.tup [.str "ask", vl]) := upd_same
          generalize upd Hl q (.tup [.str "ask", vl]) = K1 at U1 f1
          refine ⟨(by show 1 ≤ sizeLine; decide), fun l2 hl2 => ?_⟩
          have U2 := Same.upd (o := .lst [.ref q]) hl2
          have f2 : (upd K1 l2 (.lst [.ref q])) l2 = some (.lst [.ref q]) := upd_same
          generalize upd K1 l2 (.lst [.ref q]) = K2 at U2 f2
          have U12 := Sl.trans (U1.trans U2)
          refine ⟨D, l2, us, _, rfl, rfl, U12 _ _ eD, f2, Nat.le_trans (show us.length + 1 ≤ 60 by omega) (by decide), fun Z hZ => ?_⟩
          have U3 := Same.upd (o := .lst (us ++ [.ref q])) hZ
          have SS := S.trans (U12.trans U3)
          refine k Z _ kn _ _ _ _ SS ((S.trans U12).free hZ) ⟨_, upd_same, (du.same (U12.trans U3)).append (.cons (.tup (SqT.of ((U2.trans U3) _ _ f1)) (.cons (.str _) (.cons (dl.same (U1.trans (U2.trans U3))) .nil))) .nil)⟩ (.ask _ _ _ _ _ _ _ _ gp (gl.mono (by decide))) (by rw [List.length_append]; show rows.length + 1 ≤ 60; omega) (by omega) (by omega) (by omega)
      · refine iteF ?_
        have hD6 : D0 ≤ 60 := by omega
        have hC6 : C ≤ 512 := by omega
        have hL6 : L ≤ 86 := by omega
        have hR6 : rows.length ≤ 29 := by omega
        refine ⟨_, rfl, _, rfl, D, _, rfl, .inl (SqL.of eD), _, _, rfl, by decide, by decide, fun mm _ _ => ⟨_, rfl, mm, B, kn, rfl, eB, fun vl Hl tl Sl dl gl => ?_⟩⟩
        refine ⟨two_le, fun q hq => ?_⟩
        have U1 := Same.upd (o := .tup [.str "ask", vl]) hq
        have f1 : (upd Hl q (.tup [.str "ask", vl])) q = some (.tup [.str "ask", vl]) := upd_same
        generalize upd Hl q (.tup [.str "ask", vl]) = K1 at U1 f1
        refine ⟨(by show 1 ≤ sizeLine; decide), fun l2 hl2 => ?_⟩
        have U2 := Same.upd (o := .lst [.ref q]) hl2
        have f2 : (upd K1 l2 (.lst [.ref q])) l2 = some (.lst [.ref q]) := upd_same
        generalize upd K1 l2 (.lst [.ref q]) = K2 at U2 f2
        have U12 := Sl.trans (U1.trans U2)
        refine ⟨D, l2, us, _, rfl, rfl, U12 _ _ eD, f2, Nat.le_trans (show us.length + 1 ≤ 60 by omega) (by decide), fun Z hZ => ?_⟩
        have U3 := Same.upd (o := .lst (us ++ [.ref q])) hZ
        have SS := S.trans (U12.trans U3)
        refine k Z _ kn _ _ _ _ SS ((S.trans U12).free hZ) ⟨_, upd_same, (du.same (U12.trans U3)).append (.cons (.tup (SqT.of ((U2.trans U3) _ _ f1)) (.cons (.str _) (.cons (dl.same (U1.trans (U2.trans U3))) .nil))) .nil)⟩ (.ask _ _ _ _ _ _ _ _ gp (gl.mono (by decide))) (by rw [List.length_append]; show rows.length + 1 ≤ 60; omega) (by omega) (by omega) (by omega)
end
end K22
namespace K22
open PySem L2 FW PyProof.Rows
def sp_lopened (K : PySem.W.Frag) (h : Nat) : Sp := fun vs H Q _ => ∃ (v : V) (nm dr : Addr) (t t' : Dt) (e : List (Key × V)) (ps : List (Addr × List Dt)) (ws : List (List (Int × Int))) (c : Nat),
  vs = [v, .ref nm, .ref dr] ∧ DatAt K H v t ∧ H nm = some (.dK e) ∧ LLM K H dr ps ∧ Ot e h t ps.length t' ws c ∧ ps.length + ws.length ≤ 60 ∧
  ∀ v' H' ps', BtA dr H H' → LLM K H' dr (ps ++ ps') → ps'.map (·.2) = ws.map (fun d => d.map pI) → (∀ q ∈ ps', H q.1 = none) → DatAt K H' v' t' → Q v' H'
/-- what is neither a name nor a draw -/
theorem Ot.inner {e : List (Key × V)} {N k c : Nat} {t t' : Dt} {ws : List (List (Int × Int))} (b : Ot e (N + 1) t k t' ws c) : (∃ s i, t = .tup [.str "name", .str s] ∧ t' = .tup [.str "slot", .int i] ∧ valV e (Sum.inr s) = some (.int i) ∧ ws = []) ∨ (∃ pr, Dr t pr ∧ t' = .tup [.str "draw", .int (k : Int)] ∧ ws = [pr]) ∨
    ∃ kd rr ds ds' c0, t = .tup (.str kd :: rr) ∧ kd ≠ "name" ∧ kd ≠ "flip" ∧ kd ≠ "pick" ∧ Pt t ds ∧ Nb t ∧ Ots e N ds k ds' ws c0 ∧ ds.length ≤ 6 ∧ (Wp t ds' t' ∨ (t' = t ∧ ∃ x, t = .tup [.str "num", x])) := by
  cases b with
  | num x => exact .inr (.inr ⟨_, _, [], [], 0, rfl, by decide +kernel, by decide +kernel, by decide +kernel, .num _, nb_of (by decide +kernel), .nil _, by decide, .inr ⟨rfl, x, rfl⟩⟩)
  | name nm' sl _ hval => exact .inl ⟨_, _, rfl, rfl, hval, rfl⟩
  | draw _ pr _ hdr => exact .inr (.inl ⟨pr, hdr, rfl, rfl⟩)
  | node _ ds _ ds' _ _ c hpt hs hw =>
    obtain ⟨kd, rr, rfl, n0, n1, n2, n3, n4⟩ := hw.kind
    have := hw.few
    have l := hs.len
    exact .inr (.inr ⟨kd, rr, ds, ds', c, rfl, n2, n3, n4, hpt, hw.nb.1, hs, by omega, .inl hw⟩)
section
variable {P : Program} {w : World} {K : PySem.W.Frag} {mg : Str → Option Value} {base : Heap}
set_option maxHeartbeats 4000000 in
theorem ok_law_opened {f fP fG : Addr} {fd dP dG : FuncData} (A_law_opened : FnAt K mg "_law_opened" s_law_opened ["_law_term_here", "_law_slots", "_law_draws"] f fd) (A_law_parts : FnAt K mg "_law_parts" s_law_parts ["_law_term_here"] fP dP) (A_law_again : FnAt K mg "_law_again" s_law_again ["_law_term_here", "_law_parts_here"] fG dG) (T : Tl mg) :
    ∀ h : Nat, FnOk P w K mg base CX0 (h + 1) f fd ["_law_term_here", "_law_slots", "_law_draws"] (sp_lopened K h)
  | 0 => by
    refine FnOk.imp (FnOk.no) (fun vs H Q E h => ?_)
    obtain ⟨v, nm, dr, t, t', e, ps, ws, c, rfl, _, _, _, b, _⟩ := h
    cases b
  | N + 1 => by
    have G_law_opened : FnOk P w K mg base CX0 (N + 1) f fd _ (sp_lopened K N) := ok_law_opened A_law_opened A_law_parts A_law_again T N
    have G_law_parts : FnOk P w K mg base CX0 1 fP dP _ (sp_lparts K) := ok_law_parts A_law_parts T
    have G_law_again : FnOk P w K mg base CX0 1 fG dG _ (sp_again K) := ok_law_again A_law_again T
    refine A_law_opened.F.ok (k := N + 1) sc_law_opened (fun vs H Q E h => ?_) (fun cdv Ar outer s H vs Q E hr h => ?_)
    · obtain ⟨v, nm, dr, t, t', e, ps, ws, c, rfl, _⟩ := h
      rfl
    · obtain ⟨v, nm, dr, t, t', e, ps, ws, c, rfl, hv, hn, ll, b, hd6, k⟩ := h
      refine ⟨_, (pss_cons (ps_if (pt_cmpR op_eq (pe_ix ix_tup (pv 0) pe_int (fun _ _ => rfl)) pe_str (nomark _)) (pss_one (ps_ret (pe_tup (pa_cons pe_str (pa_cons (pe_dget (hu_of hr) (pv 1) (pe_ix ix_tup (pv 0) pe_int (fun _ _ => rfl)) (fun _ _ => rfl)) pa_nil))))) pss_nil)
      (pss_cons (ps_if (pt_cmpR op_eq (pe_ix ix_tup (pv 0) pe_int (fun _ _ => rfl)) pe_str (nomark _)) (pss_cons (ps_expr (pe_bm PySem.F.plainAttrs_list PySem.F.slot_list_append PySem.F.type_list_append mt_append (pv 2) (pa_cons (pe_lst (pa_cons (pe_tup (pa_cons pe_int (pa_cons (pe_op op_sub (pe_ix ix_tup (pv 0) pe_int (fun _ _ => rfl)) (pe_ix ix_tup (pv 0) pe_int (fun _ _ => rfl))) pa_nil))) (pa_cons (pe_tup (pa_cons pe_int (pa_cons (pe_ix ix_tup (pv 0) pe_int (fun _ _ => rfl)) pa_nil))) pa_nil))) pa_nil)))
      (pss_one (ps_ret (pe_tup (pa_cons pe_str (pa_cons (pe_op op_sub (pe_callB call_len_seq (by rfl) T.len_ Boot.«len» (pa_cons (pv 2) pa_nil)) pe_int) pa_nil)))))) pss_nil)
      (pss_cons (ps_if (pt_cmpR op_eq (pe_ix ix_tup (pv 0) pe_int (fun _ _ => rfl)) pe_str (nomark _)) (pss_cons (ps_expr (pe_bm PySem.F.plainAttrs_list PySem.F.slot_list_append PySem.F.type_list_append mt_append (pv 2) (pa_cons (pe_callTy call_list_of (by rfl) T.list_ Boot.«list» (pa_cons (pe_ix ix_tup (pv 0) pe_int (fun _ _ => rfl)) pa_nil)) pa_nil)))
      (pss_one (ps_ret (pe_tup (pa_cons pe_str (pa_cons (pe_op op_sub (pe_callB call_len_seq (by rfl) T.len_ Boot.«len» (pa_cons (pv 2) pa_nil)) pe_int) pa_nil)))))) pss_nil)
      (pss_one (ps_ret (pe_call G_law_again (hr.mono (by omega)) rfl A_law_again.m A_law_again.F.kp A_law_again.b .nil pass0 (pa_cons (pv 0) (pa_cons (pe_comp rfl (Nc := ["_law_part", "_law_slots", "_law_draws"]) (caps2 1 1 2 2 [(".0", .local), ("_law_part", .local), ("_law_opened", .globalImplicit), ("_law_draws", .cell), ("_law_slots", .cell)] rfl rfl rfl (by decide +kernel) (by decide +kernel) rfl rfl (by decide) (by decide +kernel) rfl rfl rfl rfl rfl rfl rfl rfl) (pi_list (pe_call G_law_parts (hr.mono (by omega)) rfl A_law_parts.m A_law_parts.F.kp A_law_parts.b .nil pass0 (pa_cons (pv 0) pa_nil))) (fun _ _ _ _ => (pg_name (i := 0) (show List.Nodup (["_law_part", "_law_slots", "_law_draws"] : List Str) by decide +kernel) rfl (Or.inl rfl))) (fun _ _ _ _ => pts_nil) (fun _ _ _ _ => by exact (pe_call G_law_opened (hr.mono (by omega)) rfl A_law_opened.m A_law_opened.F.kp A_law_opened.b .nil pass0 (pa_cons (pv 0) (pa_cons (pv 1) (pa_cons (pv 2) pa_nil)))))) pa_nil)))))))), ?_⟩
      have nnd : nm ≠ dr := fun z => by have := ll.at_; rw [← z, hn] at this; cases this
      rcases b.inner with ⟨sx, i, rfl, rfl, hval, rfl⟩ | ⟨pr, hdr, rfl, rfl⟩ | ⟨kd, rr, ds, ds', c0, rfl, n1, n2, n3, hpt, nb, os, l6, hw⟩
      · obtain ⟨r, vs, rfl, sv, dv⟩ := hv.un
        obtain ⟨v0, v1, rfl, h0, h1⟩ := dv.two
        rw [h0.str_eq, h1.str_eq] at sv
        refine ⟨_, rfl, r, _, 0, .str "name", rfl, rfl, sv, rfl, rfl, _, rfl, iteBB (fun _ => ?_) (fun hc => absurd hc (by decide +kernel))⟩
        refine ⟨_, rfl, _, rfl, r, _, 1, .str sx, rfl, rfl, sv, rfl, nm, .int i, rfl, by rw [← hval]; exact DGet.k (k := Sum.inr sx) hn, two_le, fun q hq => ?_⟩
        exact k _ _ [] (.of (.upd hq)) (by rw [List.append_nil]; exact ll.same (.upd hq)) rfl (fun _ h => nomatch h) (.tup (SqT.of upd_same) (.cons (.str _) (.cons (.int _) .nil)))
      · have fin : ∀ {H3 : Hp} {D : Addr}, Same H H3 → H D = none → LsM K H3 D (pr.map pI) → H3 D ≠ none → ∀ q, (upd H3 dr (.lst (ps.map (fun p => V.ref p.1) ++ [.ref D]))) q = none → Q (.ref q) (upd (upd H3 dr (.lst (ps.map (fun p => V.ref p.1) ++ [.ref D]))) q (.tup [.str "draw", .int (ps.length : Nat)])) := fun {H3 D} S3 hD lsD _ q hq => by
          have ll3 := ll.same S3
          have nDd : D ≠ dr := (ne_of_none ll.at_ hD).symm
          have lln := LLM.snoc ll3 lsD nDd
          have B4 : BtA dr H3 (upd H3 dr (.lst (ps.map (fun p => V.ref p.1) ++ [.ref D]))) := .upd
          have S5 := Same.upd (o := .tup [.str "draw", .int (ps.length : Nat)]) hq
          exact k _ _ [(D, pr.map pI)] ((BtA.of S3).trans (B4.trans (.of S5))) (lln.same S5) rfl (fun x hx => by cases List.mem_singleton.mp hx; exact hD) (.tup (SqT.of upd_same) (.cons (.str _) (.cons (.int _) .nil)))
        have ln : ∀ (D : Addr), (((ps.map fun p => V.ref p.1) ++ [V.ref D]).length : Int) - 1 = (ps.length : Nat) := fun D => by
          rw [List.length_append, List.length_map]
          simp
        clear b
        cases hdr with
        | flip a b =>
          obtain ⟨r, vs, rfl, sv, dv⟩ := hv.un
          obtain ⟨v0, v1, v2, rfl, h0, h1, h2⟩ := dats3 dv
          rw [h0.str_eq, h1.int_eq, h2.int_eq] at sv
          refine ⟨_, rfl, r, _, 0, .str "flip", rfl, rfl, sv, rfl, rfl, _, rfl, iteBB (fun hc => absurd hc (by decide +kernel)) (fun _ => ?_)⟩
          refine ⟨_, rfl, r, _, 0, .str "flip", rfl, rfl, sv, rfl, rfl, _, rfl, iteBB (fun _ => ?_) (fun hc => absurd hc (by decide +kernel))⟩
          refine ⟨_, rfl, .inl ⟨rfl, _, SqL.of ll.at_⟩, _, rfl, r, _, 2, .int b, rfl, rfl, sv, rfl, _, rfl, r, _, 1, .int a, rfl, rfl, sv, rfl, _, _, rfl, rfl, two_le, fun ta hta => ?_⟩
          have S1 := Same.upd (o := .tup [.int 0, .int (b - a)]) hta
          have da : DatAt K (upd H ta (.tup [.int 0, .int (b - a)])) (.ref ta) (pI (0, b - a)) := .tup (SqT.of upd_same) (.cons (.int _) (.cons (.int _) .nil))
          generalize upd H ta (.tup [.int 0, .int (b - a)]) = H1 at S1 da
          refine ⟨_, rfl, r, _, 1, .int a, rfl, rfl, S1.tup sv, rfl, two_le, fun tb htb => ?_⟩
          have S2 := Same.upd (o := .tup [.int 1, .int a]) htb
          have db : DatAt K (upd H1 tb (.tup [.int 1, .int a])) (.ref tb) (pI (1, a)) := .tup (SqT.of upd_same) (.cons (.int _) (.cons (.int _) .nil))
          generalize upd H1 tb (.tup [.int 1, .int a]) = H2 at S2 db
          refine ⟨two_le, fun l hl => ?_⟩
          have S3 := Same.upd (o := .lst [.ref ta, .ref tb]) hl
          have e3 : (upd H2 l (.lst [.ref ta, .ref tb])) l = some (.lst [.ref ta, .ref tb]) := upd_same
          generalize upd H2 l (.lst [.ref ta, .ref tb]) = H3 at S3 e3
          have S03 := S1.trans (S2.trans S3)
          refine ⟨dr, _, _, rfl, rfl, S03 _ _ ll.at_, Nat.lt_of_le_of_lt (show (ps.map fun p => V.ref p.1).length ≤ 60 by rw [List.length_map]; omega) (by decide), ?_⟩
          refine ⟨_, rfl, dr, _, rfl, .inl (SqL.of upd_same), _, _, rfl, rfl, two_le, fun q hq => ?_⟩
          dsimp only
          rw [ln l]
          exact fin S03 ((S1.trans S2).free hl) ⟨_, e3, .cons (da.same (S2.trans S3)) (.cons (db.same S3) .nil)⟩ (by rw [e3]; intro z; cases z) q hq
        | pick =>
          obtain ⟨r, vs, rfl, sv, dv⟩ := hv.un
          obtain ⟨v0, v1, rfl, h0, h1⟩ := dv.two
          rw [h0.str_eq] at sv
          obtain ⟨q0, wz, rfl, sq, dq⟩ := h1.un
          refine ⟨_, rfl, r, _, 0, .str "pick", rfl, rfl, sv, rfl, rfl, _, rfl, iteBB (fun hc => absurd hc (by decide +kernel)) (fun _ => ?_)⟩
          refine ⟨_, rfl, r, _, 0, .str "pick", rfl, rfl, sv, rfl, rfl, _, rfl, iteBB (fun hc => absurd hc (by decide +kernel)) (fun _ => ?_)⟩
          refine ⟨_, rfl, r, _, 0, .str "pick", rfl, rfl, sv, rfl, rfl, _, rfl, iteBB (fun _ => ?_) (fun hc => absurd hc (by decide +kernel))⟩
          refine ⟨_, rfl, .inl ⟨rfl, _, SqL.of ll.at_⟩, _, rfl, r, _, 1, .ref q0, rfl, rfl, sv, rfl, q0, wz, rfl, .inr sq, fun l hl => ?_⟩
          have S3 := Same.upd (o := .lst wz) hl
          have e3 : (upd H l (.lst wz)) l = some (.lst wz) := upd_same
          generalize upd H l (.lst wz) = H3 at S3 e3
          refine ⟨dr, _, _, rfl, rfl, S3 _ _ ll.at_, Nat.lt_of_le_of_lt (show (ps.map fun p => V.ref p.1).length ≤ 60 by rw [List.length_map]; omega) (by decide), ?_⟩
          refine ⟨_, rfl, dr, _, rfl, .inl (SqL.of upd_same), _, _, rfl, rfl, two_le, fun q hq => ?_⟩
          dsimp only
          rw [ln l]
          exact fin S3 hl ⟨_, e3, dq.same S3⟩ (by rw [e3]; intro z; cases z) q hq
      · have ld := os.len
        have hv0 := hv
        obtain ⟨r, vs, rfl, sv, dv⟩ := hv0.un
        obtain ⟨v0, vr, rfl, g0, g1⟩ := dv.un
        rw [g0.str_eq] at sv
        refine ⟨_, rfl, r, _, 0, .str kd, rfl, rfl, sv, atI_nat (j := 0) rfl, rfl, _, rfl, iteBB (fun hc => absurd (show kd = "name" by simpa using hc) n1) (fun _ => ?_)⟩
        refine ⟨_, rfl, r, _, 0, .str kd, rfl, rfl, sv, atI_nat (j := 0) rfl, rfl, _, rfl, iteBB (fun hc => absurd (show kd = "flip" by simpa using hc) n2) (fun _ => ?_)⟩
        refine ⟨_, rfl, r, _, 0, .str kd, rfl, rfl, sv, atI_nat (j := 0) rfl, rfl, _, rfl, iteBB (fun hc => absurd (show kd = "pick" by simpa using hc) n3) (fun _ => ?_)⟩
        refine ⟨_, rfl, _, rfl, .ref r, _, ds, rfl, hv, hpt, nb, fun P1 H1 S1 hP1 lsP => ?_⟩
        obtain ⟨us, eP, du⟩ := lsP
        have lu := du.length
        refine ⟨P1, rfl, ⟨_, SqL.of eP⟩, fun D hD => ?_⟩
        have fD : H D = none := S1.free hD
        have nPD : P1 ≠ D := ne_of_none eP hD
        have nPd : P1 ≠ dr := (ne_of_none ll.at_ hP1).symm
        have nDd : D ≠ dr := (ne_of_none ll.at_ fD).symm
        refine comp_list (K := K) (a := P1) (D := D) (xs := us) (fun i σ ys H' => (∃ o1, σ = [o1, some (.ref nm), some (.ref dr)]) ∧ BtA dr H H' ∧ H' P1 = some (.lst us) ∧ DatsAt K H' us ds ∧ DatAt K H' (.ref r) (.tup (.str kd :: rr)) ∧ H' nm = some (.dK e) ∧ H' D = some (.lst ys) ∧ DatsAt K H' ys (ds'.take i) ∧ ∃ (psn : List (Addr × List Dt)) (wsn wr : List (List (Int × Int))) (cr : Nat),
            LLM K H' dr (ps ++ psn) ∧ psn.map (·.2) = wsn.map (fun d => d.map pI) ∧ (∀ q ∈ psn, H q.1 = none ∧ q.1 ≠ D) ∧ Ots e N (ds.drop i) (ps ++ psn).length (ds'.drop i) wr cr ∧ ws = wsn ++ wr)
          ⟨⟨none, rfl⟩, (BtA.of S1).trans (.of (.upd hD)), (Same.upd hD) _ _ eP, du.same (.upd hD), (hv.same S1).same (.upd hD), (S1.updR hD) _ _ hn, upd_same, .nil, [], [], ws, c0, by rw [List.append_nil]; exact ll.same (S1.updR hD), rfl, (fun _ h => nomatch h), by rw [List.append_nil]; exact os, rfl⟩ ?_ ?_ ?_
        · rintro i σ ys H' hi ⟨_, _, eP', _, _, _, eD', hy, _⟩
          have := hy.length
          rw [List.length_take] at this
          exact ⟨SqL.of eP', eD', Nat.lt_of_le_of_lt (show ys.length ≤ 6 by omega) (by decide)⟩
        · rintro i x σ ys H' hx ⟨⟨o1, rfl⟩, BZ, eP', du', hv', hn', eD', hy, psn, wsn, wr, cr, ll', eps, fps, ots, rfl⟩ Nn hN
          obtain ⟨d, ed, hxd⟩ := du'.get' hx
          have hi := (List.getElem?_eq_some_iff.mp ed).1
          rw [List.drop_eq_getElem_cons hi, (List.getElem?_eq_some_iff.mp ed).2] at ots
          obtain ⟨d', xs', w1, w2, c1, c2, e1, rfl, rfl, od, os2⟩ := ots.un
          obtain ⟨e2, e3⟩ := drop_cons e1
          have lpn : psn.length = wsn.length := by
            have := congrArg List.length eps
            rwa [List.length_map, List.length_map] at this
          simp only [List.length_append] at hd6
          refine iteT (B := True) ?_
          refine ⟨_, rfl, _, rfl, _, rfl, x, nm, dr, d, d', e, ps ++ psn, w1, c1, rfl, hxd, hn', ll', od, (by rw [List.length_append]; omega), fun v' H5 ps' B5 ll5 eps5 fr5 hv5 => ?_⟩
          have ntd : NT H' dr := .lst ll'.at_
          have eD5 := B5 _ _ nDd eD'
          have BD : BtA D H5 (upd H5 D (.lst (ys ++ [v']))) := .upd
          have frz : ∀ q ∈ ps', H q.1 = none ∧ q.1 ≠ D := fun q hq => by
            have fq := fr5 q hq
            refine ⟨?_, (ne_of_none eD' fq).symm⟩
            cases hH : H q.1 with
            | none => rfl
            | some y =>
              by_cases z : q.1 = dr
              · rw [z, ll'.at_] at fq; cases fq
              · rw [BZ _ _ z hH] at fq; cases fq
          refine ⟨eD5, hN _ _ _ ⟨⟨_, rfl⟩, fun b y nb' hb => ?_, BD _ _ nPD (B5 _ _ nPd eP'), (du'.but ntd B5).but (.lst eD5) BD, (hv'.but ntd B5).but (.lst eD5) BD, BD _ _ (ne_dl' hn' eD') (B5 _ _ nnd hn'), upd_same, ?_, psn ++ ps', wsn ++ w1, w2, c2, ?_, ?_, ?_, ?_, ?_⟩⟩
          · rw [upd_ne (ne_of_none hb fD)]
            exact B5 _ _ nb' (BZ _ _ nb' hb)
          · rw [take_snoc' e2]
            exact ((hy.but ntd B5).append (.cons hv5 .nil)).but (.lst eD5) BD
          · rw [← List.append_assoc]
            refine ll5.but (.lst eD5) BD nDd.symm (fun q hq => ?_)
            rcases List.mem_append.mp hq with hq | hq
            · rcases List.mem_append.mp hq with hq | hq
              · obtain ⟨_, ey, _⟩ := ll.it q hq
                exact ne_of_none ey fD
              · exact (fps q hq).2
            · exact (frz q hq).2
          · rw [List.map_append, List.map_append, eps, eps5]
          · intro q hq
            rcases List.mem_append.mp hq with hq | hq
            · exact fps q hq
            · exact frz q hq
          · rw [e3]
            have l5 : ps'.length = w1.length := by
              have := congrArg List.length eps5
              rwa [List.length_map, List.length_map] at this
            rw [show (ps ++ (psn ++ ps')).length = (ps ++ psn).length + w1.length by simp only [List.length_append]; omega]
            exact os2
          · rw [List.append_assoc]
        · rintro σ ys H' ⟨_, BZ, eP', du', hv', hn', eD', hy, psn, wsn, wr, cr, ll', eps, fps, ots, rfl⟩
          rw [List.drop_of_length_le (by omega)] at ots
          obtain ⟨_, rfl, _⟩ := ots.un0
          rw [List.take_of_length_le (by omega)] at hy
          refine ⟨.ref r, D, _, ds', t', rfl, hv', ⟨ys, eD', hy⟩, hw, fun v' H7 S7 hv7 => ?_⟩
          exact k v' H7 psn (BZ.trans (.of S7)) (ll'.same S7) (by rw [List.append_nil]; exact eps) (fun q hq => (fps q hq).1) hv7
end
end K22
namespace K22
open PySem L2 FW PyProof.Rows
/-- the law's own opening, in the midst of it -/
structure DuI (K : PySem.W.Frag) (H : Hp) (N SA DA : Addr) (e : List (Key × V)) (ps : List (Addr × List Dt)) (sts : List Dt) : Prop where
  hn : H N = some (.dK e)
  ll : LLM K H DA ps
  st : LsM K H SA sts
  sd : SA ≠ DA
  si : ∀ q ∈ ps, q.1 ≠ SA
section
variable {K : PySem.W.Frag} {H H5 : Hp} {N SA DA q : Addr} {e e2 : List (Key × V)} {ps ps' : List (Addr × List Dt)} {sts : List Dt} {us : List V} {v' : V} {t' : Dt} {s : Int}
theorem nt_dK (h : H N = some (.dK e)) : NT H N := fun x ex => by
  rw [h] at ex
  cases ex
  exact ⟨(fun _ z => nomatch z), (fun _ _ z => nomatch z)⟩
theorem DuI.ntz (I : DuI K H N SA DA e ps sts) : NTZ H [N, SA, DA] := fun a ha => by
  obtain ⟨us, es, _⟩ := I.st
  simp only [List.mem_cons, List.not_mem_nil, or_false] at ha
  rcases ha with z | z | z <;> rw [z]
  · exact nt_dK I.hn
  · exact .lst es
  · exact .lst I.ll.at_
theorem DuI.ne1 (I : DuI K H N SA DA e ps sts) : N ≠ SA ∧ N ≠ DA := by
  obtain ⟨us, es, _⟩ := I.st
  exact ⟨ne_dl' I.hn es, ne_dl' I.hn I.ll.at_⟩
theorem DuI.app (I : DuI K H N SA DA e ps sts) (es : H SA = some (.lst us)) (du : DatsAt K H us sts) (B5 : BtA DA H H5) (ll5 : LLM K H5 DA (ps ++ ps')) (fr : ∀ x ∈ ps', H x.1 = none) (hv : DatAt K H5 v' t') (hq : H5 q = none) :
    DuI K (upd (upd H5 q (.tup [.int s, v'])) SA (.lst (us ++ [.ref q]))) N SA DA e (ps ++ ps') (sts ++ [stD s t']) ∧ BtZ [N, SA, DA] H (upd (upd H5 q (.tup [.int s, v'])) SA (.lst (us ++ [.ref q]))) ∧ (upd H5 q (.tup [.int s, v'])) SA = some (.lst us) := by
  obtain ⟨n1, n2⟩ := I.ne1
  have es5 := B5 _ _ I.sd es
  have S6 := Same.upd (o := .tup [.int s, v']) hq
  have e6 := S6 _ _ es5
  have B7 : BtA SA (upd H5 q (.tup [.int s, v'])) (upd (upd H5 q (.tup [.int s, v'])) SA (.lst (us ++ [.ref q]))) := .upd
  have si5 : ∀ x ∈ ps ++ ps', x.1 ≠ SA := fun x hx => by
    rcases List.mem_append.mp hx with z | z
    · exact I.si x z
    · exact (ne_of_none es (fr x z)).symm
  refine ⟨⟨B7 _ _ n1 (S6 _ _ (B5 _ _ n2 I.hn)), (ll5.same S6).but (.lst e6) B7 I.sd.symm si5, ⟨_, upd_same, (((du.but (.lst I.ll.at_) B5).same S6).append (.cons (.tup (SqT.of upd_same) (.cons (.int _) (.cons (hv.same S6) .nil))) .nil)).but (.lst e6) B7⟩, I.sd, si5⟩, ?_, e6⟩
  exact (BtZ.one (by simp) B5).trans ((BtZ.of S6).trans (.one (by simp) B7))
theorem DuI.put (I : DuI K H N SA DA e ps sts) : DuI K (upd H N (.dK e2)) N SA DA e2 ps sts ∧ BtZ [N, SA, DA] H (upd H N (.dK e2)) := by
  obtain ⟨n1, n2⟩ := I.ne1
  have B : BtA N H (upd H N (.dK e2)) := .upd
  have nt := nt_dK I.hn
  refine ⟨⟨upd_same, I.ll.but nt B n2.symm (fun q hq z => ?_), I.st.but nt B n1.symm, I.sd, I.si⟩, .one (by simp) B⟩
  obtain ⟨_, e2, _⟩ := I.ll.it q hq
  rw [z, I.hn] at e2
  cases e2
end
def sp_due (K : PySem.W.Frag) (h : Nat) : Sp := fun vs H Q _ => ∃ (a : Addr) (rows : List Dt) (e' : List (Key × V)) (ws : List (List (Int × Int))) (st : List Dt) (s' : Int) (c : Nat),
  vs = [.ref a] ∧ LsM K H a rows ∧ Orows h rows [] 0 0 e' ws st s' c ∧ ws.length ≤ 60 ∧ st.length ≤ 900 ∧
  ∀ R SA DA ps H', Same H H' → H' R = some (.lst [.ref SA, .ref DA, .int s']) → LsM K H' SA st → LLM K H' DA ps → ps.map (·.2) = ws.map (fun d => d.map pI) → Q (.ref R) H'
section
variable {P : Program} {w : World} {K : PySem.W.Frag} {mg : Str → Option Value} {base : Heap}
set_option maxHeartbeats 8000000 in
theorem ok_law_due {h : Nat} {f fO fP fG : Addr} {fd dO dP dG : FuncData} (A : FnAt K mg "_law_due" s_law_due ["_law_program_here"] f fd) (A_law_opened : FnAt K mg "_law_opened" s_law_opened ["_law_term_here", "_law_slots", "_law_draws"] fO dO) (A_law_parts : FnAt K mg "_law_parts" s_law_parts ["_law_term_here"] fP dP) (A_law_again : FnAt K mg "_law_again" s_law_again ["_law_term_here", "_law_parts_here"] fG dG) (T : Tl mg) :
    FnOk P w K mg base CX0 (h + 2) f fd ["_law_program_here"] (sp_due K h) := by
  have G_law_opened : FnOk P w K mg base CX0 (h + 1) fO dO _ (sp_lopened K h) := ok_law_opened A_law_opened A_law_parts A_law_again T h
  refine A.F.ok (k := h + 1) sc_law_due (fun vs H Q E h => ?_) (fun cdv Ar outer s H vs Q E hr h => ?_)
  · obtain ⟨a, rows, e', ws, st, s', c, rfl, _⟩ := h
    rfl
  · obtain ⟨a, rows, e', ws, st, s', c, rfl, la, os, hw, hst, k⟩ := h
    refine ⟨_, (pss_cons (ps_set (i := 1) sc_law_due.nd rfl (Or.inl rfl) pe_dnewK)
      (pss_cons (ps_set (i := 2) sc_law_due.nd rfl (Or.inl rfl) (pe_lst pa_nil))
      (pss_cons (ps_set (i := 3) sc_law_due.nd rfl (Or.inl rfl) (pe_lst pa_nil))
      (pss_cons (ps_set (i := 4) sc_law_due.nd rfl (Or.inl rfl) pe_int)
      (pss_cons (ps_for PassesOwn.never rfl (pi_list (pv 0)) (pg_name (i := 5) sc_law_due.nd rfl (Or.inl rfl)) (pss_cons (ps_set (i := 6) sc_law_due.nd rfl (Or.inl rfl) pe_int)
      (pss_cons (ps_if (pt_cmpR op_eq (pe_ix ix_tup (pv 5) pe_int (fun _ _ => rfl)) pe_str (nomark _)) (pss_one (ps_set (i := 6) sc_law_due.nd rfl (Or.inl rfl) (pe_ix ix_tup (pv 5) pe_int (fun _ _ => rfl)))) pss_nil)
      (pss_one (ps_for PassesOwn.never rfl (pi_range1 rfl T.range_ (pa_cons (pv 6) pa_nil)) (pg_name (i := 7) sc_law_due.nd rfl (Or.inl rfl)) (pss_cons (ps_set (i := 8) sc_law_due.nd rfl (Or.inl rfl) (pe_call G_law_opened hr rfl A_law_opened.m A_law_opened.F.kp A_law_opened.b .nil pass0 (pa_cons (pe_ix ix_tup (pv 5) (pe_un un_neg pe_int) (fun _ _ => rfl)) (pa_cons (pv 1) (pa_cons (pv 3) pa_nil)))))
      (pss_one (ps_if (pt_cmpR op_eq (pe_ix ix_tup (pv 5) pe_int (fun _ _ => rfl)) pe_str (nomark _)) (pss_one (ps_expr (pe_bm PySem.F.plainAttrs_list PySem.F.slot_list_append PySem.F.type_list_append mt_append (pv 2) (pa_cons (pe_tup (pa_cons (pe_un un_neg pe_int) (pa_cons (pv 8) pa_nil))) pa_nil)))) (pss_cons (ps_expr (pe_bm PySem.F.plainAttrs_list PySem.F.slot_list_append PySem.F.type_list_append mt_append (pv 2) (pa_cons (pe_tup (pa_cons (pv 4) (pa_cons (pv 8) pa_nil))) pa_nil)))
      (pss_cons (ps_if (pt_cmpR op_ne (pe_ix ix_tup (pv 5) pe_int (fun _ _ => rfl)) pe_str (nomark _)) (pss_one (ps_dput (hu_of hr) (pv 1) (pe_ix ix_tup (pv 5) (pe_un un_neg pe_int) (fun _ _ => rfl)) (pv 4) rfl)) pss_nil)
      (pss_one (ps_set (i := 4) sc_law_due.nd rfl (Or.inl rfl) (pe_op op_add (pv 4) pe_int)))))))))))))
      (pss_one (ps_ret (pe_lst (pa_cons (pv 2) (pa_cons (pv 3) (pa_cons (pv 4) pa_nil))))))))))), ?_⟩
    obtain ⟨us0, ea, du0⟩ := la
    have lu0 := du0.length
    refine fun N hN => ?_
    have S1 := Same.upd (o := .dK []) hN
    have e1 : (upd H N (.dK [])) N = some (.dK []) := upd_same
    generalize upd H N (.dK []) = H1 at S1 e1
    refine ⟨Nat.zero_le _, fun SA hSA => ?_⟩
    have S2 := Same.upd (o := .lst []) hSA
    have e2 : (upd H1 SA (.lst [])) SA = some (.lst []) := upd_same
    generalize upd H1 SA (.lst []) = H2 at S2 e2
    refine ⟨Nat.zero_le _, fun DA hDA => ?_⟩
    have S3 := Same.upd (o := .lst []) hDA
    have e3 : (upd H2 DA (.lst [])) DA = some (.lst []) := upd_same
    have nSD : SA ≠ DA := ne_of_none e2 hDA
    generalize upd H2 DA (.lst []) = H3 at S3 e3
    have S03 := S1.trans (S2.trans S3)
    have fz : ∀ x ∈ [N, SA, DA], H x = none := fun x hx => by
      simp only [List.mem_cons, List.not_mem_nil, or_false] at hx
      rcases hx with z | z | z <;> rw [z]
      · exact hN
      · exact S1.free hSA
      · exact (S1.trans S2).free hDA
    have I3 : DuI K H3 N SA DA [] [] [] := ⟨(S2.trans S3) _ _ e1, ⟨e3, (fun _ h => nomatch h), (fun _ h => nomatch h)⟩, ⟨[], S3 _ _ e2, .nil⟩, nSD, (fun _ h => nomatch h)⟩
    refine ⟨_, rfl, a, rfl, ⟨_, SqL.of (S03 _ _ ea)⟩, for_list (K := K) (a := a) (xs := us0) (fun i σ H' => Same H H' ∧ ∃ (s1 : Int) (e : List (Key × V)) (ps : List (Addr × List Dt)) (wsn wr : List (List (Int × Int))) (sts str : List Dt) (cr : Nat) (o5 o6 o7 o8 : Option V),
        DuI K H' N SA DA e ps sts ∧ ps.map (·.2) = wsn.map (fun d => d.map pI) ∧ ws = wsn ++ wr ∧ st = sts ++ str ∧ Orows h (rows.drop i) e ps.length s1 e' wr str s' cr ∧ σ = [some (.ref a), some (.ref N), some (.ref SA), some (.ref DA), some (.int s1), o5, o6, o7, o8])
      ⟨S03, 0, [], [], [], ws, [], st, c, none, none, none, none, I3, rfl, rfl, rfl, os, rfl⟩ (fun i σ H' _ z => SqL.of (z.1 _ _ ea)) ?_ ?_⟩
    · rintro i x σ H' hx ⟨S, s1, e, ps, wsn, wr, sts, str, cr, o5, o6, o7, o8, I, eps, rfl, rfl, ors, rfl⟩
      obtain ⟨d, ed, hxd⟩ := (du0.same S).get' hx
      have hi := (List.getElem?_eq_some_iff.mp ed).1
      rw [List.drop_eq_getElem_cons hi, (List.getElem?_eq_some_iff.mp ed).2] at ors
      obtain ⟨e2', w1, w2, st1, st2, s2, c1, c2, rfl, rfl, rfl, or1, or2⟩ := ors.un
      have lps : ps.length = wsn.length := by
        have := congrArg List.length eps
        rwa [List.length_map, List.length_map] at this
      simp only [List.length_append] at hw hst
      cases or1 with
      | lett nm t _ _ _ _ _ _ _ hg =>
        obtain ⟨r, vs, rfl, sv, dv⟩ := hxd.un
        obtain ⟨v0, v1, v2, rfl, h0, h1, h2⟩ := dats3 dv
        rw [h0.str_eq, h1.str_eq] at sv
        refine ⟨_, rfl, r, _, 0, .str "let", rfl, rfl, sv, rfl, rfl, _, rfl, iteBB (fun hc => absurd hc (by decide +kernel)) (fun _ => ?_)⟩
        refine ⟨_, rfl, 1, rfl, by omega, by omega, for_range (lo := 0) (n := (1 : Int).toNat) (fun j σ H'' => Same H H'' ∧ SqT K H'' r [.str "let", .str nm, v2] ∧ DatAt K H'' v2 t ∧ ∃ (ej : List (Key × V)) (psn : List (Addr × List Dt)) (wj wk : List (List (Int × Int))) (stj stk : List Dt) (cj : Nat) (o7 o8 : Option V), DuI K H'' N SA DA ej (ps ++ psn) (sts ++ stj) ∧ psn.map (·.2) = wj.map (fun d => d.map pI) ∧ w1 = wj ++ wk ∧ st1 = stj ++ stk ∧ stj.length = j ∧ Oag h nm t (1 - j) ej (ps ++ psn).length (s1 + (j : Int)) e2' wk stk cj ∧
              σ = [some (.ref a), some (.ref N), some (.ref SA), some (.ref DA), some (.int (s1 + (j : Int))), some (.ref r), some (.int 1), o7, o8])
          ⟨S, sv, h2, e, [], [], w1, [], st1, _, _, _, by rw [List.append_nil, List.append_nil]; exact I, rfl, rfl, rfl, rfl, by rw [List.append_nil, show s1 + ((0 : Nat) : Int) = s1 by omega]; exact hg, by rw [show s1 + ((0 : Nat) : Int) = s1 by omega]; rfl⟩ ?_ ?_⟩
        · rintro j σ H'' hj ⟨Sj, svj, htj, ej, psn, wj, wk, stj, stk, cj, o7, o8, Ij, epj, rfl, rfl, lj, ag, rfl⟩
          have hjn : j < 1 := by
            have := hj
            omega
          obtain ⟨mm, hmm⟩ : ∃ mm, 1 - j = mm + 1 := ⟨1 - j - 1, by omega⟩
          rw [hmm] at ag
          obtain ⟨t', u1, u2, d1, d2, st3, rfl, rfl, rfl, hle, ot, ag2⟩ := ag.un
          have lpn : psn.length = wj.length := by
            have := congrArg List.length epj
            rwa [List.length_map, List.length_map] at this
          simp only [List.length_append] at hw hst
          refine ⟨_, rfl, _, rfl, r, _, _, v2, rfl, rfl, svj, rfl, _, rfl, _, rfl, v2, N, DA, t, t', ej, ps ++ psn, u1, _, rfl, htj, Ij.hn, Ij.ll, ot, (by rw [List.length_append]; omega), fun v' H5 ps' B5 ll5 eps5 fr5 hv5 => ?_⟩
          obtain ⟨us, es, du⟩ := Ij.st
          have lu := du.length
          rw [List.length_append] at lu
          have es5 := B5 _ _ Ij.sd es
          refine ⟨_, rfl, r, _, 0, .str "let", rfl, rfl, sqT_but (.lst Ij.ll.at_) B5 svj, rfl, rfl, _, rfl, iteBB (fun hc => absurd hc (by decide +kernel)) (fun _ => ?_)⟩
          refine ⟨_, rfl, .inl ⟨rfl, _, SqL.of es5⟩, _, rfl, _, rfl, two_le, fun q hq => ?_⟩
          obtain ⟨I7, BZ7, e7⟩ := Ij.app (s := s1 + (j : Int)) es du B5 ll5 fr5 hv5 hq
          refine ⟨SA, us, _, rfl, rfl, e7, Nat.lt_of_le_of_lt (show us.length ≤ 1000 by omega) (by decide), ?_⟩
          generalize upd (upd H5 q (.tup [.int (s1 + (j : Int)), v'])) SA (.lst (us ++ [.ref q])) = H7 at I7 BZ7 e7
          have sv7 := BZ7.tup Ij.ntz svj
          have ht7 := htj.butZ Ij.ntz BZ7
          refine ⟨_, rfl, r, _, 0, .str "let", rfl, rfl, sv7, rfl, rfl, _, rfl, iteBB (fun _ => ?_) (fun hc => absurd hc (by decide +kernel))⟩
          refine ⟨_, rfl, _, rfl, _, rfl, _, rfl, r, _, _, .str nm, rfl, rfl, sv7, rfl, N, _, rfl, DPut.k (k := Sum.inr nm) I7.hn (Nat.lt_of_lt_of_le hle (by decide)), ?_⟩
          obtain ⟨I8, BZ8⟩ := I7.put (e2 := putK ej (Sum.inr nm) (.int (s1 + (j : Int))))
          generalize upd H7 N (.dK (putK ej (Sum.inr nm) (.int (s1 + (j : Int))))) = H8 at I8 BZ8
          have l5 : ps'.length = u1.length := by
            have := congrArg List.length eps5
            rwa [List.length_map, List.length_map] at this
          refine ⟨_, rfl, _, _, rfl, rfl, BZ8.same fz (BZ7.same fz Sj), BZ8.tup I7.ntz sv7, ht7.butZ I7.ntz BZ8, _, psn ++ ps', wj ++ u1, u2, stj ++ [stD (s1 + (j : Int)) t'], st3, d2, some (.int (0 + (j : Int))), some v', by rw [← List.append_assoc, ← List.append_assoc]; exact I8, by rw [List.map_append, List.map_append, epj, eps5], by rw [List.append_assoc], by rw [List.append_assoc]; rfl, by rw [List.length_append, lj]; rfl, ?_, ?_⟩
          · rw [show 1 - (j + 1) = mm by omega, show (ps ++ (psn ++ ps')).length = (ps ++ psn).length + u1.length by simp only [List.length_append]; omega, show s1 + ((j + 1 : Nat) : Int) = s1 + (j : Int) + 1 by omega]
            exact ag2
          · rw [show s1 + ((j + 1 : Nat) : Int) = s1 + (j : Int) + 1 by omega]
            rfl
        · rintro σ H'' ⟨Sj, svj, htj, ej, psn, wj, wk, stj, stk, cj, o7, o8, Ij, epj, rfl, rfl, lj, ag, rfl⟩
          rw [show 1 - (1 : Int).toNat = 0 by omega] at ag
          obtain ⟨rfl, rfl, rfl, rfl⟩ := ag.un0
          have lpn : psn.length = wj.length := by
            have := congrArg List.length epj
            rwa [List.length_map, List.length_map] at this
          refine ⟨Sj, _, _, ps ++ psn, wsn ++ wj, w2, sts ++ stj, st2, c2, _, _, _, _, Ij, by rw [List.map_append, List.map_append, eps, epj], by rw [List.append_nil, List.append_assoc], by rw [List.append_nil, List.append_assoc], ?_, rfl⟩
          rw [List.append_nil] at or2
          rw [List.length_append, lpn, show s1 + (((1 : Int).toNat : Nat) : Int) = s1 + 1 by omega]
          exact or2
      | again n nm t _ _ _ _ _ _ _ hn hg =>
        obtain ⟨r, vs, rfl, sv, dv⟩ := hxd.un
        obtain ⟨v0, v1, v2, v3, rfl, h0, h1, h2, h3⟩ := dats4 dv
        rw [h0.str_eq, h1.int_eq, h2.str_eq] at sv
        refine ⟨_, rfl, r, _, 0, .str "again", rfl, rfl, sv, rfl, rfl, _, rfl, iteBB (fun _ => ?_) (fun hc => absurd hc (by decide +kernel))⟩
        refine ⟨_, rfl, r, _, 1, .int (n : Int), rfl, rfl, sv, rfl, ?_⟩
        refine ⟨_, rfl, (n : Int), rfl, by omega, by omega, for_range (lo := 0) (n := ((n : Int) : Int).toNat) (fun j σ H'' => Same H H'' ∧ SqT K H'' r [.str "again", .int (n : Int), .str nm, v3] ∧ DatAt K H'' v3 t ∧ ∃ (ej : List (Key × V)) (psn : List (Addr × List Dt)) (wj wk : List (List (Int × Int))) (stj stk : List Dt) (cj : Nat) (o7 o8 : Option V), DuI K H'' N SA DA ej (ps ++ psn) (sts ++ stj) ∧ psn.map (·.2) = wj.map (fun d => d.map pI) ∧ w1 = wj ++ wk ∧ st1 = stj ++ stk ∧ stj.length = j ∧ Oag h nm t (n - j) ej (ps ++ psn).length (s1 + (j : Int)) e2' wk stk cj ∧
              σ = [some (.ref a), some (.ref N), some (.ref SA), some (.ref DA), some (.int (s1 + (j : Int))), some (.ref r), some (.int (n : Int)), o7, o8])
          ⟨S, sv, h3, e, [], [], w1, [], st1, _, _, _, by rw [List.append_nil, List.append_nil]; exact I, rfl, rfl, rfl, rfl, by rw [List.append_nil, show s1 + ((0 : Nat) : Int) = s1 by omega]; exact hg, by rw [show s1 + ((0 : Nat) : Int) = s1 by omega]; rfl⟩ ?_ ?_⟩
        · rintro j σ H'' hj ⟨Sj, svj, htj, ej, psn, wj, wk, stj, stk, cj, o7, o8, Ij, epj, rfl, rfl, lj, ag, rfl⟩
          have hjn : j < n := by
            have := hj
            omega
          obtain ⟨mm, hmm⟩ : ∃ mm, n - j = mm + 1 := ⟨n - j - 1, by omega⟩
          rw [hmm] at ag
          obtain ⟨t', u1, u2, d1, d2, st3, rfl, rfl, rfl, hle, ot, ag2⟩ := ag.un
          have lpn : psn.length = wj.length := by
            have := congrArg List.length epj
            rwa [List.length_map, List.length_map] at this
          simp only [List.length_append] at hw hst
          refine ⟨_, rfl, _, rfl, r, _, _, v3, rfl, rfl, svj, rfl, _, rfl, _, rfl, v3, N, DA, t, t', ej, ps ++ psn, u1, _, rfl, htj, Ij.hn, Ij.ll, ot, (by rw [List.length_append]; omega), fun v' H5 ps' B5 ll5 eps5 fr5 hv5 => ?_⟩
          obtain ⟨us, es, du⟩ := Ij.st
          have lu := du.length
          rw [List.length_append] at lu
          have es5 := B5 _ _ Ij.sd es
          refine ⟨_, rfl, r, _, 0, .str "again", rfl, rfl, sqT_but (.lst Ij.ll.at_) B5 svj, rfl, rfl, _, rfl, iteBB (fun hc => absurd hc (by decide +kernel)) (fun _ => ?_)⟩
          refine ⟨_, rfl, .inl ⟨rfl, _, SqL.of es5⟩, _, rfl, _, rfl, two_le, fun q hq => ?_⟩
          obtain ⟨I7, BZ7, e7⟩ := Ij.app (s := s1 + (j : Int)) es du B5 ll5 fr5 hv5 hq
          refine ⟨SA, us, _, rfl, rfl, e7, Nat.lt_of_le_of_lt (show us.length ≤ 1000 by omega) (by decide), ?_⟩
          generalize upd (upd H5 q (.tup [.int (s1 + (j : Int)), v'])) SA (.lst (us ++ [.ref q])) = H7 at I7 BZ7 e7
          have sv7 := BZ7.tup Ij.ntz svj
          have ht7 := htj.butZ Ij.ntz BZ7
          refine ⟨_, rfl, r, _, 0, .str "again", rfl, rfl, sv7, rfl, rfl, _, rfl, iteBB (fun _ => ?_) (fun hc => absurd hc (by decide +kernel))⟩
          refine ⟨_, rfl, _, rfl, _, rfl, _, rfl, r, _, _, .str nm, rfl, rfl, sv7, rfl, N, _, rfl, DPut.k (k := Sum.inr nm) I7.hn (Nat.lt_of_lt_of_le hle (by decide)), ?_⟩
          obtain ⟨I8, BZ8⟩ := I7.put (e2 := putK ej (Sum.inr nm) (.int (s1 + (j : Int))))
          generalize upd H7 N (.dK (putK ej (Sum.inr nm) (.int (s1 + (j : Int))))) = H8 at I8 BZ8
          have l5 : ps'.length = u1.length := by
            have := congrArg List.length eps5
            rwa [List.length_map, List.length_map] at this
          refine ⟨_, rfl, _, _, rfl, rfl, BZ8.same fz (BZ7.same fz Sj), BZ8.tup I7.ntz sv7, ht7.butZ I7.ntz BZ8, _, psn ++ ps', wj ++ u1, u2, stj ++ [stD (s1 + (j : Int)) t'], st3, d2, some (.int (0 + (j : Int))), some v', by rw [← List.append_assoc, ← List.append_assoc]; exact I8, by rw [List.map_append, List.map_append, epj, eps5], by rw [List.append_assoc], by rw [List.append_assoc]; rfl, by rw [List.length_append, lj]; rfl, ?_, ?_⟩
          · rw [show n - (j + 1) = mm by omega, show (ps ++ (psn ++ ps')).length = (ps ++ psn).length + u1.length by simp only [List.length_append]; omega, show s1 + ((j + 1 : Nat) : Int) = s1 + (j : Int) + 1 by omega]
            exact ag2
          · rw [show s1 + ((j + 1 : Nat) : Int) = s1 + (j : Int) + 1 by omega]
            rfl
        · rintro σ H'' ⟨Sj, svj, htj, ej, psn, wj, wk, stj, stk, cj, o7, o8, Ij, epj, rfl, rfl, lj, ag, rfl⟩
          rw [show n - ((n : Int) : Int).toNat = 0 by omega] at ag
          obtain ⟨rfl, rfl, rfl, rfl⟩ := ag.un0
          have lpn : psn.length = wj.length := by
            have := congrArg List.length epj
            rwa [List.length_map, List.length_map] at this
          refine ⟨Sj, _, _, ps ++ psn, wsn ++ wj, w2, sts ++ stj, st2, c2, _, _, _, _, Ij, by rw [List.map_append, List.map_append, eps, epj], by rw [List.append_nil, List.append_assoc], by rw [List.append_nil, List.append_assoc], ?_, rfl⟩
          rw [List.append_nil] at or2
          rw [List.length_append, lpn, show s1 + ((((n : Int) : Int).toNat : Nat) : Int) = s1 + (n : Int) by omega]
          exact or2
      | see t t' _ _ _ _ _ ho =>
        obtain ⟨r, vs, rfl, sv, dv⟩ := hxd.un
        obtain ⟨v0, v1, rfl, h0, h1⟩ := dv.two
        rw [h0.str_eq] at sv
        refine ⟨_, rfl, r, _, 0, .str "see", rfl, rfl, sv, rfl, rfl, _, rfl, iteBB (fun hc => absurd hc (by decide +kernel)) (fun _ => ?_)⟩
        obtain ⟨us, es, du⟩ := I.st
        have lu := du.length
        refine ⟨_, rfl, 1, rfl, by decide, by decide, for_range (lo := 0) (n := 1) (fun j σ H'' => (j = 0 ∧ H'' = H' ∧ ∃ o7 o8, σ = [some (.ref a), some (.ref N), some (.ref SA), some (.ref DA), some (.int s1), some (.ref r), some (.int 1), o7, o8]) ∨ (j = 1 ∧ Same H H'' ∧ ∃ ps' o7 o8, DuI K H'' N SA DA e (ps ++ ps') (sts ++ [stD (-1) t']) ∧ ps'.map (·.2) = w1.map (fun d => d.map pI) ∧ σ = [some (.ref a), some (.ref N), some (.ref SA), some (.ref DA), some (.int s1), some (.ref r), some (.int 1), o7, o8]))
          (.inl ⟨rfl, rfl, _, _, rfl⟩) ?_ ?_⟩
        · rintro j σ H'' hj (⟨rfl, rfl, o7, o8, rfl⟩ | ⟨rfl, _⟩)
          rotate_left
          · exact absurd hj (by decide)
          refine ⟨_, rfl, _, rfl, r, _, _, v1, rfl, rfl, sv, rfl, _, rfl, _, rfl, v1, N, DA, t, t', e, ps, w1, _, rfl, h1, I.hn, I.ll, ho, (by omega), fun v' H5 ps' B5 ll5 eps5 fr5 hv5 => ?_⟩
          refine ⟨_, rfl, r, _, 0, .str "see", rfl, rfl, sqT_but (.lst I.ll.at_) B5 sv, rfl, rfl, _, rfl, iteBB (fun _ => ?_) (fun hc => absurd hc (by decide +kernel))⟩
          have es5 := B5 _ _ I.sd es
          refine ⟨_, rfl, .inl ⟨rfl, _, SqL.of es5⟩, _, rfl, _, rfl, two_le, fun q hq => ?_⟩
          obtain ⟨I7, BZ7, e7⟩ := I.app (s := -1) es du B5 ll5 fr5 hv5 hq
          exact ⟨SA, us, _, rfl, rfl, e7, Nat.lt_of_le_of_lt (show us.length ≤ 1000 by omega) (by decide), .inr ⟨rfl, BZ7.same fz S, ps', _, _, I7, eps5, rfl⟩⟩
        · rintro σ H'' (⟨z, _⟩ | ⟨_, S7, ps', o7, o8, I7, eps5, rfl⟩)
          · exact absurd z (by decide)
          have l5 : ps'.length = w1.length := by
            have := congrArg List.length eps5
            rwa [List.length_map, List.length_map] at this
          exact ⟨S7, s1, e, ps ++ ps', wsn ++ w1, w2, sts ++ [stD (-1) t'], st2, c2, _, _, _, _, I7, by rw [List.map_append, List.map_append, eps, eps5], by rw [List.append_assoc], by rw [List.append_assoc], by rw [List.length_append, l5]; exact or2, rfl⟩
      | ask t t' _ _ _ _ _ ho =>
        obtain ⟨r, vs, rfl, sv, dv⟩ := hxd.un
        obtain ⟨v0, v1, rfl, h0, h1⟩ := dv.two
        rw [h0.str_eq] at sv
        refine ⟨_, rfl, r, _, 0, .str "ask", rfl, rfl, sv, rfl, rfl, _, rfl, iteBB (fun hc => absurd hc (by decide +kernel)) (fun _ => ?_)⟩
        obtain ⟨us, es, du⟩ := I.st
        have lu := du.length
        refine ⟨_, rfl, 1, rfl, by decide, by decide, for_range (lo := 0) (n := 1) (fun j σ H'' => (j = 0 ∧ H'' = H' ∧ ∃ o7 o8, σ = [some (.ref a), some (.ref N), some (.ref SA), some (.ref DA), some (.int s1), some (.ref r), some (.int 1), o7, o8]) ∨ (j = 1 ∧ Same H H'' ∧ ∃ ps' o7 o8, DuI K H'' N SA DA e (ps ++ ps') (sts ++ [stD s1 t']) ∧ ps'.map (·.2) = w1.map (fun d => d.map pI) ∧ σ = [some (.ref a), some (.ref N), some (.ref SA), some (.ref DA), some (.int (s1 + 1)), some (.ref r), some (.int 1), o7, o8]))
          (.inl ⟨rfl, rfl, _, _, rfl⟩) ?_ ?_⟩
        · rintro j σ H'' hj (⟨rfl, rfl, o7, o8, rfl⟩ | ⟨rfl, _⟩)
          rotate_left
          · exact absurd hj (by decide)
          refine ⟨_, rfl, _, rfl, r, _, _, v1, rfl, rfl, sv, rfl, _, rfl, _, rfl, v1, N, DA, t, t', e, ps, w1, _, rfl, h1, I.hn, I.ll, ho, (by omega), fun v' H5 ps' B5 ll5 eps5 fr5 hv5 => ?_⟩
          refine ⟨_, rfl, r, _, 0, .str "ask", rfl, rfl, sqT_but (.lst I.ll.at_) B5 sv, rfl, rfl, _, rfl, iteBB (fun hc => absurd hc (by decide +kernel)) (fun _ => ?_)⟩
          have es5 := B5 _ _ I.sd es
          refine ⟨_, rfl, .inl ⟨rfl, _, SqL.of es5⟩, _, rfl, _, rfl, two_le, fun q hq => ?_⟩
          obtain ⟨I7, BZ7, e7⟩ := I.app (s := s1) es du B5 ll5 fr5 hv5 hq
          refine ⟨SA, us, _, rfl, rfl, e7, Nat.lt_of_le_of_lt (show us.length ≤ 1000 by omega) (by decide), ?_⟩
          refine ⟨_, rfl, r, _, 0, .str "ask", rfl, rfl, BZ7.tup I.ntz sv, rfl, rfl, _, rfl, iteBB (fun hc => absurd hc (by decide +kernel)) (fun _ => ?_)⟩
          exact ⟨_, rfl, _, _, rfl, rfl, .inr ⟨rfl, BZ7.same fz S, ps', _, _, I7, eps5, rfl⟩⟩
        · rintro σ H'' (⟨z, _⟩ | ⟨_, S7, ps', o7, o8, I7, eps5, rfl⟩)
          · exact absurd z (by decide)
          have l5 : ps'.length = w1.length := by
            have := congrArg List.length eps5
            rwa [List.length_map, List.length_map] at this
          exact ⟨S7, s1 + 1, e, ps ++ ps', wsn ++ w1, w2, sts ++ [stD s1 t'], st2, c2, _, _, _, _, I7, by rw [List.map_append, List.map_append, eps, eps5], by rw [List.append_assoc], by rw [List.append_assoc], by rw [List.length_append, l5]; exact or2, rfl⟩
    · rintro σ H' ⟨S, s1, e, ps, wsn, wr, sts, str, cr, o5, o6, o7, o8, I, eps, rfl, rfl, ors, rfl⟩
      rw [List.drop_of_length_le (by omega)] at ors
      obtain ⟨rfl, rfl, rfl, rfl, rfl⟩ := ors.un0
      rw [List.append_nil] at k
      rw [List.append_nil] at k
      refine ⟨_, rfl, _, rfl, _, rfl, (by show 3 ≤ sizeLine; decide), fun R hR => ?_⟩
      exact k R SA DA ps _ (S.updR hR) upd_same (I.st.same (.upd hR)) (I.ll.same (.upd hR)) eps
end
end K22
namespace K22
open PySem L2 FW PyProof.Rows
section
variable {X : Cx}
theorem call_isiA : CallR X (.builtin "isinstance") (fun xs H Q => ∃ x n t b, xs = [x, .ty n] ∧ ((TyOf X.K H x (.type t) ∧ PySem.W.kitOne X.K (.type t) (.type n) = some b) ∨ (∃ a vs, x = .ref a ∧ SqT X.K H a vs ∧ PySem.W.kitOne X.K (.type "tuple") (.type n) = some b)) ∧ Q (.bl b) H) := by
  intro pins s σ H xs us Q I r h
  obtain ⟨x, n, t, b, e, hk, q⟩ := h
  rcases hk with ⟨ty, k⟩ | ⟨a, vs, rfl, sq, k⟩
  · exact call_isi pins s σ H xs us Q I r ⟨x, n, _, b, e, ty, k, q⟩
  · exact call_isiT pins s σ H xs us Q I r ⟨a, vs, n, b, e, sq, k, q⟩
theorem call_lenB : CallR X (.builtin "len") (fun xs H Q => ∃ p ys, xs = [.ref p] ∧ (SqL X.K H p ys ∨ SqT X.K H p ys) ∧ (ys.length ≤ sizeLine → Q (.int ys.length) H)) := by
  intro pins s σ H xs us Q I r h
  obtain ⟨p, ys, e, hs, q⟩ := h
  have b : ys.length ≤ sizeLine := by
    rcases hs with hs | hs
    · obtain ⟨_, _, _, hz⟩ := I.list hs
      exact hz
    · obtain ⟨_, _, _, hz⟩ := I.tuple hs
      exact hz
  exact call_len_seq pins s σ H xs us Q I r ⟨p, ys, e, hs, q b⟩
def rIxA (K : PySem.W.Frag) : R2 := fun x y H Q => ∃ p xs i v, x = .ref p ∧ y = .int i ∧ (SqL K H p xs ∨ SqT K H p xs) ∧ atI xs i = some v ∧ Q v H
theorem ix_any : IxR X (rIxA X.K) := by
  intro value slice pins s σ H x y v u Q I rx ry h hs
  obtain ⟨p, xs, i, z, e1, e2, hq, he, q⟩ := h
  rcases hq with hq | hq
  · exact ix_list value slice pins s σ H x y v u Q I rx ry ⟨p, xs, i, z, e1, e2, hq, he, q⟩ hs
  · exact ix_tup value slice pins s σ H x y v u Q I rx ry ⟨p, xs, i, z, e1, e2, hq, he, q⟩ hs
end
/-- two values that are told alike -/
inductive Al (K : PySem.W.Frag) (H : Hp) : Nat → V → V → Prop
  | int {h : Nat} (i : Int) : Al K H h (.int i) (.int i)
  | str {h : Nat} (i : Str) : Al K H h (.str i) (.str i)
  | tup {h : Nat} (r q : Addr) (vs us : List V) (s1 : SqT K H r vs) (s2 : SqT K H q us) (l : vs.length = us.length) (a : ∀ (i : Nat) (x y : V), vs[i]? = some x → us[i]? = some y → Al K H h x y) : Al K H (h + 1) (.ref r) (.ref q)
  | lst {h : Nat} (r q : Addr) (vs us : List V) (s1 : H r = some (.lst vs)) (s2 : H q = some (.lst us)) (l : vs.length = us.length) (a : ∀ (i : Nat) (x y : V), vs[i]? = some x → us[i]? = some y → Al K H h x y) : Al K H (h + 1) (.ref r) (.ref q)
theorem Al.mono {K : PySem.W.Frag} {H : Hp} {h : Nat} {v u : V} (A : Al K H h v u) : ∀ {h' : Nat}, h ≤ h' → Al K H h' v u := by
  induction A with
  | int i => exact fun _ => .int i
  | str i => exact fun _ => .str i
  | tup r q vs us s1 s2 l a ih =>
    intro h' le
    obtain ⟨h2, rfl⟩ : ∃ h2, h' = h2 + 1 := ⟨h' - 1, by omega⟩
    exact .tup r q vs us s1 s2 l fun i x y e1 e2 => ih i x y e1 e2 (by omega)
  | lst r q vs us s1 s2 l a ih =>
    intro h' le
    obtain ⟨h2, rfl⟩ : ∃ h2, h' = h2 + 1 := ⟨h' - 1, by omega⟩
    exact .lst r q vs us s1 s2 l fun i x y e1 e2 => ih i x y e1 e2 (by omega)
theorem Al.of {K : PySem.W.Frag} {H : Hp} {h : Nat} {d : Dt} (ok : Okd h d) : ∀ {v u : V}, DatAt K H v d → DatAt K H u d → Al K H h v u := by
  induction ok with
  | int n i =>
    intro v u h1 h2
    rw [h1.int_eq, h2.int_eq]
    exact .int i
  | str n i =>
    intro v u h1 h2
    rw [h1.str_eq, h2.str_eq]
    exact .str i
  | tup n ds ok ih =>
    intro v u h1 h2
    obtain ⟨r, vs, rfl, s1, d1⟩ := h1.un
    obtain ⟨q, us, rfl, s2, d2⟩ := h2.un
    refine .tup r q vs us s1 s2 (d1.length.trans d2.length.symm) fun i x y e1 e2 => ?_
    obtain ⟨d, ed, hx⟩ := d1.get' e1
    obtain ⟨d', ed', hy⟩ := d2.get' e2
    rw [ed] at ed'
    cases ed'
    exact ih d (List.mem_of_getElem? ed) hx hy
theorem Al.ofL {K : PySem.W.Frag} {H : Hp} {h : Nat} {r q : Addr} {ds : List Dt} (ok : ∀ d ∈ ds, Okd h d) (h1 : LsM K H r ds) (h2 : LsM K H q ds) : Al K H (h + 1) (.ref r) (.ref q) := by
  obtain ⟨vs, e1, d1⟩ := h1
  obtain ⟨us, e2, d2⟩ := h2
  refine .lst r q vs us e1 e2 (d1.length.trans d2.length.symm) fun i x y e1 e2 => ?_
  obtain ⟨d, ed, hx⟩ := d1.get' e1
  obtain ⟨d', ed', hy⟩ := d2.get' e2
  rw [ed] at ed'
  cases ed'
  exact .of (ok d (List.mem_of_getElem? ed)) hx hy
theorem Al.ofLL {K : PySem.W.Frag} {H : Hp} {h : Nat} {r q : Addr} {ps qs : List (Addr × List Dt)} (ok : ∀ p ∈ ps, ∀ d ∈ p.2, Okd h d) (h1 : LLM K H r ps) (h2 : LLM K H q qs) (e : ps.map (·.2) = qs.map (·.2)) : Al K H (h + 2) (.ref r) (.ref q) := by
  have l : ps.length = qs.length := by
    have := congrArg List.length e
    rwa [List.length_map, List.length_map] at this
  refine .lst r q _ _ h1.at_ h2.at_ (by rw [List.length_map, List.length_map, l]) fun i x y e1 e2 => ?_
  obtain ⟨p1, g1, rfl⟩ := map_get e1
  obtain ⟨p2, g2, rfl⟩ := map_get e2
  have eq : p1.2 = p2.2 := by
    have a1 : (ps.map (·.2))[i]? = some p1.2 := by rw [List.getElem?_map, g1]; rfl
    have a2 : (qs.map (·.2))[i]? = some p2.2 := by rw [List.getElem?_map, g2]; rfl
    rw [e, a2] at a1
    exact (Option.some.inj a1).symm
  have m2 := h2.it p2 (List.mem_of_getElem? g2)
  rw [← eq] at m2
  exact .ofL (ok p1 (List.mem_of_getElem? g1)) (h1.it p1 (List.mem_of_getElem? g1)) m2
section
variable {K : PySem.W.Frag}
theorem kit_ib : PySem.W.kitOne K (.type "int") (.type "bool") = some false := by
  show PySem.W.kitCls K (.type "int") (.type "bool") = some false
  show (if PySem.W.kitMeta "bool" = true then PySem.W.subIn K (.type "int") (.type "bool") else none) = some false
  rw [if_pos (by decide +kernel)]
  show (fastBuiltinMro "int").map (·.contains (.type "bool")) = some false
  decide +kernel
theorem kit_si : PySem.W.kitOne K (.type "str") (.type "int") = some false := by
  show PySem.W.kitCls K (.type "str") (.type "int") = some false
  show (if PySem.W.kitMeta "int" = true then PySem.W.subIn K (.type "str") (.type "int") else none) = some false
  rw [if_pos (by decide +kernel)]
  show (fastBuiltinMro "str").map (·.contains (.type "int")) = some false
  decide +kernel
theorem kit_ti : PySem.W.kitOne K (.type "tuple") (.type "int") = some false := by
  show PySem.W.kitCls K (.type "tuple") (.type "int") = some false
  show (if PySem.W.kitMeta "int" = true then PySem.W.subIn K (.type "tuple") (.type "int") else none) = some false
  rw [if_pos (by decide +kernel)]
  show (fastBuiltinMro "tuple").map (·.contains (.type "int")) = some false
  decide +kernel
theorem kit_ts : PySem.W.kitOne K (.type "tuple") (.type "str") = some false := by
  show PySem.W.kitCls K (.type "tuple") (.type "str") = some false
  show (if PySem.W.kitMeta "str" = true then PySem.W.subIn K (.type "tuple") (.type "str") else none) = some false
  rw [if_pos (by decide +kernel)]
  show (fastBuiltinMro "tuple").map (·.contains (.type "str")) = some false
  decide +kernel
theorem kit_tl : PySem.W.kitOne K (.type "tuple") (.type "list") = some false := by
  show PySem.W.kitCls K (.type "tuple") (.type "list") = some false
  show (if PySem.W.kitMeta "list" = true then PySem.W.subIn K (.type "tuple") (.type "list") else none) = some false
  rw [if_pos (by decide +kernel)]
  show (fastBuiltinMro "tuple").map (·.contains (.type "list")) = some false
  decide +kernel
theorem kit_li : PySem.W.kitOne K (.type "list") (.type "int") = some false := by
  show PySem.W.kitCls K (.type "list") (.type "int") = some false
  show (if PySem.W.kitMeta "int" = true then PySem.W.subIn K (.type "list") (.type "int") else none) = some false
  rw [if_pos (by decide +kernel)]
  show (fastBuiltinMro "list").map (·.contains (.type "int")) = some false
  decide +kernel
theorem kit_ls : PySem.W.kitOne K (.type "list") (.type "str") = some false := by
  show PySem.W.kitCls K (.type "list") (.type "str") = some false
  show (if PySem.W.kitMeta "str" = true then PySem.W.subIn K (.type "list") (.type "str") else none) = some false
  rw [if_pos (by decide +kernel)]
  show (fastBuiltinMro "list").map (·.contains (.type "str")) = some false
  decide +kernel
theorem kit_lt : PySem.W.kitOne K (.type "list") (.type "tuple") = some false := by
  show PySem.W.kitCls K (.type "list") (.type "tuple") = some false
  show (if PySem.W.kitMeta "tuple" = true then PySem.W.subIn K (.type "list") (.type "tuple") else none) = some false
  rw [if_pos (by decide +kernel)]
  show (fastBuiltinMro "list").map (·.contains (.type "tuple")) = some false
  decide +kernel
end
theorem atI0 {xs : List V} {i : Nat} {x : V} (h : xs[i]? = some x) : atI xs (0 + (i : Int)) = some x := by
  rw [Int.zero_add]
  exact atI_nat h
theorem sizeLine62 : (sizeLine : Int) < 2 ^ 62 := by decide +kernel
def sp_alike (K : PySem.W.Frag) (h : Nat) : Sp := fun vs H Q _ => ∃ v u, vs = [v, u] ∧ Al K H h v u ∧ Q (.bl true) H
section
variable {P : Program} {w : World} {K : PySem.W.Frag} {mg : Str → Option Value} {base : Heap}
set_option maxHeartbeats 4000000 in
theorem ok_law_alike {f : Addr} {fd : FuncData} (A_law_alike : FnAt K mg "_law_alike" s_law_alike ["_law_found", "_law_due_here"] f fd) (T : Tl mg) : ∀ h : Nat, FnOk P w K mg base CX0 (h + 1) f fd ["_law_found", "_law_due_here"] (sp_alike K h) := fun h => by
  have GG : ∃ sp, FnOk P w K mg base CX0 h f fd ["_law_found", "_law_due_here"] sp ∧ (∀ h', h = h' + 1 → sp = sp_alike K h') := by
    cases h with
    | zero => exact ⟨_, FnOk.no, fun h' z => nomatch z⟩
    | succ N => exact ⟨_, ok_law_alike A_law_alike T N, fun h' z => by cases z; rfl⟩
  obtain ⟨sp, G_law_alike, esp⟩ := GG
  refine A_law_alike.F.ok (k := h) sc_law_alike (fun vs H Q E h => ?_) (fun cdv Ar outer s H vs Q E hr h => ?_)
  · obtain ⟨v, u, rfl, _⟩ := h
    rfl
  · obtain ⟨v, u, rfl, al, k⟩ := h
    refine ⟨_, (pss_cons (ps_if (pt_val (pe_callB call_isiA (by rfl) T.isinstance_ Boot.«isinstance» (pa_cons (pv 1) (pa_cons (pe_bltn rfl T.int_ Boot.«int» (v := .ty "int") rfl) pa_nil)))) (pss_one (ps_ret (pe_and (pe_callB call_isiA (by rfl) T.isinstance_ Boot.«isinstance» (pa_cons (pv 0) (pa_cons (pe_bltn rfl T.int_ Boot.«int» (v := .ty "int") rfl) pa_nil))) (pe_and (pe_not (pe_callB call_isiA (by rfl) T.isinstance_ Boot.«isinstance» (pa_cons (pv 0) (pa_cons (pe_bltn rfl T.bool_ Boot.«bool» (v := .ty "bool") rfl) pa_nil)))) (pe_one (pe_cmpR op_eq (pv 0) (pv 1) (nomark _))))))) pss_nil)
      (pss_cons (ps_if (pt_val (pe_callB call_isiA (by rfl) T.isinstance_ Boot.«isinstance» (pa_cons (pv 1) (pa_cons (pe_bltn rfl T.str_ Boot.«str» (v := .ty "str") rfl) pa_nil)))) (pss_one (ps_ret (pe_and (pe_callB call_isiA (by rfl) T.isinstance_ Boot.«isinstance» (pa_cons (pv 0) (pa_cons (pe_bltn rfl T.str_ Boot.«str» (v := .ty "str") rfl) pa_nil))) (pe_one (pe_cmpR op_eq (pv 0) (pv 1) (nomark _)))))) pss_nil)
      (pss_cons (ps_if (pt_cmpR op_ne (pe_callB call_isiA (by rfl) T.isinstance_ Boot.«isinstance» (pa_cons (pv 1) (pa_cons (pe_bltn rfl T.tuple_ Boot.«tuple» (v := .ty "tuple") rfl) pa_nil))) (pe_callB call_isiA (by rfl) T.isinstance_ Boot.«isinstance» (pa_cons (pv 0) (pa_cons (pe_bltn rfl T.tuple_ Boot.«tuple» (v := .ty "tuple") rfl) pa_nil))) (nomark _)) (pss_one (ps_ret pe_bl)) pss_nil)
      (pss_cons (ps_if (PW.pt (pw_or (pt_cmpR op_ne (pe_callB call_isiA (by rfl) T.isinstance_ Boot.«isinstance» (pa_cons (pv 1) (pa_cons (pe_bltn rfl T.list_ Boot.«list» (v := .ty "list") rfl) pa_nil))) (pe_callB call_isiA (by rfl) T.isinstance_ Boot.«isinstance» (pa_cons (pv 0) (pa_cons (pe_bltn rfl T.list_ Boot.«list» (v := .ty "list") rfl) pa_nil))) (nomark _)) (pw_or1 (pt_cmpR op_ne (pe_callB call_lenB (by rfl) T.len_ Boot.«len» (pa_cons (pv 0) pa_nil)) (pe_callB call_lenB (by rfl) T.len_ Boot.«len» (pa_cons (pv 1) pa_nil)) (nomark _))))) (pss_one (ps_ret pe_bl)) pss_nil)
      (pss_cons (ps_for PassesOwn.never rfl (pi_range1 rfl T.range_ (pa_cons (pe_callB call_lenB (by rfl) T.len_ Boot.«len» (pa_cons (pv 1) pa_nil)) pa_nil)) (pg_name (i := 2) sc_law_alike.nd rfl (Or.inl rfl)) (pss_one (ps_if (pt_not (pt_val (pe_call G_law_alike hr rfl A_law_alike.m A_law_alike.F.kp A_law_alike.b .nil pass0 (pa_cons (pe_ix ix_any (pv 0) (pv 2) (fun _ _ => rfl)) (pa_cons (pe_ix ix_any (pv 1) (pv 2) (fun _ _ => rfl)) pa_nil))))) (pss_one (ps_ret pe_bl)) pss_nil)))
      (pss_one (ps_ret pe_bl))))))), ?_⟩
    cases al with
    | int i =>
      refine ⟨_, rfl, _, _, _, _, rfl, .inl ⟨.int _, rfl⟩, _, rfl, iteT ?_⟩
      refine ⟨_, rfl, _, _, _, _, rfl, .inl ⟨.int _, rfl⟩, _, rfl, iteT ?_⟩
      refine ⟨_, rfl, _, _, _, _, rfl, .inl ⟨.int _, kit_ib⟩, _, rfl, _, rfl, iteT ?_⟩
      refine ⟨_, rfl, _, rfl, rfl, ?_⟩
      rw [decide_eq_true rfl]
      exact k
    | str i =>
      refine ⟨_, rfl, _, _, _, _, rfl, .inl ⟨.str _, kit_si⟩, _, rfl, iteF ?_⟩
      refine ⟨_, rfl, _, _, _, _, rfl, .inl ⟨.str _, rfl⟩, _, rfl, iteT ?_⟩
      refine ⟨_, rfl, _, _, _, _, rfl, .inl ⟨.str _, rfl⟩, _, rfl, iteT ?_⟩
      refine ⟨_, rfl, _, rfl, rfl, ?_⟩
      rw [decide_eq_true rfl]
      exact k
    | tup r q vs us s1 s2 l a =>
      cases esp _ rfl
      refine ⟨_, rfl, _, _, "tuple", _, rfl, .inr ⟨q, us, rfl, s2, kit_ti⟩, _, rfl, iteF ?_⟩
      refine ⟨_, rfl, _, _, "tuple", _, rfl, .inr ⟨q, us, rfl, s2, kit_ts⟩, _, rfl, iteF ?_⟩
      refine ⟨_, rfl, _, _, "tuple", _, rfl, .inr ⟨q, us, rfl, s2, rfl⟩, _, rfl, _, _, "tuple", _, rfl, .inr ⟨r, vs, rfl, s1, rfl⟩, rfl, _, rfl, iteF ?_⟩
      refine ⟨_, rfl, _, _, "tuple", _, rfl, .inr ⟨q, us, rfl, s2, kit_tl⟩, _, rfl, _, _, "tuple", _, rfl, .inr ⟨r, vs, rfl, s1, kit_tl⟩, rfl, _, rfl, iteF ?_⟩
      refine ⟨_, rfl, r, vs, rfl, .inr s1, fun _ => ⟨_, rfl, q, us, rfl, .inr s2, fun _ => ⟨rfl, _, rfl, ?_⟩⟩⟩
      rw [l]
      refine iteBB (fun hc => by simp at hc) (fun _ => ?_)
      refine ⟨_, rfl, q, us, rfl, .inr s2, fun hz => ?_⟩
      have z62 := sizeLine62
      refine ⟨_, rfl, by omega, by omega, for_range (lo := 0) (fun i σ H' => H' = H ∧ ∃ o2, σ = [some (.ref r), some (.ref q), o2]) ⟨rfl, none, rfl⟩ ?_ (fun σ H' z => by rw [z.1]; exact k)⟩
      rintro i σ H' hi ⟨rfl, o2, rfl⟩
      have hi' : i < us.length := by omega
      have hx : vs[i]? = some vs[i] := List.getElem?_eq_getElem (by omega)
      have hy : us[i]? = some us[i] := List.getElem?_eq_getElem hi'
      exact ⟨_, rfl, _, rfl, r, vs, _, _, rfl, rfl, .inr s1, atI0 hx, _, rfl, _, rfl, q, us, _, _, rfl, rfl, .inr s2, atI0 hy, _, _, rfl, a i _ _ hx hy, _, rfl, iteF ⟨rfl, _, rfl⟩⟩
    | lst r q vs us s1 s2 l a =>
      cases esp _ rfl
      refine ⟨_, rfl, _, _, _, _, rfl, .inl ⟨.lst s2, kit_li⟩, _, rfl, iteF ?_⟩
      refine ⟨_, rfl, _, _, _, _, rfl, .inl ⟨.lst s2, kit_ls⟩, _, rfl, iteF ?_⟩
      refine ⟨_, rfl, _, _, _, _, rfl, .inl ⟨.lst s2, kit_lt⟩, _, rfl, _, _, _, _, rfl, .inl ⟨.lst s1, kit_lt⟩, rfl, _, rfl, iteF ?_⟩
      refine ⟨_, rfl, _, _, _, _, rfl, .inl ⟨.lst s2, rfl⟩, _, rfl, _, _, _, _, rfl, .inl ⟨.lst s1, rfl⟩, rfl, _, rfl, iteF ?_⟩
      refine ⟨_, rfl, r, vs, rfl, .inl (SqL.of s1), fun _ => ⟨_, rfl, q, us, rfl, .inl (SqL.of s2), fun _ => ⟨rfl, _, rfl, ?_⟩⟩⟩
      rw [l]
      refine iteBB (fun hc => by simp at hc) (fun _ => ?_)
      refine ⟨_, rfl, q, us, rfl, .inl (SqL.of s2), fun hz => ?_⟩
      have z62 := sizeLine62
      refine ⟨_, rfl, by omega, by omega, for_range (lo := 0) (fun i σ H' => H' = H ∧ ∃ o2, σ = [some (.ref r), some (.ref q), o2]) ⟨rfl, none, rfl⟩ ?_ (fun σ H' z => by rw [z.1]; exact k)⟩
      rintro i σ H' hi ⟨rfl, o2, rfl⟩
      have hi' : i < us.length := by omega
      have hx : vs[i]? = some vs[i] := List.getElem?_eq_getElem (by omega)
      have hy : us[i]? = some us[i] := List.getElem?_eq_getElem hi'
      exact ⟨_, rfl, _, rfl, r, vs, _, _, rfl, rfl, .inl (SqL.of s1), atI0 hx, _, rfl, _, rfl, q, us, _, _, rfl, rfl, .inl (SqL.of s2), atI0 hy, _, _, rfl, a i _ _ hx hy, _, rfl, iteF ⟨rfl, _, rfl⟩⟩
termination_by h => h
end
end K22
namespace K22
open PySem L2 FW PyProof.Rows
structure Isi (K : PySem.W.Frag) (C : Addr) : Prop where
  a : PySem.W.findIn K (.ref C) "__class__" = some (some (.builtin "object.__class__"))
  b : PySem.W.specialIn K (.builtin "object.__class__") "__get__" = some (some (.builtin "getset_descriptor.__get__"))
  c : PySem.W.takesIn K (.builtin "object.__class__") = some true
  d : PySem.W.mroIn K C (.type "object") = some true
theorem kit_self {K : PySem.W.Frag} {C : Addr} : PySem.W.kitOne K (.ref C) (.ref C) = some true := by
  unfold PySem.W.kitOne
  rw [if_pos (by simp)]
theorem at_last (xs : List V) (v : V) : atI (xs ++ [v]) (-1) = some v := by
  have e : ixN (xs ++ [v]).length (-1) = some xs.length := by
    rw [List.length_append]
    unfold ixN
    simp
    omega
  unfold atI
  rw [e]
  simp
theorem Pt.okd {n : Nat} {t : Dt} {ds : List Dt} (h : Pt t ds) (ok : Okd (n + 3) t) : ∀ d ∈ ds, Okd (n + 2) d := by
  have u : ∀ l, t = .tup l → ∀ d ∈ l, Okd (n + 2) d := fun l e => by subst e; exact ok.un
  cases h with
  | num x => exact fun _ h => nomatch h
  | name x => exact fun _ h => nomatch h
  | slot x => exact fun _ h => nomatch h
  | draw x => exact fun _ h => nomatch h
  | pick x => exact fun _ h => nomatch h
  | flip x y => exact fun _ h => nomatch h
  | ite a b c => exact fun d hd => u _ rfl d (List.mem_cons_of_mem _ hd)
  | op x a b => exact fun d hd => u _ rfl d (List.mem_cons_of_mem _ (List.mem_cons_of_mem _ hd))
  | bind x a b => exact fun d hd => u _ rfl d (List.mem_cons_of_mem _ (List.mem_cons_of_mem _ hd))
  | rest a x =>
    intro d hd
    cases List.mem_singleton.mp hd
    exact u _ rfl _ (by simp)
  | field a x =>
    intro d hd
    cases List.mem_singleton.mp hd
    exact u _ rfl _ (by simp)
  | record fs h =>
    intro d hd
    obtain ⟨p, hp, rfl⟩ := List.mem_map.mp hd
    have u1 := (u _ rfl (.tup (fs.map prD)) (by simp)).un (prD p) (List.mem_map.mpr ⟨p, hp, rfl⟩)
    have u2 := u1.un p.2 (by simp [prD])
    exact u2.mono (by omega)
def sp_law (K : PySem.W.Frag) : Sp := fun vs H Q _ => ∃ (a : Addr) (ns : List Int), vs = [.ref a] ∧ SqL K H a (ns.map V.int) ∧ ns.length ≤ 63 ∧ (∀ n ∈ ns, Builtin.Int.intBits n ≤ 2 ^ 20) ∧ ∀ H', Q (.bl true) H'
section
variable {P : Program} {w : World} {K : PySem.W.Frag} {mg : Str → Option Value} {base : Heap} {C CO : Addr} {uF : Value}
set_option maxHeartbeats 8000000 in
theorem ok_law0 {f f1 f2 f3 f4 f5 f6 f7 f8 f9 f10 : Addr} {fd d1 d2 d3 d4 d5 d6 d7 d8 d9 d10 : FuncData} (A : FnAt K mg "law" s_law ["_law_script"] f fd) (A_law_names : FnAt K mg "_law_names" s_law_names ["_law_cell"] f1 d1) (G_law_names : FnOk P w K mg base CX0 1 f1 d1 ["_law_cell"] sp_names)
    (A_law_mix : FnAt K mg "_law_mix" s_law_mix ["_law_cell", "_law_k"] f2 d2) (G_law_mix : FnOk P w K mg base CX0 1 f2 d2 ["_law_cell", "_law_k"] sp_mix) (A_law_program : FnAt K mg "_law_program" s_law_program ["_law_script", "_law_names_here"] f3 d3) (G_law_program : FnOk P w K mg base CX0 5 f3 d3 ["_law_script", "_law_names_here"] (sp_program K))
    (A_law_due : FnAt K mg "_law_due" s_law_due ["_law_program_here"] f4 d4) (G_law_due : FnOk P w K mg base CX0 5 f4 d4 ["_law_program_here"] (sp_due K 3)) (A_opened : FnAt K mg "opened" s_opened ["program"] f5 d5) (G_opened : FnOk P w K mg base CX0 8 f5 d5 ["program"] (sp_opened K CO 3))
    (A_law_alike : FnAt K mg "_law_alike" s_law_alike ["_law_found", "_law_due_here"] f6 d6) (G_law_alike : FnOk P w K mg base CX0 13 f6 d6 ["_law_found", "_law_due_here"] (sp_alike K 12)) (A_parts_of : FnAt K mg "parts_of" s_parts_of ["term"] f7 d7) (G_parts_of : FnOk P w K mg base CX0 1 f7 d7 ["term"] (sp_parts K))
    (A_law_parts : FnAt K mg "_law_parts" s_law_parts ["_law_term_here"] f8 d8) (G_law_parts : FnOk P w K mg base CX0 1 f8 d8 ["_law_term_here"] (sp_lparts K)) (A_size : FnAt K mg "size" s_size ["one"] f9 d9) (G_size : FnOk P w K mg base CX0 3 f9 d9 ["one"] (sp_size K CO))
    (A_law_size : FnAt K mg "_law_size" s_law_size ["_law_term_here"] f10 d10) (G_law_size : FnOk P w K mg base CX0 4 f10 d10 ["_law_term_here"] (sp_lsize K 3)) (hOd : mg "Opened" = some (.ref CO)) (I5 : Isi K CO) (T : Tl mg) (T2 : Tx2 K mg CO uF) : FnOk P w K mg base CX0 14 f fd ["_law_script"] (sp_law K) := by
  refine A.F.ok (k := 13) sc_law (fun vs H Q E h => ?_) (fun cdv Ar outer s0 H vs Q E hr h => ?_)
  · obtain ⟨a, ns, rfl, _⟩ := h
    rfl
  · obtain ⟨a, ns, rfl, hS, hlen, hbits, k⟩ := h
    refine ⟨_, (pss_cons (ps_set (i := 1) sc_law.nd rfl (Or.inl rfl) (pe_call G_law_names (hr.mono (by decide)) rfl A_law_names.m A_law_names.F.kp A_law_names.b .nil pass0 (pa_cons (pe_call G_law_mix (hr.mono (by decide)) rfl A_law_mix.m A_law_mix.F.kp A_law_mix.b .nil pass0 (pa_cons (pe_callB (call_sum rfl) (by rfl) T.sum_ Boot.«sum» (pa_cons (pe_slice sl_list (pv 0) po_none (po_some pe_int)) pa_nil)) (pa_cons pe_int pa_nil))) pa_nil)))
      (pss_cons (ps_set (i := 2) sc_law.nd rfl (Or.inl rfl) (pe_call G_law_program (hr.mono (by decide)) rfl A_law_program.m A_law_program.F.kp A_law_program.b .nil pass0 (pa_cons (pv 0) (pa_cons (pv 1) pa_nil))))
      (pss_cons (ps_asg (pe_call G_law_due (hr.mono (by decide)) rfl A_law_due.m A_law_due.F.kp A_law_due.b .nil pass0 (pa_cons (pv 2) pa_nil)) (pg_lst (n := 3) rfl (pgs_cons (pg_name (i := 3) sc_law.nd rfl (Or.inl rfl)) (pgs_cons (pg_name (i := 4) sc_law.nd rfl (Or.inl rfl)) (pgs_cons (pg_name (i := 5) sc_law.nd rfl (Or.inl rfl)) pgs_nil)))))
      (pss_cons (ps_set (i := 6) sc_law.nd rfl (Or.inl rfl) (pe_callTy call_list_of (by rfl) T.list_ Boot.«list» (pa_cons (pv 2) pa_nil)))
      (pss_cons (ps_set (i := 7) sc_law.nd rfl (Or.inl rfl) (pe_call G_opened (hr.mono (by decide)) rfl A_opened.m A_opened.F.kp A_opened.b .nil pass0 (pa_cons (pv 6) pa_nil)))
      (pss_cons (ps_set (i := 8) sc_law.nd rfl (Or.inl rfl) (pe_call G_opened (hr.mono (by decide)) rfl A_opened.m A_opened.F.kp A_opened.b .nil pass0 (pa_cons (pv 6) pa_nil)))
      (pss_cons (ps_if (pt_cmpR (op_neL hr.units) (pv 6) (pv 2) (nomark _)) (pss_one (ps_ret pe_bl)) pss_nil)
      (pss_cons (ps_set (i := 9) sc_law.nd rfl (Or.inl rfl) (pe_lst (pa_cons (pv 3) (pa_cons (pv 4) (pa_cons (pv 5) pa_nil)))))
      (pss_cons (ps_for PassesOwn.never rfl (pi_list (pe_lst (pa_cons (pv 7) (pa_cons (pv 8) pa_nil)))) (pg_name (i := 10) sc_law.nd rfl (Or.inl rfl)) (pss_cons (ps_if (pt_not (pt_val (pe_callB call_isiC (by rfl) T.isinstance_ Boot.«isinstance» (pa_cons (pv 10) (pa_cons (pe_glob rfl hOd (v := .ref CO) rfl) pa_nil))))) (pss_one (ps_ret pe_bl)) pss_nil)
      (pss_one (ps_if (pt_not (pt_val (pe_call G_law_alike (hr.mono (by decide)) rfl A_law_alike.m A_law_alike.F.kp A_law_alike.b .nil pass0 (pa_cons (pe_lst (pa_cons (pe_fld (pv 10) rfl) (pa_cons (pe_fld (pv 10) rfl) (pa_cons (pe_fld (pv 10) rfl) pa_nil)))) (pa_cons (pv 9) pa_nil))))) (pss_one (ps_ret pe_bl)) pss_nil))))
      (pss_cons (ps_for PassesOwn.never rfl (pi_list (pv 2)) (pg_name (i := 11) sc_law.nd rfl (Or.inl rfl)) (pss_one (ps_if (pt_not (pt_val (pe_call G_law_alike (hr.mono (by decide)) rfl A_law_alike.m A_law_alike.F.kp A_law_alike.b .nil pass0 (pa_cons (pe_call G_parts_of (hr.mono (by decide)) rfl A_parts_of.m A_parts_of.F.kp A_parts_of.b .nil pass0 (pa_cons (pe_ix ix_tup (pv 11) (pe_un un_neg pe_int) (fun _ _ => rfl)) pa_nil)) (pa_cons (pe_call G_law_parts (hr.mono (by decide)) rfl A_law_parts.m A_law_parts.F.kp A_law_parts.b .nil pass0 (pa_cons (pe_ix ix_tup (pv 11) (pe_un un_neg pe_int) (fun _ _ => rfl)) pa_nil)) pa_nil))))) (pss_one (ps_ret pe_bl)) pss_nil)))
      (pss_cons (ps_for PassesOwn.never rfl (pi_list (pv 3)) (pg_tup rfl (pgs_cons (pg_name (i := 12) sc_law.nd rfl (Or.inl rfl)) (pgs_cons (pg_name (i := 13) sc_law.nd rfl (Or.inl rfl)) pgs_nil))) (pss_one (ps_if (pt_not (pt_val (pe_call G_law_alike (hr.mono (by decide)) rfl A_law_alike.m A_law_alike.F.kp A_law_alike.b .nil pass0 (pa_cons (pe_call G_parts_of (hr.mono (by decide)) rfl A_parts_of.m A_parts_of.F.kp A_parts_of.b .nil pass0 (pa_cons (pv 13) pa_nil)) (pa_cons (pe_call G_law_parts (hr.mono (by decide)) rfl A_law_parts.m A_law_parts.F.kp A_law_parts.b .nil pass0 (pa_cons (pv 13) pa_nil)) pa_nil))))) (pss_one (ps_ret pe_bl)) pss_nil)))
      (pss_one (ps_ret (pe_call G_law_alike (hr.mono (by decide)) rfl A_law_alike.m A_law_alike.F.kp A_law_alike.b .nil pass0 (pa_cons (pe_call G_size (hr.mono (by decide)) rfl A_size.m A_size.F.kp A_size.b .nil pass0 (pa_cons (pv 7) pa_nil)) (pa_cons (pe_callB (call_sum rfl) (by rfl) T.sum_ Boot.«sum» (pa_cons (pe_comp rfl (Nc := ["_law_slot", "_law_term_here"]) (caps0 rfl (by decide +kernel) (by decide +kernel) (by decide +kernel)) (pi_list (pv 3)) (fun _ _ _ _ => by exact (pg_tupK (K := K) (n := 2) rfl rfl (pgs_cons (pg_name (i := 0) (show List.Nodup (["_law_slot", "_law_term_here"] : List Str) by decide +kernel) rfl (Or.inl rfl)) (pgs_cons (pg_name (i := 1) (show List.Nodup (["_law_slot", "_law_term_here"] : List Str) by decide +kernel) rfl (Or.inl rfl)) pgs_nil)))) (fun _ _ _ _ => pts_nil) (fun _ _ _ _ => by exact (pe_call G_law_size (hr.mono (by decide)) rfl A_law_size.m A_law_size.F.kp A_law_size.b .nil pass0 (pa_cons (pv 1) pa_nil)))) pa_nil)) pa_nil)))))))))))))))), ?_⟩
    obtain ⟨ms, em, _⟩ := cut_n ns 60
    refine ⟨_, rfl, _, rfl, a, _, rfl, hS, fun p hp => ?_⟩
    rw [show cutV (ns.map V.int) none (some 60) = ms.map V.int from em]
    have S1 := Same.upd (o := .lst (ms.map V.int)) hp
    have e1 : (upd H p (.lst (ms.map V.int))) p = some (.lst (ms.map V.int)) := upd_same
    generalize upd H p (.lst (ms.map V.int)) = H1 at S1 e1
    refine ⟨p, ms, rfl, SqL.of e1, _, _, rfl, by decide, by decide, fun m1 _ _ => ⟨m1, rfl, fun B H2 nm S2 hB eB ln => ?_⟩⟩
    refine ⟨_, rfl, _, rfl, a, ns, B, nm, rfl, (S1.trans S2).seq hS, eB, ln, fun Z H3 kn rows D Cn L S3 hZ lz gp hr60 hD hC hL => ?_⟩
    obtain ⟨e, ws, st, s', e1', os, lw, ls, le, he, sts, ck, le1, he1⟩ := gp.opens hL
    have hrow := gp.rows
    refine ⟨_, rfl, Z, rows, e, ws, st, s', Cn, rfl, lz, os, by omega, by omega, fun R SA DA psd H4 S4 eR lS lD epd => ⟨R, _, rfl, SqL.of eR, rfl, _, _, rfl, _, _, rfl, _, _, rfl, rfl, ?_⟩⟩
    obtain ⟨us, eZ, dZ⟩ := lz.same S4
    have luz := dZ.length
    clear S1 e1 em S2 hB eB ln S3 hZ lz gp hS he le le1 he1
    refine ⟨_, rfl, Z, us, rfl, .inl (SqL.of eZ), fun Hd hHd => ?_⟩
    have S5 := Same.upd (o := .lst us) hHd
    have e5 : (upd H4 Hd (.lst us)) Hd = some (.lst us) := upd_same
    generalize upd H4 Hd (.lst us) = H5 at S5 e5
    refine ⟨_, rfl, Hd, rows, e1', e, ws, st, s', Cn, rfl, ⟨us, e5, dZ.same S5⟩, ck, os, hC, by omega, by omega, fun p1 s1 a1 ps1 H6 S6 hp1 one1 ep1 => ?_⟩
    refine ⟨_, rfl, Hd, rows, e1', e, ws, st, s', Cn, rfl, ⟨us, S6 _ _ e5, (dZ.same S5).same S6⟩, ck, os, hC, by omega, by omega, fun p2 s2 a2 ps2 H7 S7 hp2 one2 ep2 => ?_⟩
    replace one1 := one1.same S7
    have S57 := S6.trans S7
    have S47 := S5.trans S57
    have eZ7 := S47 _ _ eZ
    have dZ7 := dZ.same S47
    have lS7 := lS.same S47
    have lD7 := lD.same S47
    refine ⟨_, rfl, _, rfl, Hd, Z, us, us, rows, rows, rfl, rfl, SqL.of (S57 _ _ e5), SqL.of eZ7, dZ7, dZ7, hgts_le (fun d hd => ?_), _, rfl, ?_⟩
    · obtain ⟨_, _, _, _, _, _, _, ok⟩ := hrow d hd
      have := ok.hgt
      omega
    rw [Dt.beqs_self]
    refine iteF ?_
    refine ⟨_, rfl, _, rfl, _, rfl, (by show 3 ≤ sizeLine; decide), fun R2 hR2 => ?_⟩
    have S8 := Same.upd (o := .lst [.ref SA, .ref DA, .int s']) hR2
    have e8 : (upd H7 R2 (.lst [.ref SA, .ref DA, .int s'])) R2 = some (.lst [.ref SA, .ref DA, .int s']) := upd_same
    generalize upd H7 R2 (.lst [.ref SA, .ref DA, .int s']) = H8 at S8 e8
    replace one1 := one1.same S8
    replace one2 := one2.same S8
    have eZ8 := S8 _ _ eZ7
    have dZ8 := dZ7.same S8
    have lS8 := lS7.same S8
    have lD8 := lD7.same S8
    clear S47 eZ7 dZ7 lS7 lD7 S57 S5 S6 S7 S8 e5 hp1 hp2 eZ dZ lS lD eR S4 hHd hR2
    refine ⟨_, rfl, _, rfl, two_le, fun F hF => ?_⟩
    have S9 := Same.upd (o := .lst [.ref p1, .ref p2]) hF
    have e9 : (upd H8 F (.lst [.ref p1, .ref p2])) F = some (.lst [.ref p1, .ref p2]) := upd_same
    generalize upd H8 F (.lst [.ref p1, .ref p2]) = H9 at S9 e9
    refine ⟨F, rfl, ⟨_, SqL.of e9⟩, for_list (K := K) (a := F) (xs := [.ref p1, .ref p2]) (fun i σ H' => Same H9 H' ∧ ∃ o10, σ = [some (.ref a), some (.ref B), some (.ref Z), some (.ref SA), some (.ref DA), some (.int s'), some (.ref Hd), some (.ref p1), some (.ref p2), some (.ref R2), o10, none, none, none])
      ⟨.refl _, none, rfl⟩ (fun i σ H' _ z => SqL.of (z.1 _ _ e9)) ?_ ?_⟩
    · rintro i x σ H' hx ⟨S, o10, rfl⟩
      have SS := S9.trans S
      obtain ⟨px, sx, ax, psx, rfl, onx, epx⟩ : ∃ px sx ax psx, x = .ref px ∧ OneAt K CO H' px sx ax s' st psx ∧ psx.map (·.2) = ws.map (fun d => d.map pI) := by
        have := List.mem_of_getElem? hx
        rcases List.mem_cons.mp this with z | z
        · exact ⟨p1, s1, a1, ps1, z, one1.same SS, ep1⟩
        · exact ⟨p2, s2, a2, ps2, List.mem_singleton.mp z, one2.same SS, ep2⟩
      obtain ⟨⟨dx, hpx⟩, lsx, llx⟩ := onx
      refine ⟨_, rfl, .ref px, CO, .ref CO, true, rfl, .ins hpx T2.cl I5.a I5.b I5.c I5.d, kit_self, _, rfl, iteF ?_⟩
      refine ⟨_, rfl, px, CO, dx, _, _, rfl, hpx, T2.cl, T2.nS, flds_steps _ _ _, _, rfl, px, CO, dx, _, _, rfl, hpx, T2.cl, T2.nD, flds_draws _ _ _, _, rfl, px, CO, dx, _, _, rfl, hpx, T2.cl, T2.nN, flds_slots _ _ _, (by show 3 ≤ sizeLine; decide), fun q hq => ?_⟩
      have Sq := Same.upd (o := .lst [.ref sx, .ref ax, .int s']) hq
      have eq : (upd H' q (.lst [.ref sx, .ref ax, .int s'])) q = some (.lst [.ref sx, .ref ax, .int s']) := upd_same
      generalize upd H' q (.lst [.ref sx, .ref ax, .int s']) = Hq at Sq eq
      refine ⟨_, rfl, _, _, rfl, ?_, _, rfl, iteF ⟨S.trans Sq, _, rfl⟩⟩
      have SSq := SS.trans Sq
      refine .lst q R2 _ _ eq (SSq _ _ e8) rfl fun i x y g1 g2 => ?_
      match i, g1, g2 with
      | 0, g1, g2 =>
        cases g1; cases g2
        exact .ofL sts.okd (lsx.same Sq) (lS8.same SSq)
      | 1, g1, g2 =>
        cases g1; cases g2
        refine (Al.ofLL (h := 1) (fun pp hpp d hd => ?_) (llx.same Sq) (lD8.same SSq) (epx.trans epd.symm)).mono (by decide)
        have : pp.2 ∈ ws.map (fun d => d.map pI) := by
          rw [← epx]
          exact List.mem_map.mpr ⟨pp, hpp, rfl⟩
        obtain ⟨dd, _, edd⟩ := List.mem_map.mp this
        rw [← edd] at hd
        obtain ⟨pq, _, rfl⟩ := List.mem_map.mp hd
        exact okd_pI _ _
      | 2, g1, g2 =>
        cases g1; cases g2
        exact .int _
      | j + 3, g1, g2 => simp at g1
    rintro σ H10 ⟨S10, o10, rfl⟩
    have S810 := S9.trans S10
    replace one1 := one1.same S810
    have eZ10 := S810 _ _ eZ8
    have dZ10 := dZ8.same S810
    obtain ⟨vs, eS, dS⟩ := lS8.same S810
    clear one2 eZ8 dZ8 lS8 lD8 S9 e9 e8 S10 S810
    refine ⟨_, rfl, Z, rfl, ⟨_, SqL.of eZ10⟩, for_list (K := K) (a := Z) (xs := us) (fun i σ H' => Same H10 H' ∧ ∃ o10 o11, σ = [some (.ref a), some (.ref B), some (.ref Z), some (.ref SA), some (.ref DA), some (.int s'), some (.ref Hd), some (.ref p1), some (.ref p2), some (.ref R2), o10, o11, none, none])
      ⟨.refl _, _, none, rfl⟩ (fun i σ H' _ z => SqL.of (z.1 _ _ eZ10)) ?_ ?_⟩
    · rintro i x σ H' hx ⟨S, o10, o11, rfl⟩
      obtain ⟨d, ed, hxd⟩ := (dZ10.same S).get' hx
      obtain ⟨l0, t, kn', n', c', rfl, gt, _⟩ := hrow d (List.mem_of_getElem? ed)
      obtain ⟨r, vr, rfl, sv, dv⟩ := hxd.un
      obtain ⟨vs0, v, ds0, d', rfl, eds, _, hv⟩ := DatsAt.last dv (fun z => by have := dv.length; rw [z, List.length_append] at this; simp at this)
      obtain ⟨_, z⟩ := List.append_inj' eds rfl
      cases z
      obtain ⟨ds, hpt, nb, okds⟩ := gt.parts
      refine ⟨_, rfl, _, rfl, r, _, _, v, rfl, rfl, sv, at_last vs0 v, v, t, ds, rfl, hv, hpt, fun D1 J1 T1 hD1 ls1 => ?_⟩
      refine ⟨_, rfl, _, rfl, r, _, _, v, rfl, rfl, T1.tup sv, at_last vs0 v, v, t, ds, rfl, hv.same T1, hpt, nb, fun D2 J2 T2' hD2 ls2 => ?_⟩
      exact ⟨_, _, rfl, (Al.ofL okds (ls1.same T2') ls2).mono (by decide), _, rfl, iteF ⟨S.trans (T1.trans T2'), _, _, rfl⟩⟩
    rintro σ H11 ⟨S11, o10, o11, rfl⟩
    replace one1 := one1.same S11
    replace eS := S11 _ _ eS
    replace dS := dS.same S11
    obtain ⟨prs, est, sz, okp⟩ := sts.pairs
    have lpr := dS.length
    rw [est, List.length_map] at lpr
    have dS' := dS
    rw [est] at dS'
    have lst : prs.length = L := by rw [← ls, est, List.length_map]
    refine ⟨_, rfl, SA, rfl, ⟨_, SqL.of eS⟩, for_list (K := K) (a := SA) (xs := vs) (fun i σ H' => Same H11 H' ∧ ∃ o10 o11 o12 o13, σ = [some (.ref a), some (.ref B), some (.ref Z), some (.ref SA), some (.ref DA), some (.int s'), some (.ref Hd), some (.ref p1), some (.ref p2), some (.ref R2), o10, o11, o12, o13])
      ⟨.refl _, _, _, none, none, rfl⟩ (fun i σ H' _ z => SqL.of (z.1 _ _ eS)) ?_ ?_⟩
    · rintro i x σ H' hx ⟨S, o10, o11, o12, o13, rfl⟩
      obtain ⟨d, ed, hxd⟩ := (dS'.same S).get' hx
      obtain ⟨pr, ep, rfl⟩ := map_get ed
      obtain ⟨q, va, vb, rfl, g1, g2, g3⟩ := DatAt.pr (p := (.int pr.1, pr.2)) hxd
      refine ⟨q, _, rfl, g1, rfl, _, _, rfl, _, _, rfl, rfl, ?_⟩
      have okt := okp pr (List.mem_of_getElem? ep)
      obtain ⟨ds, hpt, nb⟩ : ∃ ds, Pt pr.2 ds ∧ Nb pr.2 := by
        have : ∀ {l : List Dt} {m : Nat}, Szs 3 l m → ∀ d ∈ l, ∃ ds, Pt d ds ∧ Nb d := by
          intro l
          induction l with
          | nil => exact fun _ _ h => nomatch h
          | cons x l ih =>
            intro m s d hd
            obtain ⟨m1, m2, _, s1, s2⟩ := s.un
            rcases List.mem_cons.mp hd with rfl | hd
            · obtain ⟨_, ds, _, _, _, hp, nb, _⟩ := s1.un
              exact ⟨ds, hp, nb⟩
            · exact ih s2 d hd
        exact this sz pr.2 (List.mem_map.mpr ⟨pr, List.mem_of_getElem? ep, rfl⟩)
      refine ⟨_, rfl, vb, pr.2, ds, rfl, g3, hpt, fun D1 J1 T1 hD1 ls1 => ?_⟩
      refine ⟨_, rfl, vb, pr.2, ds, rfl, g3.same T1, hpt, nb, fun D2 J2 T2' hD2 ls2 => ?_⟩
      exact ⟨_, _, rfl, (Al.ofL (hpt.okd (n := 6) okt) (ls1.same T2') ls2).mono (by decide), _, rfl, iteF ⟨S.trans (T1.trans T2'), _, _, _, _, rfl⟩⟩
    rintro σ H12 ⟨S12, o10, o11, o12, o13, rfl⟩
    replace one1 := one1.same S12
    refine ⟨_, rfl, p1, s1, a1, s', st, ps1, Cn, rfl, one1, sts, hC, fun H13 S13 => ?_⟩
    replace eS := (S12.trans S13) _ _ eS
    replace dS' := dS'.same (S12.trans S13)
    refine ⟨_, rfl, SA, rfl, ⟨_, SqL.of eS⟩, fun D9 hD9 => ?_⟩
    refine comp_list (K := K) (a := SA) (D := D9) (xs := vs) (fun i σ ys H' => (∃ o1 o2, σ = [o1, o2]) ∧ Same H13 H' ∧ H' D9 = some (.lst ys) ∧ ∃ (ns' : List Int) (mr : Nat), ys = ns'.map V.int ∧ ns'.length = i ∧ Szs 3 ((prs.drop i).map (·.2)) mr ∧ ns'.sum + (mr : Int) = (Cn : Int))
      ⟨⟨none, none, rfl⟩, .upd hD9, upd_same, [], Cn, rfl, rfl, sz, by simp⟩ ?_ ?_ ?_
    · rintro i σ ys H' hi ⟨_, S, eD, ns', mr, rfl, ln', _⟩
      exact ⟨SqL.of (S _ _ eS), eD, Nat.lt_of_le_of_lt (show (ns'.map V.int).length ≤ 1000 by rw [List.length_map]; omega) (by decide)⟩
    · rintro i x σ ys H' hx ⟨⟨o1, o2, rfl⟩, S, eD, ns', mr, rfl, ln', szr, esum⟩ N hN
      obtain ⟨d, ed, hxd⟩ := (dS'.same S).get' hx
      obtain ⟨pr, ep, rfl⟩ := map_get ed
      obtain ⟨q, va, vb, rfl, g1, g2, g3⟩ := DatAt.pr (p := (.int pr.1, pr.2)) hxd
      have hi := (List.getElem?_eq_some_iff.mp ep).1
      rw [List.drop_eq_getElem_cons hi, (List.getElem?_eq_some_iff.mp ep).2, List.map_cons] at szr
      obtain ⟨m1', m2', rfl, z1, z2⟩ := szr.un
      refine ⟨q, _, rfl, g1, rfl, _, _, rfl, _, _, rfl, rfl, ?_⟩
      refine iteT (B := True) ?_
      refine ⟨_, rfl, vb, pr.2, m1', rfl, g3, z1, fun J S' => ?_⟩
      have eJ := S' _ _ eD
      refine ⟨eJ, hN _ _ _ ⟨⟨_, _, rfl⟩, fun b o eb => ?_, upd_same, ns' ++ [(m1' : Int)], m2', by rw [List.map_append]; rfl, by rw [List.length_append, ln']; rfl, z2, by rw [List.sum_append]; simp; omega⟩⟩
      rw [upd_ne (ne_of_none eb hD9)]
      exact S' _ _ (S _ _ eb)
    · rintro σ ys H' ⟨_, S, eD, ns', mr, rfl, ln', szr, esum⟩
      rw [List.drop_of_length_le (by omega)] at szr
      cases szr.un0
      refine ⟨D9, ns', rfl, SqL.of eD, _, _, rfl, ?_, k _⟩
      rw [show ns'.sum = (Cn : Int) by omega]
      exact .int _
end
end K22
namespace K22
open PySem L2 FW PyProof.Rows
theorem all_mk {l : PySem.W.OpenLaw} {w : World} {K : PySem.W.Frag} {mg : Str → Option Value} {fa C CO gI gJ gK gS gD gT gL gR : Addr} {f0 f1 f2 f3 f4 f5 f6 f7 f8 f9 f10 f11 f12 f13 f14 f15 f16 f17 f18 f19 f20 f21 f22 f23 : Addr} {d0 d1 d2 d3 d4 d5 d6 d7 d8 d9 d10 d11 d12 d13 d14 d15 d16 d17 d18 d19 d20 d21 d22 d23 : FuncData} {uS uD uF : Value} (hfa : mg "law" = some (.ref fa))
    (A0 : FnAt K mg "law" s_law ["_law_script"] f0 d0)
    (A1 : FnAt K mg "parts_of" s_parts_of ["term"] f1 d1)
    (A2 : FnAt K mg "size" s_size ["one"] f2 d2)
    (A3 : FnAt K mg "check_term" s_check_term ["row", "term", "names", "helpers"] f3 d3)
    (A4 : FnAt K mg "check_names" s_check_names ["program"] f4 d4)
    (A5 : FnAt K mg "check_defs" s_check_defs ["program"] f5 d5)
    (A6 : FnAt K mg "draw_of" s_draw_of ["term"] f6 d6)
    (A7 : FnAt K mg "with_parts" s_with_parts ["term", "parts"] f7 d7)
    (A8 : FnAt K mg "opened" s_opened ["program"] f8 d8)
    (A9 : FnAt K mg "_law_mix" s_law_mix ["_law_cell", "_law_k"] f9 d9)
    (A10 : FnAt K mg "_law_names" s_law_names ["_law_cell"] f10 d10)
    (A11 : FnAt K mg "_law_leaf" s_law_leaf ["_law_cell", "_law_known"] f11 d11)
    (A12 : FnAt K mg "_law_flip" s_law_flip ["_law_cell"] f12 d12)
    (A13 : FnAt K mg "_law_pick" s_law_pick ["_law_cell"] f13 d13)
    (A14 : FnAt K mg "_law_term" s_law_term ["_law_cell", "_law_known", "_law_names_here"] f14 d14)
    (A15 : FnAt K mg "_law_program" s_law_program ["_law_script", "_law_names_here"] f15 d15)
    (A16 : FnAt K mg "_law_parts" s_law_parts ["_law_term_here"] f16 d16)
    (A17 : FnAt K mg "_law_drawn" s_law_drawn ["_law_term_here"] f17 d17)
    (A18 : FnAt K mg "_law_again" s_law_again ["_law_term_here", "_law_parts_here"] f18 d18)
    (A19 : FnAt K mg "_law_opened" s_law_opened ["_law_term_here", "_law_slots", "_law_draws"] f19 d19)
    (A20 : FnAt K mg "_law_due" s_law_due ["_law_program_here"] f20 d20)
    (A21 : FnAt K mg "_law_alike" s_law_alike ["_law_found", "_law_due_here"] f21 d21)
    (A22 : FnAt K mg "_law_size" s_law_size ["_law_term_here"] f22 d22)
    (A23 : FnAt K mg "terms_in" s_terms_in ["one"] f23 d23)
    {odI anI : Option Addr} {slI : Array (Option Value)} {ocI kVI dcI pmI cdI ctI : Value} (lI : K.lookup gI = some ⟨ocI, odI, .func (PySem.W.fnOf "__init__" "Opener.__init__" (defArgs s_Opener_init) (defBody s_Opener_init) (defScope s_Opener_init) .none kVI dcI pmI anI cdI ctI), slI⟩) (cI : PySem.W.codeIn K cdI "Opener.__init__" = true) (kI : PySem.W.keepIn K (.ref gI) = true)
    {odJ anJ : Option Addr} {slJ : Array (Option Value)} {ocJ kVJ dcJ pmJ cdJ ctJ : Value} (lJ : K.lookup gJ = some ⟨ocJ, odJ, .func (PySem.W.fnOf "__init__" "Opened.__init__" (defArgs s_Opened_init) (defBody s_Opened_init) (defScope s_Opened_init) .none kVJ dcJ pmJ anJ cdJ ctJ), slJ⟩) (cJ : PySem.W.codeIn K cdJ "Opened.__init__" = true) (kJ : PySem.W.keepIn K (.ref gJ) = true)
    {odK anK : Option Addr} {slK : Array (Option Value)} {ocK kVK dcK pmK cdK ctK : Value} (lK : K.lookup gK = some ⟨ocK, odK, .func (PySem.W.fnOf "count_term" "Opener.count_term" (defArgs s_Opener_count_term) (defBody s_Opener_count_term) (defScope s_Opener_count_term) .none kVK dcK pmK anK cdK ctK), slK⟩) (cK : PySem.W.codeIn K cdK "Opener.count_term" = true) (kK : PySem.W.keepIn K (.ref gK) = true)
    {odS anS : Option Addr} {slS : Array (Option Value)} {ocS kVS dcS pmS cdS ctS : Value} (lS : K.lookup gS = some ⟨ocS, odS, .func (PySem.W.fnOf "new_slot" "Opener.new_slot" (defArgs s_Opener_new_slot) (defBody s_Opener_new_slot) (defScope s_Opener_new_slot) .none kVS dcS pmS anS cdS ctS), slS⟩) (cS : PySem.W.codeIn K cdS "Opener.new_slot" = true) (kS : PySem.W.keepIn K (.ref gS) = true)
    {odD anD : Option Addr} {slD : Array (Option Value)} {ocD kVD dcD pmD cdD ctD : Value} (lD : K.lookup gD = some ⟨ocD, odD, .func (PySem.W.fnOf "new_draw" "Opener.new_draw" (defArgs s_Opener_new_draw) (defBody s_Opener_new_draw) (defScope s_Opener_new_draw) .none kVD dcD pmD anD cdD ctD), slD⟩) (cD : PySem.W.codeIn K cdD "Opener.new_draw" = true) (kD : PySem.W.keepIn K (.ref gD) = true)
    {odT anT : Option Addr} {slT : Array (Option Value)} {ocT kVT dcT pmT cdT ctT : Value} (lT : K.lookup gT = some ⟨ocT, odT, .func (PySem.W.fnOf "open_term" "Opener.open_term" (defArgs s_Opener_open_term) (defBody s_Opener_open_term) (defScope s_Opener_open_term) .none kVT dcT pmT anT cdT ctT), slT⟩) (cT : PySem.W.codeIn K cdT "Opener.open_term" = true) (kT : PySem.W.keepIn K (.ref gT) = true)
    {odL anL : Option Addr} {slL : Array (Option Value)} {ocL kVL dcL pmL cdL ctL : Value} (lL : K.lookup gL = some ⟨ocL, odL, .func (PySem.W.fnOf "open_let" "Opener.open_let" (defArgs s_Opener_open_let) (defBody s_Opener_open_let) (defScope s_Opener_open_let) .none kVL dcL pmL anL cdL ctL), slL⟩) (cL : PySem.W.codeIn K cdL "Opener.open_let" = true) (kL : PySem.W.keepIn K (.ref gL) = true)
    {odR anR : Option Addr} {slR : Array (Option Value)} {ocR kVR dcR pmR cdR ctR : Value} (lR : K.lookup gR = some ⟨ocR, odR, .func (PySem.W.fnOf "open_row" "Opener.open_row" (defArgs s_Opener_open_row) (defBody s_Opener_open_row) (defScope s_Opener_open_row) .none kVR dcR pmR anR cdR ctR), slR⟩) (cR : PySem.W.codeIn K cdR "Opener.open_row" = true) (kR : PySem.W.keepIn K (.ref gR) = true)
    (MI : Mk K C gI)
    (MJ : Mk K CO gJ)
    (MK : Meth K C "count_term" gK)
    (MS : Meth K C "new_slot" gS)
    (MD : Meth K C "new_draw" gD)
    (MT : Meth K C "open_term" gT)
    (ML : Meth K C "open_let" gL)
    (MR : Meth K C "open_row" gR)
    (hOp : mg "Opener" = some (.ref C))
    (hOd : mg "Opened" = some (.ref CO))
    (T : Txt K mg C uS uD)
    (T2 : Tx2 K mg CO uF)
    (B : Bl mg)
    (Tl : Tl mg)
    (range_ : mg "range" = none)
    (I5 : Isi K CO)
    (hb : ∀ (s : Shared) (v : Value), BindsTo s d0 ⟨[v], []⟩ [("_law_script", v)]) :
    ∃ fd : FuncData, (∀ (s : Shared) (v : Value), BindsTo s fd ⟨[v], []⟩ [("_law_script", v)]) ∧ ∀ base : Heap, K.In base → base.Ns mainGlobals mg → FnOk l.prog w K mg base CX0 14 fa fd ["_law_script"] (sp_law K) := by
  have e := hfa.symm.trans A0.m
  cases e
  have FI := fun_mk (st := s_Opener_init) lI cI kI
  have bI := FI.binds (ps := ["self"]) fun _ _ _ _ _ _ us hl => match us, hl with | [_], _ => rfl
  have FJ := fun_mk (st := s_Opened_init) lJ cJ kJ
  have bJ := FJ.binds (ps := ["self", "steps", "draws", "slots"]) fun _ _ _ _ _ _ us hl => match us, hl with | [_, _, _, _], _ => rfl
  have FK := fun_mk (st := s_Opener_count_term) lK cK kK
  have bK := FK.binds (ps := ["self"]) fun _ _ _ _ _ _ us hl => match us, hl with | [_], _ => rfl
  have FS := fun_mk (st := s_Opener_new_slot) lS cS kS
  have bS := FS.binds (ps := ["self"]) fun _ _ _ _ _ _ us hl => match us, hl with | [_], _ => rfl
  have FD := fun_mk (st := s_Opener_new_draw) lD cD kD
  have bD := FD.binds (ps := ["self", "draw"]) fun _ _ _ _ _ _ us hl => match us, hl with | [_, _], _ => rfl
  have FT := fun_mk (st := s_Opener_open_term) lT cT kT
  have bT := FT.binds (ps := ["self", "term", "names"]) fun _ _ _ _ _ _ us hl => match us, hl with | [_, _, _], _ => rfl
  have FL := fun_mk (st := s_Opener_open_let) lL cL kL
  have bL := FL.binds (ps := ["self", "name", "term"]) fun _ _ _ _ _ _ us hl => match us, hl with | [_, _, _], _ => rfl
  have FR := fun_mk (st := s_Opener_open_row) lR cR kR
  have bR := FR.binds (ps := ["self", "row"]) fun _ _ _ _ _ _ us hl => match us, hl with | [_, _], _ => rfl
  refine ⟨d0, hb, fun base _ _ => ?_⟩
  have Gopen : FnOk l.prog w K mg base CX0 5 gT _ ["self", "term", "names"] (sp_open K C 3) := ok_open FT bT MT MK FK bK MD FD bD A6 A1 A7 T B 3
  have Glet : FnOk l.prog w K mg base CX0 6 gL _ ["self", "name", "term"] (sp_let K C 3) := ok_let FL MT Gopen bT MS FS bS T
  have Grow : FnOk l.prog w K mg base CX0 7 gR _ ["self", "row"] (sp_row K C 3) := ok_row FR ML Glet bL MT Gopen bT MS FS bS T range_
  have Gop := ok_opened (P := l.prog) (w := w) (base := base) A8 A4 (ok_check_names (h := 3) A4 A3 A1 B T2) A5 (ok_check_defs A5 T2) MI (ok_init FI T) bI MR Grow bR MJ (ok_oinit FJ T2) bJ hOp hOd T
  exact ok_law0 A0 A10 (ok_law_names A10 Tl) A9 (ok_law_mix A9) A15 (ok_law_program A15 A14 A11 A9 A12 A13 A17 A16 Tl) A20 (ok_law_due A20 A19 A16 A18 Tl) A8 Gop A21 (ok_law_alike A21 Tl 12) A1 (ok_parts_of A1 B) A16 (ok_law_parts A16 Tl) A2 (ok_size A2 A23 A1 B T2) A22 (ok_law_size A22 A16 Tl 3) hOd I5 Tl T2
theorem walk {l : PySem.W.OpenLaw} {q : Program} {loose : List Str} {XP : (Str → Option Value) → Heap → Prop} {YP : World → Heap → Prop} {d : DefRec} {K : Params → PySem.W.Frag} (hn : l.most = some 63) (hdf : d.params.defaults = [])
    (hY : ∀ (w : World) (h : Heap), YP w h → (K w.params).In h)
    (F : ∀ (w : World) (mg : Str → Option Value) (fa : Addr) (h : Heap), (K w.params).In h → h.Ns mainGlobals mg → mg d.name = some (.ref fa) →
      ∃ fd : FuncData, (∀ (s : Shared) (u : Value), BindsTo s fd ⟨[u], []⟩ [("_law_script", u)]) ∧ ∀ base : Heap, (K w.params).In base → base.Ns mainGlobals mg → FnOk l.prog w (K w.params) mg base CX0 14 fa fd ["_law_script"] (sp_law (K w.params))) :
    PySem.W.WalkO q loose XP YP l.row.toRowW d [] (fun f vs => PySem.call f vs) :=
  L2.walk_ofB (n := 63) (k := 14) (x := "_law_script") (CX := fun _ => CX0) (sp := fun w => sp_law (K w.params)) hn (by decide) hdf ⟨rfl, by decide, by decide⟩ hY F (fun _ _ a ns hl hb _ hS => ⟨a, ns, rfl, hS, hl, hb, fun _ => rfl⟩) fun _ _ _ _ _ z => z
noncomputable def KF : Params → PySem.W.Frag := fun P =>
 (nat_lit 2, ⟨.none, none, (.dict #[] 0), #[]⟩) ::
 (nat_lit 3, ⟨(.type "dict"), none, (.dict #[⟨PyData.keyHash P "__name__", (.str "__name__" 165), (.str "law_flipwright_k22_rows_opened" 461)⟩, ⟨PyData.keyHash P "__doc__", (.str "__doc__" 166), .none⟩, ⟨PyData.keyHash P "__package__", (.str "__package__" 167), .none⟩, ⟨PyData.keyHash P "__loader__", (.str "__loader__" 168), (.builtin "__main__.__loader__#opaque")⟩, ⟨PyData.keyHash P "__spec__", (.str "__spec__" 169), .none⟩, ⟨PyData.keyHash P "__annotations__", (.str "__annotations__" 170), (.ref 6)⟩, ⟨PyData.keyHash P "__builtins__", (.str "__builtins__" 171), (.ref 4)⟩, ⟨PyData.keyHash P "__file__", (.str "__file__" 173), (.str "/claim/cut.py" 172)⟩, ⟨PyData.keyHash P "__cached__", (.str "__cached__" 174), .none⟩, ⟨PyData.keyHash P "FlipError", (.str "FlipError" 206), (.ref 24)⟩, ⟨PyData.keyHash P "NoName", (.str "NoName" 231), (.ref 44)⟩, ⟨PyData.keyHash P "TooMuch", (.str "TooMuch" 247), (.ref 56)⟩, ⟨PyData.keyHash P "MOST_DEFS", (.str "MOST_DEFS" 251), (.int 3 250)⟩, ⟨PyData.keyHash P "MOST_DRAWS", (.str "MOST_DRAWS" 253), (.int 60 252)⟩, ⟨PyData.keyHash P "MOST_SIZE", (.str "MOST_SIZE" 255), (.int 600 254)⟩, ⟨PyData.keyHash P "Opened", (.str "Opened" 284), (.ref 73)⟩, ⟨PyData.keyHash P "parts_of", (.str "parts_of" 290), (.ref 82)⟩, ⟨PyData.keyHash P "terms_in", (.str "terms_in" 296), (.ref 87)⟩, ⟨PyData.keyHash P "size", (.str "size" 303), (.ref 94)⟩, ⟨PyData.keyHash P "check_term", (.str "check_term" 315), (.ref 101)⟩, ⟨PyData.keyHash P "check_names", (.str "check_names" 327), (.ref 108)⟩, ⟨PyData.keyHash P "check_defs", (.str "check_defs" 333), (.ref 113)⟩, ⟨PyData.keyHash P "draw_of", (.str "draw_of" 340), (.ref 120)⟩, ⟨PyData.keyHash P "with_parts", (.str "with_parts" 346), (.ref 125)⟩, ⟨PyData.keyHash P "Opener", (.str "Opener" 451), (.ref 191)⟩, ⟨PyData.keyHash P "opened", (.str "opened" 460), (.ref 202)⟩, ⟨PyData.keyHash P "_law_mix", (.str "_law_mix" 471), (.ref 209)⟩, ⟨PyData.keyHash P "_law_names", (.str "_law_names" 486), (.ref 216)⟩, ⟨PyData.keyHash P "_law_leaf", (.str "_law_leaf" 494), (.ref 223)⟩, ⟨PyData.keyHash P "_law_flip", (.str "_law_flip" 502), (.ref 230)⟩, ⟨PyData.keyHash P "_law_pick", (.str "_law_pick" 511), (.ref 237)⟩, ⟨PyData.keyHash P "_law_term", (.str "_law_term" 525), (.ref 244)⟩, ⟨PyData.keyHash P "_law_program", (.str "_law_program" 542), (.ref 251)⟩, ⟨PyData.keyHash P "_law_parts", (.str "_law_parts" 548), (.ref 256)⟩, ⟨PyData.keyHash P "_law_drawn", (.str "_law_drawn" 557), (.ref 263)⟩, ⟨PyData.keyHash P "_law_again", (.str "_law_again" 563), (.ref 268)⟩, ⟨PyData.keyHash P "_law_opened", (.str "_law_opened" 569), (.ref 273)⟩, ⟨PyData.keyHash P "_law_due", (.str "_law_due" 584), (.ref 280)⟩, ⟨PyData.keyHash P "_law_alike", (.str "_law_alike" 593), (.ref 287)⟩, ⟨PyData.keyHash P "_law_size", (.str "_law_size" 602), (.ref 294)⟩, ⟨PyData.keyHash P "law", (.str "law" 608), (.ref 299)⟩] 41), #[]⟩) ::
 (nat_lit 15, ⟨(.type "tuple"), none, (.seq #[(.type "ValueError")] 0), #[]⟩) ::
 (nat_lit 22, ⟨(.type "tuple"), none, (.seq #[] 0), #[]⟩) ::
 (nat_lit 23, ⟨(.type "dict"), none, (.dict #[⟨PyData.keyHash P "__module__", (.str "__module__" 196), (.str "flipwright.errors" 187)⟩, ⟨PyData.keyHash P "__firstlineno__", (.str "__firstlineno__" 200), (.int 2 199)⟩, ⟨PyData.keyHash P "__static_attributes__", (.str "__static_attributes__" 201), (.ref 22)⟩, ⟨PyData.keyHash P "__weakref__", (.str "__weakref__" 203), (.ref 25)⟩, ⟨PyData.keyHash P "__doc__", (.str "__doc__" 204), .none⟩] 3), #[]⟩) ::
 (nat_lit 24, ⟨(.type "type"), none, (.cls (.mk "FlipError" [(.type "ValueError")] [(.ref 24), (.type "ValueError"), (.type "Exception"), (.type "BaseException"), (.type "object")] 23 "FlipError" true [] [(.ref 44), (.ref 56)] false none false)), #[(some (.ref 15)), none, (some (.str "FlipError" 189)), (some (.str "FlipError" 197)), (some (.builtin "ValueError.__new__")), (some (.bool true))]⟩) ::
 (nat_lit 25, ⟨(.type "getset_descriptor"), none, (.fields #[(.str "__weakref__" 202), (.ref 24), (.builtin "ExceptionGroup.__weakref__"), .none]), #[]⟩) ::
 (nat_lit 28, ⟨(.type "tuple"), none, (.seq #[(.ref 24)] 0), #[]⟩) ::
 (nat_lit 35, ⟨(.type "tuple"), none, (.seq #[] 0), #[]⟩) ::
 (nat_lit 37, ⟨(.type "tuple"), none, (.seq #[(.str "self" 222), (.str "row" 223)] 0), #[]⟩) ::
 (nat_lit 38, ⟨(.type "tuple"), none, (.seq #[] 0), #[]⟩) ::
 (nat_lit 40, ⟨(.type "code"), none, (.fields #[(.str "__init__" 219), (.str "NoName.__init__" 220), (.str "/claim/cut.py" 221), (.int 6 0), (.int 2 0), (.int 0 0), (.int 0 0), (.int 3 0), (.ref 35), (.bool true), (.int 181 0), (.ref 36), .none, (.ref 37), (.ref 38), (.ref 39), (.int 224 0), (.int 6 0), (.str "/claim/cut.py" 225)]), #[]⟩) ::
 (nat_lit 41, ⟨(.type "function"), none, (.func ⟨"__init__", "NoName.__init__", defArgs s_NoName_init, .stmts (defBody s_NoName_init), defScope s_NoName_init, 3, [], .none, .none, .none, (.str "flipwright.errors" 187), none, (.ref 40), .none, 0⟩), #[]⟩) ::
 (nat_lit 42, ⟨(.type "tuple"), none, (.seq #[(.str "row" 227)] 0), #[]⟩) ::
 (nat_lit 43, ⟨(.type "dict"), none, (.dict #[⟨PyData.keyHash P "__module__", (.str "__module__" 214), (.str "flipwright.errors" 187)⟩, ⟨PyData.keyHash P "__firstlineno__", (.str "__firstlineno__" 218), (.int 4 217)⟩, ⟨PyData.keyHash P "__init__", (.str "__init__" 226), (.ref 41)⟩, ⟨PyData.keyHash P "__static_attributes__", (.str "__static_attributes__" 228), (.ref 42)⟩, ⟨PyData.keyHash P "__doc__", (.str "__doc__" 229), .none⟩] 2), #[]⟩) ::
 (nat_lit 44, ⟨(.type "type"), none, (.cls (.mk "NoName" [(.ref 24)] [(.ref 44), (.ref 24), (.type "ValueError"), (.type "Exception"), (.type "BaseException"), (.type "object")] 43 "NoName" true [] [] false none false)), #[(some (.ref 28)), none, (some (.str "NoName" 207)), (some (.str "NoName" 215)), (some (.builtin "ValueError.__new__")), (some (.bool true))]⟩) ::
 (nat_lit 47, ⟨(.type "tuple"), none, (.seq #[(.ref 24)] 0), #[]⟩) ::
 (nat_lit 54, ⟨(.type "tuple"), none, (.seq #[] 0), #[]⟩) ::
 (nat_lit 55, ⟨(.type "dict"), none, (.dict #[⟨PyData.keyHash P "__module__", (.str "__module__" 239), (.str "flipwright.errors" 187)⟩, ⟨PyData.keyHash P "__firstlineno__", (.str "__firstlineno__" 243), (.int 8 242)⟩, ⟨PyData.keyHash P "__static_attributes__", (.str "__static_attributes__" 244), (.ref 54)⟩, ⟨PyData.keyHash P "__doc__", (.str "__doc__" 245), .none⟩] 2), #[]⟩) ::
 (nat_lit 56, ⟨(.type "type"), none, (.cls (.mk "TooMuch" [(.ref 24)] [(.ref 56), (.ref 24), (.type "ValueError"), (.type "Exception"), (.type "BaseException"), (.type "object")] 55 "TooMuch" true [] [] false none false)), #[(some (.ref 47)), none, (some (.str "TooMuch" 232)), (some (.str "TooMuch" 240)), (some (.builtin "ValueError.__new__")), (some (.bool true))]⟩) ::
 (nat_lit 66, ⟨(.type "tuple"), none, (.seq #[] 0), #[]⟩) ::
 (nat_lit 69, ⟨(.type "code"), none, (.fields #[(.str "__init__" 268), (.str "Opened.__init__" 269), (.str "/claim/cut.py" 270), (.int 16 0), (.int 4 0), (.int 0 0), (.int 0 0), (.int 3 0), (.ref 66), (.bool true), (.int 181 0), (.ref 67), .none, .none, .none, (.ref 68), (.int 271 0), (.int 16 0), (.str "/claim/cut.py" 272)]), #[]⟩) ::
 (nat_lit 70, ⟨(.type "function"), none, (.func ⟨"__init__", "Opened.__init__", defArgs s_Opened_init, .stmts (defBody s_Opened_init), defScope s_Opened_init, 3, [], .none, .none, .none, (.str "flipwright.opening" 248), none, (.ref 69), .none, 0⟩), #[]⟩) ::
 (nat_lit 71, ⟨(.type "tuple"), none, (.seq #[(.str "draws" 274), (.str "slots" 275), (.str "steps" 276)] 0), #[]⟩) ::
 (nat_lit 72, ⟨(.type "dict"), none, (.dict #[⟨PyData.keyHash P "__module__", (.str "__module__" 263), (.str "flipwright.opening" 248)⟩, ⟨PyData.keyHash P "__firstlineno__", (.str "__firstlineno__" 267), (.int 14 266)⟩, ⟨PyData.keyHash P "__init__", (.str "__init__" 273), (.ref 70)⟩, ⟨PyData.keyHash P "__static_attributes__", (.str "__static_attributes__" 277), (.ref 71)⟩, ⟨PyData.keyHash P "__dict__", (.str "__dict__" 279), (.ref 74)⟩, ⟨PyData.keyHash P "__weakref__", (.str "__weakref__" 281), (.ref 75)⟩, ⟨PyData.keyHash P "__doc__", (.str "__doc__" 282), .none⟩] 4), #[]⟩) ::
 (nat_lit 73, ⟨(.type "type"), none, (.cls (.mk "Opened" [(.type "object")] [(.ref 73), (.type "object")] 72 "Opened" true [] [] false none false)), #[none, none, (some (.str "Opened" 256)), (some (.str "Opened" 264)), (some (.builtin "object.__new__")), (some (.bool true))]⟩) ::
 (nat_lit 74, ⟨(.type "getset_descriptor"), none, (.fields #[(.str "__dict__" 278), (.ref 73), (.builtin "function.__dict__"), (.builtin "function.__dict__#set")]), #[]⟩) ::
 (nat_lit 75, ⟨(.type "getset_descriptor"), none, (.fields #[(.str "__weakref__" 280), (.ref 73), (.builtin "ExceptionGroup.__weakref__"), .none]), #[]⟩) ::
 (nat_lit 78, ⟨(.type "tuple"), none, (.seq #[] 0), #[]⟩) ::
 (nat_lit 81, ⟨(.type "code"), none, (.fields #[(.str "parts_of" 285), (.str "parts_of" 286), (.str "/claim/cut.py" 287), (.int 20 0), (.int 1 0), (.int 0 0), (.int 0 0), (.int 3 0), (.ref 78), (.bool true), (.int 181 0), (.ref 79), .none, .none, .none, (.ref 80), (.int 288 0), (.int 20 0), (.str "/claim/cut.py" 289)]), #[]⟩) ::
 (nat_lit 82, ⟨(.type "function"), none, (.func ⟨"parts_of", "parts_of", defArgs s_parts_of, .stmts (defBody s_parts_of), defScope s_parts_of, 3, [], .none, .none, .none, (.str "flipwright.opening" 248), none, (.ref 81), .none, 0⟩), #[]⟩) ::
 (nat_lit 83, ⟨(.type "tuple"), none, (.seq #[] 0), #[]⟩) ::
 (nat_lit 86, ⟨(.type "code"), none, (.fields #[(.str "terms_in" 291), (.str "terms_in" 292), (.str "/claim/cut.py" 293), (.int 33 0), (.int 1 0), (.int 0 0), (.int 0 0), (.int 3 0), (.ref 83), (.bool true), (.int 181 0), (.ref 84), .none, .none, .none, (.ref 85), (.int 294 0), (.int 33 0), (.str "/claim/cut.py" 295)]), #[]⟩) ::
 (nat_lit 87, ⟨(.type "function"), none, (.func ⟨"terms_in", "terms_in", defArgs s_terms_in, .stmts (defBody s_terms_in), defScope s_terms_in, 3, [], .none, .none, .none, (.str "flipwright.opening" 248), none, (.ref 86), .none, 0⟩), #[]⟩) ::
 (nat_lit 88, ⟨(.type "tuple"), none, (.seq #[] 0), #[]⟩) ::
 (nat_lit 90, ⟨(.type "tuple"), none, (.seq #[(.str "one" 300)] 0), #[]⟩) ::
 (nat_lit 91, ⟨(.type "tuple"), none, (.seq #[] 0), #[]⟩) ::
 (nat_lit 93, ⟨(.type "code"), none, (.fields #[(.str "size" 297), (.str "size" 298), (.str "/claim/cut.py" 299), (.int 41 0), (.int 1 0), (.int 0 0), (.int 0 0), (.int 3 0), (.ref 88), (.bool true), (.int 181 0), (.ref 89), .none, (.ref 90), (.ref 91), (.ref 92), (.int 301 0), (.int 41 0), (.str "/claim/cut.py" 302)]), #[]⟩) ::
 (nat_lit 94, ⟨(.type "function"), none, (.func ⟨"size", "size", defArgs s_size, .stmts (defBody s_size), defScope s_size, 3, [], .none, .none, .none, (.str "flipwright.opening" 248), none, (.ref 93), .none, 0⟩), #[]⟩) ::
 (nat_lit 95, ⟨(.type "tuple"), none, (.seq #[] 0), #[]⟩) ::
 (nat_lit 97, ⟨(.type "tuple"), none, (.seq #[(.str "row" 307), (.str "term" 308), (.str "names" 309), (.str "helpers" 310), (.str "kind" 311), (.str "part" 312)] 0), #[]⟩) ::
 (nat_lit 98, ⟨(.type "tuple"), none, (.seq #[] 0), #[]⟩) ::
 (nat_lit 100, ⟨(.type "code"), none, (.fields #[(.str "check_term" 304), (.str "check_term" 305), (.str "/claim/cut.py" 306), (.int 43 0), (.int 4 0), (.int 0 0), (.int 0 0), (.int 3 0), (.ref 95), (.bool true), (.int 181 0), (.ref 96), .none, (.ref 97), (.ref 98), (.ref 99), (.int 313 0), (.int 43 0), (.str "/claim/cut.py" 314)]), #[]⟩) ::
 (nat_lit 101, ⟨(.type "function"), none, (.func ⟨"check_term", "check_term", defArgs s_check_term, .stmts (defBody s_check_term), defScope s_check_term, 3, [], .none, .none, .none, (.str "flipwright.opening" 248), none, (.ref 100), .none, 0⟩), #[]⟩) ::
 (nat_lit 102, ⟨(.type "tuple"), none, (.seq #[] 0), #[]⟩) ::
 (nat_lit 104, ⟨(.type "tuple"), none, (.seq #[(.str "program" 319), (.str "names" 320), (.str "helpers" 321), (.str "number" 322), (.str "row" 323), (.str "kind" 324)] 0), #[]⟩) ::
 (nat_lit 105, ⟨(.type "tuple"), none, (.seq #[] 0), #[]⟩) ::
 (nat_lit 107, ⟨(.type "code"), none, (.fields #[(.str "check_names" 316), (.str "check_names" 317), (.str "/claim/cut.py" 318), (.int 51 0), (.int 1 0), (.int 0 0), (.int 0 0), (.int 3 0), (.ref 102), (.bool true), (.int 181 0), (.ref 103), .none, (.ref 104), (.ref 105), (.ref 106), (.int 325 0), (.int 51 0), (.str "/claim/cut.py" 326)]), #[]⟩) ::
 (nat_lit 108, ⟨(.type "function"), none, (.func ⟨"check_names", "check_names", defArgs s_check_names, .stmts (defBody s_check_names), defScope s_check_names, 3, [], .none, .none, .none, (.str "flipwright.opening" 248), none, (.ref 107), .none, 0⟩), #[]⟩) ::
 (nat_lit 109, ⟨(.type "tuple"), none, (.seq #[] 0), #[]⟩) ::
 (nat_lit 112, ⟨(.type "code"), none, (.fields #[(.str "check_defs" 328), (.str "check_defs" 329), (.str "/claim/cut.py" 330), (.int 67 0), (.int 1 0), (.int 0 0), (.int 0 0), (.int 3 0), (.ref 109), (.bool true), (.int 181 0), (.ref 110), .none, .none, .none, (.ref 111), (.int 331 0), (.int 67 0), (.str "/claim/cut.py" 332)]), #[]⟩) ::
 (nat_lit 113, ⟨(.type "function"), none, (.func ⟨"check_defs", "check_defs", defArgs s_check_defs, .stmts (defBody s_check_defs), defScope s_check_defs, 3, [], .none, .none, .none, (.str "flipwright.opening" 248), none, (.ref 112), .none, 0⟩), #[]⟩) ::
 (nat_lit 114, ⟨(.type "tuple"), none, (.seq #[] 0), #[]⟩) ::
 (nat_lit 116, ⟨(.type "tuple"), none, (.seq #[(.str "term" 337)] 0), #[]⟩) ::
 (nat_lit 117, ⟨(.type "tuple"), none, (.seq #[] 0), #[]⟩) ::
 (nat_lit 119, ⟨(.type "code"), none, (.fields #[(.str "draw_of" 334), (.str "draw_of" 335), (.str "/claim/cut.py" 336), (.int 70 0), (.int 1 0), (.int 0 0), (.int 0 0), (.int 3 0), (.ref 114), (.bool true), (.int 181 0), (.ref 115), .none, (.ref 116), (.ref 117), (.ref 118), (.int 338 0), (.int 70 0), (.str "/claim/cut.py" 339)]), #[]⟩) ::
 (nat_lit 120, ⟨(.type "function"), none, (.func ⟨"draw_of", "draw_of", defArgs s_draw_of, .stmts (defBody s_draw_of), defScope s_draw_of, 3, [], .none, .none, .none, (.str "flipwright.opening" 248), none, (.ref 119), .none, 0⟩), #[]⟩) ::
 (nat_lit 121, ⟨(.type "tuple"), none, (.seq #[] 0), #[]⟩) ::
 (nat_lit 124, ⟨(.type "code"), none, (.fields #[(.str "with_parts" 341), (.str "with_parts" 342), (.str "/claim/cut.py" 343), (.int 74 0), (.int 2 0), (.int 0 0), (.int 0 0), (.int 3 0), (.ref 121), (.bool true), (.int 181 0), (.ref 122), .none, .none, .none, (.ref 123), (.int 344 0), (.int 74 0), (.str "/claim/cut.py" 345)]), #[]⟩) ::
 (nat_lit 125, ⟨(.type "function"), none, (.func ⟨"with_parts", "with_parts", defArgs s_with_parts, .stmts (defBody s_with_parts), defScope s_with_parts, 3, [], .none, .none, .none, (.str "flipwright.opening" 248), none, (.ref 124), .none, 0⟩), #[]⟩) ::
 (nat_lit 133, ⟨(.type "tuple"), none, (.seq #[] 0), #[]⟩) ::
 (nat_lit 135, ⟨(.type "tuple"), none, (.seq #[(.str "self" 362)] 0), #[]⟩) ::
 (nat_lit 136, ⟨(.type "tuple"), none, (.seq #[] 0), #[]⟩) ::
 (nat_lit 138, ⟨(.type "code"), none, (.fields #[(.str "__init__" 359), (.str "Opener.__init__" 360), (.str "/claim/cut.py" 361), (.int 85 0), (.int 1 0), (.int 0 0), (.int 0 0), (.int 3 0), (.ref 133), (.bool true), (.int 181 0), (.ref 134), .none, (.ref 135), (.ref 136), (.ref 137), (.int 363 0), (.int 85 0), (.str "/claim/cut.py" 364)]), #[]⟩) ::
 (nat_lit 139, ⟨(.type "function"), none, (.func ⟨"__init__", "Opener.__init__", defArgs s_Opener_init, .stmts (defBody s_Opener_init), defScope s_Opener_init, 3, [], .none, .none, .none, (.str "flipwright.opening" 248), none, (.ref 138), .none, 0⟩), #[]⟩) ::
 (nat_lit 140, ⟨(.type "tuple"), none, (.seq #[] 0), #[]⟩) ::
 (nat_lit 142, ⟨(.type "tuple"), none, (.seq #[(.str "self" 369)] 0), #[]⟩) ::
 (nat_lit 143, ⟨(.type "tuple"), none, (.seq #[] 0), #[]⟩) ::
 (nat_lit 145, ⟨(.type "code"), none, (.fields #[(.str "count_term" 366), (.str "Opener.count_term" 367), (.str "/claim/cut.py" 368), (.int 93 0), (.int 1 0), (.int 0 0), (.int 0 0), (.int 3 0), (.ref 140), (.bool true), (.int 181 0), (.ref 141), .none, (.ref 142), (.ref 143), (.ref 144), (.int 370 0), (.int 93 0), (.str "/claim/cut.py" 371)]), #[]⟩) ::
 (nat_lit 146, ⟨(.type "function"), none, (.func ⟨"count_term", "Opener.count_term", defArgs s_Opener_count_term, .stmts (defBody s_Opener_count_term), defScope s_Opener_count_term, 3, [], .none, .none, .none, (.str "flipwright.opening" 248), none, (.ref 145), .none, 0⟩), #[]⟩) ::
 (nat_lit 147, ⟨(.type "tuple"), none, (.seq #[] 0), #[]⟩) ::
 (nat_lit 149, ⟨(.type "tuple"), none, (.seq #[(.str "self" 376)] 0), #[]⟩) ::
 (nat_lit 150, ⟨(.type "tuple"), none, (.seq #[] 0), #[]⟩) ::
 (nat_lit 152, ⟨(.type "code"), none, (.fields #[(.str "new_slot" 373), (.str "Opener.new_slot" 374), (.str "/claim/cut.py" 375), (.int 98 0), (.int 1 0), (.int 0 0), (.int 0 0), (.int 3 0), (.ref 147), (.bool true), (.int 181 0), (.ref 148), .none, (.ref 149), (.ref 150), (.ref 151), (.int 377 0), (.int 98 0), (.str "/claim/cut.py" 378)]), #[]⟩) ::
 (nat_lit 153, ⟨(.type "function"), none, (.func ⟨"new_slot", "Opener.new_slot", defArgs s_Opener_new_slot, .stmts (defBody s_Opener_new_slot), defScope s_Opener_new_slot, 3, [], .none, .none, .none, (.str "flipwright.opening" 248), none, (.ref 152), .none, 0⟩), #[]⟩) ::
 (nat_lit 154, ⟨(.type "tuple"), none, (.seq #[] 0), #[]⟩) ::
 (nat_lit 156, ⟨(.type "tuple"), none, (.seq #[(.str "self" 383), (.str "draw" 384)] 0), #[]⟩) ::
 (nat_lit 157, ⟨(.type "tuple"), none, (.seq #[] 0), #[]⟩) ::
 (nat_lit 159, ⟨(.type "code"), none, (.fields #[(.str "new_draw" 380), (.str "Opener.new_draw" 381), (.str "/claim/cut.py" 382), (.int 102 0), (.int 2 0), (.int 0 0), (.int 0 0), (.int 3 0), (.ref 154), (.bool true), (.int 181 0), (.ref 155), .none, (.ref 156), (.ref 157), (.ref 158), (.int 385 0), (.int 102 0), (.str "/claim/cut.py" 386)]), #[]⟩) ::
 (nat_lit 160, ⟨(.type "function"), none, (.func ⟨"new_draw", "Opener.new_draw", defArgs s_Opener_new_draw, .stmts (defBody s_Opener_new_draw), defScope s_Opener_new_draw, 3, [], .none, .none, .none, (.str "flipwright.opening" 248), none, (.ref 159), .none, 0⟩), #[]⟩) ::
 (nat_lit 161, ⟨(.type "tuple"), none, (.seq #[] 0), #[]⟩) ::
 (nat_lit 163, ⟨(.type "tuple"), none, (.seq #[(.str "self" 391), (.str "term" 392), (.str "names" 393), (.str "kind" 394), (.str "parts" 395), (.str "part" 396)] 0), #[]⟩) ::
 (nat_lit 164, ⟨(.type "tuple"), none, (.seq #[] 0), #[]⟩) ::
 (nat_lit 166, ⟨(.type "code"), none, (.fields #[(.str "open_term" 388), (.str "Opener.open_term" 389), (.str "/claim/cut.py" 390), (.int 108 0), (.int 3 0), (.int 0 0), (.int 0 0), (.int 3 0), (.ref 161), (.bool true), (.int 181 0), (.ref 162), .none, (.ref 163), (.ref 164), (.ref 165), (.int 397 0), (.int 108 0), (.str "/claim/cut.py" 398)]), #[]⟩) ::
 (nat_lit 167, ⟨(.type "function"), none, (.func ⟨"open_term", "Opener.open_term", defArgs s_Opener_open_term, .stmts (defBody s_Opener_open_term), defScope s_Opener_open_term, 3, [], .none, .none, .none, (.str "flipwright.opening" 248), none, (.ref 166), .none, 0⟩), #[]⟩) ::
 (nat_lit 168, ⟨(.type "tuple"), none, (.seq #[] 0), #[]⟩) ::
 (nat_lit 170, ⟨(.type "tuple"), none, (.seq #[(.str "self" 403), (.str "term" 404), (.str "names" 405), (.str "helper" 406), (.str "own_names" 407), (.str "binds" 408), (.str "name" 409), (.str "part" 410), (.str "inner" 411), (.str "whole" 412), (.str "slot" 413)] 0), #[]⟩) ::
 (nat_lit 171, ⟨(.type "tuple"), none, (.seq #[] 0), #[]⟩) ::
 (nat_lit 173, ⟨(.type "code"), none, (.fields #[(.str "open_call" 400), (.str "Opener.open_call" 401), (.str "/claim/cut.py" 402), (.int 124 0), (.int 3 0), (.int 0 0), (.int 0 0), (.int 3 0), (.ref 168), (.bool true), (.int 181 0), (.ref 169), .none, (.ref 170), (.ref 171), (.ref 172), (.int 414 0), (.int 124 0), (.str "/claim/cut.py" 415)]), #[]⟩) ::
 (nat_lit 174, ⟨(.type "function"), none, (.func ⟨"open_call", "Opener.open_call", defArgs s_Opener_open_call, .stmts (defBody s_Opener_open_call), defScope s_Opener_open_call, 3, [], .none, .none, .none, (.str "flipwright.opening" 248), none, (.ref 173), .none, 0⟩), #[]⟩) ::
 (nat_lit 175, ⟨(.type "tuple"), none, (.seq #[] 0), #[]⟩) ::
 (nat_lit 177, ⟨(.type "tuple"), none, (.seq #[(.str "self" 420), (.str "name" 421), (.str "term" 422), (.str "inner" 423)] 0), #[]⟩) ::
 (nat_lit 178, ⟨(.type "tuple"), none, (.seq #[] 0), #[]⟩) ::
 (nat_lit 180, ⟨(.type "code"), none, (.fields #[(.str "open_let" 417), (.str "Opener.open_let" 418), (.str "/claim/cut.py" 419), (.int 138 0), (.int 3 0), (.int 0 0), (.int 0 0), (.int 3 0), (.ref 175), (.bool true), (.int 181 0), (.ref 176), .none, (.ref 177), (.ref 178), (.ref 179), (.int 424 0), (.int 138 0), (.str "/claim/cut.py" 425)]), #[]⟩) ::
 (nat_lit 181, ⟨(.type "function"), none, (.func ⟨"open_let", "Opener.open_let", defArgs s_Opener_open_let, .stmts (defBody s_Opener_open_let), defScope s_Opener_open_let, 3, [], .none, .none, .none, (.str "flipwright.opening" 248), none, (.ref 180), .none, 0⟩), #[]⟩) ::
 (nat_lit 182, ⟨(.type "tuple"), none, (.seq #[] 0), #[]⟩) ::
 (nat_lit 184, ⟨(.type "tuple"), none, (.seq #[(.str "self" 430), (.str "row" 431), (.str "kind" 432), (.str "turn" 433), (.str "inner" 434)] 0), #[]⟩) ::
 (nat_lit 185, ⟨(.type "tuple"), none, (.seq #[] 0), #[]⟩) ::
 (nat_lit 187, ⟨(.type "code"), none, (.fields #[(.str "open_row" 427), (.str "Opener.open_row" 428), (.str "/claim/cut.py" 429), (.int 143 0), (.int 2 0), (.int 0 0), (.int 0 0), (.int 3 0), (.ref 182), (.bool true), (.int 181 0), (.ref 183), .none, (.ref 184), (.ref 185), (.ref 186), (.int 435 0), (.int 143 0), (.str "/claim/cut.py" 436)]), #[]⟩) ::
 (nat_lit 188, ⟨(.type "function"), none, (.func ⟨"open_row", "Opener.open_row", defArgs s_Opener_open_row, .stmts (defBody s_Opener_open_row), defScope s_Opener_open_row, 3, [], .none, .none, .none, (.str "flipwright.opening" 248), none, (.ref 187), .none, 0⟩), #[]⟩) ::
 (nat_lit 189, ⟨(.type "tuple"), none, (.seq #[(.str "draws" 438), (.str "helpers" 439), (.str "names" 440), (.str "slots" 441), (.str "steps" 442), (.str "terms" 443)] 0), #[]⟩) ::
 (nat_lit 190, ⟨(.type "dict"), none, (.dict #[⟨PyData.keyHash P "__module__", (.str "__module__" 354), (.str "flipwright.opening" 248)⟩, ⟨PyData.keyHash P "__firstlineno__", (.str "__firstlineno__" 358), (.int 83 357)⟩, ⟨PyData.keyHash P "__init__", (.str "__init__" 365), (.ref 139)⟩, ⟨PyData.keyHash P "count_term", (.str "count_term" 372), (.ref 146)⟩, ⟨PyData.keyHash P "new_slot", (.str "new_slot" 379), (.ref 153)⟩, ⟨PyData.keyHash P "new_draw", (.str "new_draw" 387), (.ref 160)⟩, ⟨PyData.keyHash P "open_term", (.str "open_term" 399), (.ref 167)⟩, ⟨PyData.keyHash P "open_call", (.str "open_call" 416), (.ref 174)⟩, ⟨PyData.keyHash P "open_let", (.str "open_let" 426), (.ref 181)⟩, ⟨PyData.keyHash P "open_row", (.str "open_row" 437), (.ref 188)⟩, ⟨PyData.keyHash P "__static_attributes__", (.str "__static_attributes__" 444), (.ref 189)⟩, ⟨PyData.keyHash P "__dict__", (.str "__dict__" 446), (.ref 192)⟩, ⟨PyData.keyHash P "__weakref__", (.str "__weakref__" 448), (.ref 193)⟩, ⟨PyData.keyHash P "__doc__", (.str "__doc__" 449), .none⟩] 4), #[]⟩) ::
 (nat_lit 191, ⟨(.type "type"), none, (.cls (.mk "Opener" [(.type "object")] [(.ref 191), (.type "object")] 190 "Opener" true [] [] false none false)), #[none, none, (some (.str "Opener" 347)), (some (.str "Opener" 355)), (some (.builtin "object.__new__")), (some (.bool true))]⟩) ::
 (nat_lit 192, ⟨(.type "getset_descriptor"), none, (.fields #[(.str "__dict__" 445), (.ref 191), (.builtin "function.__dict__"), (.builtin "function.__dict__#set")]), #[]⟩) ::
 (nat_lit 193, ⟨(.type "getset_descriptor"), none, (.fields #[(.str "__weakref__" 447), (.ref 191), (.builtin "ExceptionGroup.__weakref__"), .none]), #[]⟩) ::
 (nat_lit 196, ⟨(.type "tuple"), none, (.seq #[] 0), #[]⟩) ::
 (nat_lit 198, ⟨(.type "tuple"), none, (.seq #[(.str "program" 455), (.str "opener" 456), (.str "row" 457)] 0), #[]⟩) ::
 (nat_lit 199, ⟨(.type "tuple"), none, (.seq #[] 0), #[]⟩) ::
 (nat_lit 201, ⟨(.type "code"), none, (.fields #[(.str "opened" 452), (.str "opened" 453), (.str "/claim/cut.py" 454), (.int 157 0), (.int 1 0), (.int 0 0), (.int 0 0), (.int 3 0), (.ref 196), (.bool true), (.int 181 0), (.ref 197), .none, (.ref 198), (.ref 199), (.ref 200), (.int 458 0), (.int 157 0), (.str "/claim/cut.py" 459)]), #[]⟩) ::
 (nat_lit 202, ⟨(.type "function"), none, (.func ⟨"opened", "opened", defArgs s_opened, .stmts (defBody s_opened), defScope s_opened, 3, [], .none, .none, .none, (.str "flipwright.opening" 248), none, (.ref 201), .none, 0⟩), #[]⟩) ::
 (nat_lit 203, ⟨(.type "tuple"), none, (.seq #[] 0), #[]⟩) ::
 (nat_lit 205, ⟨(.type "tuple"), none, (.seq #[(.str "_law_cell" 466), (.str "_law_k" 467), (.str "_law_some" 468)] 0), #[]⟩) ::
 (nat_lit 206, ⟨(.type "tuple"), none, (.seq #[] 0), #[]⟩) ::
 (nat_lit 208, ⟨(.type "code"), none, (.fields #[(.str "_law_mix" 463), (.str "_law_mix" 464), (.str "/claim/cut.py" 465), (.int 165 0), (.int 2 0), (.int 0 0), (.int 0 0), (.int 3 0), (.ref 203), (.bool true), (.int 181 0), (.ref 204), .none, (.ref 205), (.ref 206), (.ref 207), (.int 469 0), (.int 165 0), (.str "/claim/cut.py" 470)]), #[]⟩) ::
 (nat_lit 209, ⟨(.type "function"), none, (.func ⟨"_law_mix", "_law_mix", defArgs s_law_mix, .stmts (defBody s_law_mix), defScope s_law_mix, 3, [], .none, .none, .none, (.str "law_flipwright_k22_rows_opened" 461), none, (.ref 208), .none, 0⟩), #[]⟩) ::
 (nat_lit 210, ⟨(.type "tuple"), none, (.seq #[] 0), #[]⟩) ::
 (nat_lit 212, ⟨(.type "tuple"), none, (.seq #[(.str "_law_cell" 475), (.str "_law_letters" 476), (.str "_law_many" 477), (.str "_law_at" 478), (.str "_law_names_here" 479), (.str "_law_k" 480), (.str "_law_name" 481), (.str "_law_j" 482), (.str "_law_step" 483)] 0), #[]⟩) ::
 (nat_lit 213, ⟨(.type "tuple"), none, (.seq #[] 0), #[]⟩) ::
 (nat_lit 215, ⟨(.type "code"), none, (.fields #[(.str "_law_names" 472), (.str "_law_names" 473), (.str "/claim/cut.py" 474), (.int 168 0), (.int 1 0), (.int 0 0), (.int 0 0), (.int 3 0), (.ref 210), (.bool true), (.int 181 0), (.ref 211), .none, (.ref 212), (.ref 213), (.ref 214), (.int 484 0), (.int 168 0), (.str "/claim/cut.py" 485)]), #[]⟩) ::
 (nat_lit 216, ⟨(.type "function"), none, (.func ⟨"_law_names", "_law_names", defArgs s_law_names, .stmts (defBody s_law_names), defScope s_law_names, 3, [], .none, .none, .none, (.str "law_flipwright_k22_rows_opened" 461), none, (.ref 215), .none, 0⟩), #[]⟩) ::
 (nat_lit 217, ⟨(.type "tuple"), none, (.seq #[] 0), #[]⟩) ::
 (nat_lit 219, ⟨(.type "tuple"), none, (.seq #[(.str "_law_cell" 490), (.str "_law_known" 491)] 0), #[]⟩) ::
 (nat_lit 220, ⟨(.type "tuple"), none, (.seq #[] 0), #[]⟩) ::
 (nat_lit 222, ⟨(.type "code"), none, (.fields #[(.str "_law_leaf" 487), (.str "_law_leaf" 488), (.str "/claim/cut.py" 489), (.int 180 0), (.int 2 0), (.int 0 0), (.int 0 0), (.int 3 0), (.ref 217), (.bool true), (.int 181 0), (.ref 218), .none, (.ref 219), (.ref 220), (.ref 221), (.int 492 0), (.int 180 0), (.str "/claim/cut.py" 493)]), #[]⟩) ::
 (nat_lit 223, ⟨(.type "function"), none, (.func ⟨"_law_leaf", "_law_leaf", defArgs s_law_leaf, .stmts (defBody s_law_leaf), defScope s_law_leaf, 3, [], .none, .none, .none, (.str "law_flipwright_k22_rows_opened" 461), none, (.ref 222), .none, 0⟩), #[]⟩) ::
 (nat_lit 224, ⟨(.type "tuple"), none, (.seq #[] 0), #[]⟩) ::
 (nat_lit 226, ⟨(.type "tuple"), none, (.seq #[(.str "_law_cell" 498), (.str "_law_bottom" 499)] 0), #[]⟩) ::
 (nat_lit 227, ⟨(.type "tuple"), none, (.seq #[] 0), #[]⟩) ::
 (nat_lit 229, ⟨(.type "code"), none, (.fields #[(.str "_law_flip" 495), (.str "_law_flip" 496), (.str "/claim/cut.py" 497), (.int 184 0), (.int 1 0), (.int 0 0), (.int 0 0), (.int 3 0), (.ref 224), (.bool true), (.int 181 0), (.ref 225), .none, (.ref 226), (.ref 227), (.ref 228), (.int 500 0), (.int 184 0), (.str "/claim/cut.py" 501)]), #[]⟩) ::
 (nat_lit 230, ⟨(.type "function"), none, (.func ⟨"_law_flip", "_law_flip", defArgs s_law_flip, .stmts (defBody s_law_flip), defScope s_law_flip, 3, [], .none, .none, .none, (.str "law_flipwright_k22_rows_opened" 461), none, (.ref 229), .none, 0⟩), #[]⟩) ::
 (nat_lit 231, ⟨(.type "tuple"), none, (.seq #[] 0), #[]⟩) ::
 (nat_lit 233, ⟨(.type "tuple"), none, (.seq #[(.str "_law_cell" 506), (.str "_law_pairs" 507), (.str "_law_k" 508)] 0), #[]⟩) ::
 (nat_lit 234, ⟨(.type "tuple"), none, (.seq #[] 0), #[]⟩) ::
 (nat_lit 236, ⟨(.type "code"), none, (.fields #[(.str "_law_pick" 503), (.str "_law_pick" 504), (.str "/claim/cut.py" 505), (.int 187 0), (.int 1 0), (.int 0 0), (.int 0 0), (.int 3 0), (.ref 231), (.bool true), (.int 181 0), (.ref 232), .none, (.ref 233), (.ref 234), (.ref 235), (.int 509 0), (.int 187 0), (.str "/claim/cut.py" 510)]), #[]⟩) ::
 (nat_lit 237, ⟨(.type "function"), none, (.func ⟨"_law_pick", "_law_pick", defArgs s_law_pick, .stmts (defBody s_law_pick), defScope s_law_pick, 3, [], .none, .none, .none, (.str "law_flipwright_k22_rows_opened" 461), none, (.ref 236), .none, 0⟩), #[]⟩) ::
 (nat_lit 238, ⟨(.type "tuple"), none, (.seq #[] 0), #[]⟩) ::
 (nat_lit 240, ⟨(.type "tuple"), none, (.seq #[(.str "_law_cell" 515), (.str "_law_known" 516), (.str "_law_names_here" 517), (.str "_law_one" 518), (.str "_law_other" 519), (.str "_law_way" 520), (.str "_law_more" 521), (.str "_law_sign" 522)] 0), #[]⟩) ::
 (nat_lit 241, ⟨(.type "tuple"), none, (.seq #[] 0), #[]⟩) ::
 (nat_lit 243, ⟨(.type "code"), none, (.fields #[(.str "_law_term" 512), (.str "_law_term" 513), (.str "/claim/cut.py" 514), (.int 192 0), (.int 3 0), (.int 0 0), (.int 0 0), (.int 3 0), (.ref 238), (.bool true), (.int 181 0), (.ref 239), .none, (.ref 240), (.ref 241), (.ref 242), (.int 523 0), (.int 192 0), (.str "/claim/cut.py" 524)]), #[]⟩) ::
 (nat_lit 244, ⟨(.type "function"), none, (.func ⟨"_law_term", "_law_term", defArgs s_law_term, .stmts (defBody s_law_term), defScope s_law_term, 3, [], .none, .none, .none, (.str "law_flipwright_k22_rows_opened" 461), none, (.ref 243), .none, 0⟩), #[]⟩) ::
 (nat_lit 245, ⟨(.type "tuple"), none, (.seq #[] 0), #[]⟩) ::
 (nat_lit 247, ⟨(.type "tuple"), none, (.seq #[(.str "_law_script" 529), (.str "_law_names_here" 530), (.str "_law_rows" 531), (.str "_law_known" 532), (.str "_law_draws" 533), (.str "_law_cell" 534), (.str "_law_term_here" 535), (.str "_law_name" 536), (.str "_law_way" 537), (.str "_law_base" 538), (.str "_law_part" 539)] 0), #[]⟩) ::
 (nat_lit 248, ⟨(.type "tuple"), none, (.seq #[] 0), #[]⟩) ::
 (nat_lit 250, ⟨(.type "code"), none, (.fields #[(.str "_law_program" 526), (.str "_law_program" 527), (.str "/claim/cut.py" 528), (.int 215 0), (.int 2 0), (.int 0 0), (.int 0 0), (.int 3 0), (.ref 245), (.bool true), (.int 181 0), (.ref 246), .none, (.ref 247), (.ref 248), (.ref 249), (.int 540 0), (.int 215 0), (.str "/claim/cut.py" 541)]), #[]⟩) ::
 (nat_lit 251, ⟨(.type "function"), none, (.func ⟨"_law_program", "_law_program", defArgs s_law_program, .stmts (defBody s_law_program), defScope s_law_program, 3, [], .none, .none, .none, (.str "law_flipwright_k22_rows_opened" 461), none, (.ref 250), .none, 0⟩), #[]⟩) ::
 (nat_lit 252, ⟨(.type "tuple"), none, (.seq #[] 0), #[]⟩) ::
 (nat_lit 255, ⟨(.type "code"), none, (.fields #[(.str "_law_parts" 543), (.str "_law_parts" 544), (.str "/claim/cut.py" 545), (.int 243 0), (.int 1 0), (.int 0 0), (.int 0 0), (.int 3 0), (.ref 252), (.bool true), (.int 181 0), (.ref 253), .none, .none, .none, (.ref 254), (.int 546 0), (.int 243 0), (.str "/claim/cut.py" 547)]), #[]⟩) ::
 (nat_lit 256, ⟨(.type "function"), none, (.func ⟨"_law_parts", "_law_parts", defArgs s_law_parts, .stmts (defBody s_law_parts), defScope s_law_parts, 3, [], .none, .none, .none, (.str "law_flipwright_k22_rows_opened" 461), none, (.ref 255), .none, 0⟩), #[]⟩) ::
 (nat_lit 257, ⟨(.type "tuple"), none, (.seq #[] 0), #[]⟩) ::
 (nat_lit 259, ⟨(.type "tuple"), none, (.seq #[(.str "_law_term_here" 552), (.str "_law_many" 553), (.str "_law_part" 554)] 0), #[]⟩) ::
 (nat_lit 260, ⟨(.type "tuple"), none, (.seq #[] 0), #[]⟩) ::
 (nat_lit 262, ⟨(.type "code"), none, (.fields #[(.str "_law_drawn" 549), (.str "_law_drawn" 550), (.str "/claim/cut.py" 551), (.int 253 0), (.int 1 0), (.int 0 0), (.int 0 0), (.int 3 0), (.ref 257), (.bool true), (.int 181 0), (.ref 258), .none, (.ref 259), (.ref 260), (.ref 261), (.int 555 0), (.int 253 0), (.str "/claim/cut.py" 556)]), #[]⟩) ::
 (nat_lit 263, ⟨(.type "function"), none, (.func ⟨"_law_drawn", "_law_drawn", defArgs s_law_drawn, .stmts (defBody s_law_drawn), defScope s_law_drawn, 3, [], .none, .none, .none, (.str "law_flipwright_k22_rows_opened" 461), none, (.ref 262), .none, 0⟩), #[]⟩) ::
 (nat_lit 264, ⟨(.type "tuple"), none, (.seq #[] 0), #[]⟩) ::
 (nat_lit 267, ⟨(.type "code"), none, (.fields #[(.str "_law_again" 558), (.str "_law_again" 559), (.str "/claim/cut.py" 560), (.int 258 0), (.int 2 0), (.int 0 0), (.int 0 0), (.int 3 0), (.ref 264), (.bool true), (.int 181 0), (.ref 265), .none, .none, .none, (.ref 266), (.int 561 0), (.int 258 0), (.str "/claim/cut.py" 562)]), #[]⟩) ::
 (nat_lit 268, ⟨(.type "function"), none, (.func ⟨"_law_again", "_law_again", defArgs s_law_again, .stmts (defBody s_law_again), defScope s_law_again, 3, [], .none, .none, .none, (.str "law_flipwright_k22_rows_opened" 461), none, (.ref 267), .none, 0⟩), #[]⟩) ::
 (nat_lit 269, ⟨(.type "tuple"), none, (.seq #[] 0), #[]⟩) ::
 (nat_lit 272, ⟨(.type "code"), none, (.fields #[(.str "_law_opened" 564), (.str "_law_opened" 565), (.str "/claim/cut.py" 566), (.int 268 0), (.int 3 0), (.int 0 0), (.int 0 0), (.int 3 0), (.ref 269), (.bool true), (.int 181 0), (.ref 270), .none, .none, .none, (.ref 271), (.int 567 0), (.int 268 0), (.str "/claim/cut.py" 568)]), #[]⟩) ::
 (nat_lit 273, ⟨(.type "function"), none, (.func ⟨"_law_opened", "_law_opened", defArgs s_law_opened, .stmts (defBody s_law_opened), defScope s_law_opened, 3, [], .none, .none, .none, (.str "law_flipwright_k22_rows_opened" 461), none, (.ref 272), .none, 0⟩), #[]⟩) ::
 (nat_lit 274, ⟨(.type "tuple"), none, (.seq #[] 0), #[]⟩) ::
 (nat_lit 276, ⟨(.type "tuple"), none, (.seq #[(.str "_law_program_here" 573), (.str "_law_slots" 574), (.str "_law_steps" 575), (.str "_law_draws" 576), (.str "_law_many" 577), (.str "_law_row" 578), (.str "_law_rounds" 579), (.str "_law_turn" 580), (.str "_law_term_here" 581)] 0), #[]⟩) ::
 (nat_lit 277, ⟨(.type "tuple"), none, (.seq #[] 0), #[]⟩) ::
 (nat_lit 279, ⟨(.type "code"), none, (.fields #[(.str "_law_due" 570), (.str "_law_due" 571), (.str "/claim/cut.py" 572), (.int 278 0), (.int 1 0), (.int 0 0), (.int 0 0), (.int 3 0), (.ref 274), (.bool true), (.int 181 0), (.ref 275), .none, (.ref 276), (.ref 277), (.ref 278), (.int 582 0), (.int 278 0), (.str "/claim/cut.py" 583)]), #[]⟩) ::
 (nat_lit 280, ⟨(.type "function"), none, (.func ⟨"_law_due", "_law_due", defArgs s_law_due, .stmts (defBody s_law_due), defScope s_law_due, 3, [], .none, .none, .none, (.str "law_flipwright_k22_rows_opened" 461), none, (.ref 279), .none, 0⟩), #[]⟩) ::
 (nat_lit 281, ⟨(.type "tuple"), none, (.seq #[] 0), #[]⟩) ::
 (nat_lit 283, ⟨(.type "tuple"), none, (.seq #[(.str "_law_found" 588), (.str "_law_due_here" 589), (.str "_law_k" 590)] 0), #[]⟩) ::
 (nat_lit 284, ⟨(.type "tuple"), none, (.seq #[] 0), #[]⟩) ::
 (nat_lit 286, ⟨(.type "code"), none, (.fields #[(.str "_law_alike" 585), (.str "_law_alike" 586), (.str "/claim/cut.py" 587), (.int 297 0), (.int 2 0), (.int 0 0), (.int 0 0), (.int 3 0), (.ref 281), (.bool true), (.int 181 0), (.ref 282), .none, (.ref 283), (.ref 284), (.ref 285), (.int 591 0), (.int 297 0), (.str "/claim/cut.py" 592)]), #[]⟩) ::
 (nat_lit 287, ⟨(.type "function"), none, (.func ⟨"_law_alike", "_law_alike", defArgs s_law_alike, .stmts (defBody s_law_alike), defScope s_law_alike, 3, [], .none, .none, .none, (.str "law_flipwright_k22_rows_opened" 461), none, (.ref 286), .none, 0⟩), #[]⟩) ::
 (nat_lit 288, ⟨(.type "tuple"), none, (.seq #[] 0), #[]⟩) ::
 (nat_lit 290, ⟨(.type "tuple"), none, (.seq #[(.str "_law_term_here" 597), (.str "_law_many" 598), (.str "_law_part" 599)] 0), #[]⟩) ::
 (nat_lit 291, ⟨(.type "tuple"), none, (.seq #[] 0), #[]⟩) ::
 (nat_lit 293, ⟨(.type "code"), none, (.fields #[(.str "_law_size" 594), (.str "_law_size" 595), (.str "/claim/cut.py" 596), (.int 310 0), (.int 1 0), (.int 0 0), (.int 0 0), (.int 3 0), (.ref 288), (.bool true), (.int 181 0), (.ref 289), .none, (.ref 290), (.ref 291), (.ref 292), (.int 600 0), (.int 310 0), (.str "/claim/cut.py" 601)]), #[]⟩) ::
 (nat_lit 294, ⟨(.type "function"), none, (.func ⟨"_law_size", "_law_size", defArgs s_law_size, .stmts (defBody s_law_size), defScope s_law_size, 3, [], .none, .none, .none, (.str "law_flipwright_k22_rows_opened" 461), none, (.ref 293), .none, 0⟩), #[]⟩) ::
 (nat_lit 295, ⟨(.type "tuple"), none, (.seq #[] 0), #[]⟩) ::
 (nat_lit 298, ⟨(.type "code"), none, (.fields #[(.str "law" 603), (.str "law" 604), (.str "/claim/cut.py" 605), (.int 315 0), (.int 1 0), (.int 0 0), (.int 0 0), (.int 3 0), (.ref 295), (.bool true), (.int 181 0), (.ref 296), .none, .none, .none, (.ref 297), (.int 606 0), (.int 315 0), (.str "/claim/cut.py" 607)]), #[]⟩) ::
 (nat_lit 299, ⟨(.type "function"), none, (.func ⟨"law", "law", defArgs s_law, .stmts (defBody s_law), defScope s_law, 3, [], .none, .none, .none, (.str "law_flipwright_k22_rows_opened" 461), none, (.ref 298), .none, 0⟩), #[]⟩) :: []
def KA : List Addr := [2, 3, 15, 22, 23, 24, 25, 28, 35, 37, 38, 40, 41, 42, 43, 44, 47, 54, 55, 56, 66, 69, 70, 71, 72, 73, 74, 75, 78, 81, 82, 83, 86, 87, 88, 90, 91, 93, 94, 95, 97, 98, 100, 101, 102, 104, 105, 107, 108, 109, 112, 113, 114, 116, 117, 119, 120, 121, 124, 125, 133, 135, 136, 138, 139, 140, 142, 143, 145, 146, 147, 149, 150, 152, 153, 154, 156, 157, 159, 160, 161, 163, 164, 166, 167, 168, 170, 171, 173, 174, 175, 177, 178, 180, 181, 182, 184, 185, 187, 188, 189, 190, 191, 192, 193, 196, 198, 199, 201, 202, 203, 205, 206, 208, 209, 210, 212, 213, 215, 216, 217, 219, 220, 222, 223, 224, 226, 227, 229, 230, 231, 233, 234, 236, 237, 238, 240, 241, 243, 244, 245, 247, 248, 250, 251, 252, 255, 256, 257, 259, 260, 262, 263, 264, 267, 268, 269, 272, 273, 274, 276, 277, 279, 280, 281, 283, 284, 286, 287, 288, 290, 291, 293, 294, 295, 298, 299]
theorem KAs (P : Params) : KA = List.map (fun x => x.fst) (KF P) := by kernel_rfl
noncomputable def vw : Program := { PySem.Challenge.rw_flipwright_k22_rows_opened.row.toRowW.1 with main := { PySem.Challenge.rw_flipwright_k22_rows_opened.row.toRowW.1.main with body := (PySem.Challenge.rw_flipwright_k22_rows_opened.row.toRowW.1.main.body.drop 1).take 3 ++ ((PySem.Challenge.rw_flipwright_k22_rows_opened.row.toRowW.1.main.body.drop 5).take 14 ++ PySem.Challenge.rw_flipwright_k22_rows_opened.row.toRowW.1.main.body.drop 20) } }
end K22
open PySem PySem.W PyProof.Rows L2
set_option maxRecDepth 100000 in
set_option maxHeartbeats 0 in
theorem PySem.Challenge.cw_flipwright_k22_rows_opened_holds : PySem.Challenge.rw_flipwright_k22_rows_opened.Holds := by
  w_on; o_law
  refine holds_open (q := K22.vw) (loose := []) (Xt := fun s => xlAt K22.vw [] s && recOk (RowW.records (OpenRow.toRowW PySem.Challenge.rw_flipwright_k22_rows_opened.row)) s) (XP := XL K22.vw []) (Yf := Hook.obs (kHook K22.KF K22.KA K22.KAs)) (Ya := Hook.val (kHook K22.KF K22.KA K22.KAs)) (YP := Hook.says (kHook K22.KF K22.KA K22.KAs)) (N := 4352) ?hl (Hook.of _) (Hook.keeps _) (fun s e => xl_of s (Bool.and_eq_true_iff.mp e).1) XL.keeps (by rfl) (by rfl) (by rfl) (fun s e => recFacts_of (Bool.and_eq_true_iff.mp e).2) (by rfl) (by first | assumption | decide +kernel) (by decide +kernel) ⟨rfl, rfl, rfl, rfl, rfl, by decide +kernel⟩ ?hw ?hc
  (case hw => w_witness2)
  (case hl => intro w; kernel_rfl)
  k_fill
  refine K22.walk (l := PySem.Challenge.rw_flipwright_k22_rows_opened) rfl rfl (fun w h Y => PySem.W.kIn_of Y) ?F
  case F =>
    intro w mg fa h KX G hmg
    refine' K22.all_mk hmg (fnAt_mk KX G ?a0 ?l0 ?c0 ?k0 (fun _ _ _ _ _ _ us hl => match us, hl with | [_], _ => rfl))
      (fnAt_mk KX G ?a1 ?l1 ?c1 ?k1 (fun _ _ _ _ _ _ us hl => match us, hl with | [_], _ => rfl))
      (fnAt_mk KX G ?a2 ?l2 ?c2 ?k2 (fun _ _ _ _ _ _ us hl => match us, hl with | [_], _ => rfl))
      (fnAt_mk KX G ?a3 ?l3 ?c3 ?k3 (fun _ _ _ _ _ _ us hl => match us, hl with | [_, _, _, _], _ => rfl))
      (fnAt_mk KX G ?a4 ?l4 ?c4 ?k4 (fun _ _ _ _ _ _ us hl => match us, hl with | [_], _ => rfl))
      (fnAt_mk KX G ?a5 ?l5 ?c5 ?k5 (fun _ _ _ _ _ _ us hl => match us, hl with | [_], _ => rfl))
      (fnAt_mk KX G ?a6 ?l6 ?c6 ?k6 (fun _ _ _ _ _ _ us hl => match us, hl with | [_], _ => rfl))
      (fnAt_mk KX G ?a7 ?l7 ?c7 ?k7 (fun _ _ _ _ _ _ us hl => match us, hl with | [_, _], _ => rfl))
      (fnAt_mk KX G ?a8 ?l8 ?c8 ?k8 (fun _ _ _ _ _ _ us hl => match us, hl with | [_], _ => rfl))
      (fnAt_mk KX G ?a9 ?l9 ?c9 ?k9 (fun _ _ _ _ _ _ us hl => match us, hl with | [_, _], _ => rfl))
      (fnAt_mk KX G ?a10 ?l10 ?c10 ?k10 (fun _ _ _ _ _ _ us hl => match us, hl with | [_], _ => rfl))
      (fnAt_mk KX G ?a11 ?l11 ?c11 ?k11 (fun _ _ _ _ _ _ us hl => match us, hl with | [_, _], _ => rfl))
      (fnAt_mk KX G ?a12 ?l12 ?c12 ?k12 (fun _ _ _ _ _ _ us hl => match us, hl with | [_], _ => rfl))
      (fnAt_mk KX G ?a13 ?l13 ?c13 ?k13 (fun _ _ _ _ _ _ us hl => match us, hl with | [_], _ => rfl))
      (fnAt_mk KX G ?a14 ?l14 ?c14 ?k14 (fun _ _ _ _ _ _ us hl => match us, hl with | [_, _, _], _ => rfl))
      (fnAt_mk KX G ?a15 ?l15 ?c15 ?k15 (fun _ _ _ _ _ _ us hl => match us, hl with | [_, _], _ => rfl))
      (fnAt_mk KX G ?a16 ?l16 ?c16 ?k16 (fun _ _ _ _ _ _ us hl => match us, hl with | [_], _ => rfl))
      (fnAt_mk KX G ?a17 ?l17 ?c17 ?k17 (fun _ _ _ _ _ _ us hl => match us, hl with | [_], _ => rfl))
      (fnAt_mk KX G ?a18 ?l18 ?c18 ?k18 (fun _ _ _ _ _ _ us hl => match us, hl with | [_, _], _ => rfl))
      (fnAt_mk KX G ?a19 ?l19 ?c19 ?k19 (fun _ _ _ _ _ _ us hl => match us, hl with | [_, _, _], _ => rfl))
      (fnAt_mk KX G ?a20 ?l20 ?c20 ?k20 (fun _ _ _ _ _ _ us hl => match us, hl with | [_], _ => rfl))
      (fnAt_mk KX G ?a21 ?l21 ?c21 ?k21 (fun _ _ _ _ _ _ us hl => match us, hl with | [_, _], _ => rfl))
      (fnAt_mk KX G ?a22 ?l22 ?c22 ?k22 (fun _ _ _ _ _ _ us hl => match us, hl with | [_], _ => rfl))
      (fnAt_mk KX G ?a23 ?l23 ?c23 ?k23 (fun _ _ _ _ _ _ us hl => match us, hl with | [_], _ => rfl))
      ?mlI ?mcI ?mqI
      ?mlJ ?mcJ ?mqJ
      ?mlK ?mcK ?mqK
      ?mlS ?mcS ?mqS
      ?mlD ?mcD ?mqD
      ?mlT ?mcT ?mqT
      ?mlL ?mcL ?mqL
      ?mlR ?mcR ?mqR
      ⟨?mkI, ?aiI, ?fiI, ?kcI⟩
      ⟨?mkJ, ?aiJ, ?fiJ, ?kcJ⟩
      ⟨?tK1, ?tK2, ?tK3⟩
      ⟨?tS1, ?tS2, ?tS3⟩
      ⟨?tD1, ?tD2, ?tD3⟩
      ⟨?tT1, ?tT2, ?tT3⟩
      ⟨?tL1, ?tL2, ?tL3⟩
      ⟨?tR1, ?tR2, ?tR3⟩
      (PySem.W.mg_of KX G ?gOp)
      (PySem.W.mg_of KX G ?gOd)
      ⟨⟨?pg1, ?hd1, ?po1, ?sa1⟩, ?na1, ?na2, ?na3, ?na4, ?na5, ?na6, PySem.W.mg_of KX G ?gS, ?rS, PySem.W.mg_of KX G ?gD, ?rD, PySem.W.mg_none_of KX G ?zt0⟩
      ⟨⟨?pg2, ?hd2, ?po2, ?sa2⟩, ?nb1, ?nb2, ?nb3, PySem.W.mg_none_of KX G ?zu0, PySem.W.mg_none_of KX G ?zu1, PySem.W.mg_none_of KX G ?zu2, PySem.W.mg_of KX G ?gF, ?rF⟩
      ⟨PySem.W.mg_none_of KX G ?zb0, PySem.W.mg_none_of KX G ?zb1, PySem.W.mg_none_of KX G ?zb2⟩
      ⟨PySem.W.mg_none_of KX G ?zl0, PySem.W.mg_none_of KX G ?zl1, PySem.W.mg_none_of KX G ?zl2, PySem.W.mg_none_of KX G ?zl3, PySem.W.mg_none_of KX G ?zl4, PySem.W.mg_none_of KX G ?zl5, PySem.W.mg_none_of KX G ?zl6, PySem.W.mg_none_of KX G ?zl7, PySem.W.mg_none_of KX G ?zl8, PySem.W.mg_none_of KX G ?zl9⟩
      (PySem.W.mg_none_of KX G ?zr)
      ⟨?i1, ?i2, ?i3, ?i4⟩
      ?hb
    (case a0 => k_is); (case l0 => k_is); (case c0 => k_is); (case k0 => k_is)
    (case a1 => k_is); (case l1 => k_is); (case c1 => k_is); (case k1 => k_is)
    (case a2 => k_is); (case l2 => k_is); (case c2 => k_is); (case k2 => k_is)
    (case a3 => k_is); (case l3 => k_is); (case c3 => k_is); (case k3 => k_is)
    (case a4 => k_is); (case l4 => k_is); (case c4 => k_is); (case k4 => k_is)
    (case a5 => k_is); (case l5 => k_is); (case c5 => k_is); (case k5 => k_is)
    (case a6 => k_is); (case l6 => k_is); (case c6 => k_is); (case k6 => k_is)
    (case a7 => k_is); (case l7 => k_is); (case c7 => k_is); (case k7 => k_is)
    (case a8 => k_is); (case l8 => k_is); (case c8 => k_is); (case k8 => k_is)
    (case a9 => k_is); (case l9 => k_is); (case c9 => k_is); (case k9 => k_is)
    (case a10 => k_is); (case l10 => k_is); (case c10 => k_is); (case k10 => k_is)
    (case a11 => k_is); (case l11 => k_is); (case c11 => k_is); (case k11 => k_is)
    (case a12 => k_is); (case l12 => k_is); (case c12 => k_is); (case k12 => k_is)
    (case a13 => k_is); (case l13 => k_is); (case c13 => k_is); (case k13 => k_is)
    (case a14 => k_is); (case l14 => k_is); (case c14 => k_is); (case k14 => k_is)
    (case a15 => k_is); (case l15 => k_is); (case c15 => k_is); (case k15 => k_is)
    (case a16 => k_is); (case l16 => k_is); (case c16 => k_is); (case k16 => k_is)
    (case a17 => k_is); (case l17 => k_is); (case c17 => k_is); (case k17 => k_is)
    (case a18 => k_is); (case l18 => k_is); (case c18 => k_is); (case k18 => k_is)
    (case a19 => k_is); (case l19 => k_is); (case c19 => k_is); (case k19 => k_is)
    (case a20 => k_is); (case l20 => k_is); (case c20 => k_is); (case k20 => k_is)
    (case a21 => k_is); (case l21 => k_is); (case c21 => k_is); (case k21 => k_is)
    (case a22 => k_is); (case l22 => k_is); (case c22 => k_is); (case k22 => k_is)
    (case a23 => k_is); (case l23 => k_is); (case c23 => k_is); (case k23 => k_is)
    (case gOp => k_is)
    (case gOd => k_is)
    (case gS => k_is)
    (case gD => k_is)
    (case gF => k_is)
    (case aiI => k_is)
    (case mlI => k_is); (case mcI => k_is); (case mqI => k_is)
    (case aiJ => k_is)
    (case mlJ => k_is); (case mcJ => k_is); (case mqJ => k_is)
    (case tK1 => k_is)
    (case mlK => k_is); (case mcK => k_is); (case mqK => k_is)
    (case tS1 => k_is)
    (case mlS => k_is); (case mcS => k_is); (case mqS => k_is)
    (case tD1 => k_is)
    (case mlD => k_is); (case mcD => k_is); (case mqD => k_is)
    (case tT1 => k_is)
    (case mlT => k_is); (case mcT => k_is); (case mqT => k_is)
    (case tL1 => k_is)
    (case mlL => k_is); (case mcL => k_is); (case mqL => k_is)
    (case tR1 => k_is)
    (case mlR => k_is); (case mcR => k_is); (case mqR => k_is)
    (case mkI => k_is); (case fiI => k_is); (case kcI => k_is)
    (case mkJ => k_is); (case fiJ => k_is); (case kcJ => k_is)
    (case tK2 => k_is); (case tK3 => k_is)
    (case tS2 => k_is); (case tS3 => k_is)
    (case tD2 => k_is); (case tD3 => k_is)
    (case tT2 => k_is); (case tT3 => k_is)
    (case tL2 => k_is); (case tL3 => k_is)
    (case tR2 => k_is); (case tR3 => k_is)
    (case pg1 => k_is)
    (case hd1 => k_is)
    (case po1 => k_is)
    (case sa1 => k_is)
    (case na1 => unfold L2.NoAttr; k_is)
    (case na2 => unfold L2.NoAttr; k_is)
    (case na3 => unfold L2.NoAttr; k_is)
    (case na4 => unfold L2.NoAttr; k_is)
    (case na5 => unfold L2.NoAttr; k_is)
    (case na6 => unfold L2.NoAttr; k_is)
    (case rS => exact ⟨_, rfl⟩)
    (case rD => exact ⟨_, rfl⟩)
    (case zt0 => k_is)
    (case pg2 => k_is)
    (case hd2 => k_is)
    (case po2 => k_is)
    (case sa2 => k_is)
    (case nb1 => unfold L2.NoAttr; k_is)
    (case nb2 => unfold L2.NoAttr; k_is)
    (case nb3 => unfold L2.NoAttr; k_is)
    (case rF => exact ⟨_, rfl⟩)
    (case zu0 => k_is)
    (case zu1 => k_is)
    (case zu2 => k_is)
    (case zb0 => k_is)
    (case zb1 => k_is)
    (case zb2 => k_is)
    (case zl0 => k_is)
    (case zl1 => k_is)
    (case zl2 => k_is)
    (case zl3 => k_is)
    (case zl4 => k_is)
    (case zl5 => k_is)
    (case zl6 => k_is)
    (case zl7 => k_is)
    (case zl8 => k_is)
    (case zl9 => k_is)
    (case zr => k_is)
    (case i1 => k_is)
    (case i2 => k_is)
    (case i3 => k_is)
    (case i4 => k_is)
    (case hb => exact fun s u => .of_eq rfl)
