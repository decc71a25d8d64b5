import PyProof.Rows.All
import Wide.All
import OpenK.AllK
import Wide.FinOn
import PyProof.EqAt
import PyProof.EqKinds
import PyProof.TupleCall
import Lean
import PySem.Challenge.RW_flipwright_k09_whole_heap_of_tables
set_option Elab.async false
set_option linter.all false
set_option maxRecDepth 100000
namespace L2
open PySem PySem.Spec PyProof.Rows
/-- a key: an int or a str -/
abbrev Key := Sum Int Str
def keyIs : Key → Value → Bool
  | .inl k, v => Value.isInt k v
  | .inr x, v => Value.isStrOf x v
def keyH (w : World) : Key → Int
  | .inl k => hashInt k
  | .inr x => hashStr w x
theorem keyIs_shape : ∀ {k : Key} {v : Value}, keyIs k v = true → (∃ i t, k = Sum.inl i ∧ v = Value.int i t) ∨ (∃ x t, k = Sum.inr x ∧ v = Value.str x t)
  | .inl i, v, h => by
    obtain ⟨t, e⟩ := Value.isInt_shape (k := i) (v := v) h
    exact .inl ⟨i, t, rfl, e⟩
  | .inr x, v, h => by
    obtain ⟨t, e⟩ := Value.isStrOf_shape (x := x) (v := v) h
    exact .inr ⟨x, t, rfl, e⟩
theorem key_ll (a b : Int) : decide ((Sum.inl a : Key) = Sum.inl b) = (a == b) := by
  by_cases e : a = b
  · subst e; simp
  · have h : ¬ (Sum.inl a : Key) = Sum.inl b := fun q => e (Sum.inl.inj q)
    rw [decide_eq_false h]
    exact (beq_eq_false_iff_ne.mpr e).symm
theorem key_rr (a b : Str) : decide ((Sum.inr a : Key) = Sum.inr b) = decide (a = b) := by
  by_cases e : a = b
  · subst e; simp
  · have h : ¬ (Sum.inr a : Key) = Sum.inr b := fun q => e (Sum.inr.inj q)
    rw [decide_eq_false h, decide_eq_false e]
theorem key_lr (a : Int) (b : Str) : decide ((Sum.inl a : Key) = Sum.inr b) = false := decide_eq_false (fun q => nomatch q)
theorem key_rl (a : Str) (b : Int) : decide ((Sum.inr a : Key) = Sum.inl b) = false := decide_eq_false (fun q => nomatch q)
def mixKind (prog : Program) (w : World) : PySem.KeyKind prog w Key where
  is := keyIs
  hash := keyH w
  inj := fun v a b ha hb => by
    rcases keyIs_shape ha with ⟨i, t, rfl, rfl⟩ | ⟨x, t, rfl, rfl⟩
    · rcases keyIs_shape hb with ⟨j, u, rfl, e⟩ | ⟨y, u, rfl, e⟩
      · injection e with e1 _; rw [e1]
      · exact nomatch e
    · rcases keyIs_shape hb with ⟨j, u, rfl, e⟩ | ⟨y, u, rfl, e⟩
      · exact nomatch e
      · injection e with e1 _; rw [e1]
  byValue := fun k v h => by
    rcases keyIs_shape h with ⟨i, t, rfl, rfl⟩ | ⟨x, t, rfl, rfl⟩ <;> rfl
  pyHash := fun hv h => by
    rcases keyIs_shape hv with ⟨i, t, rfl, rfl⟩ | ⟨x, t, rfl, rfl⟩
    · exact wpAny_pyHash_int h
    · exact wpAny_pyHash_str h
  eqBool := fun hu hv h => by
    rcases keyIs_shape hu with ⟨i, t, rfl, rfl⟩ | ⟨x, t, rfl, rfl⟩
    · rcases keyIs_shape hv with ⟨j, u, rfl, rfl⟩ | ⟨y, u, rfl, rfl⟩
      · rw [key_ll] at h; exact wpAny_eqBool_int h
      · rw [key_lr] at h; exact SeqAt.EqAt.int_str i t y u _ _ _ _ h
    · rcases keyIs_shape hv with ⟨j, u, rfl, rfl⟩ | ⟨y, u, rfl, rfl⟩
      · rw [key_rl] at h; exact SeqAt.EqAt.str_int x t j u _ _ _ _ h
      · rw [key_rr] at h; exact wpAny_eqBool_str h
  «strs» := fun k x t v h => by
    rcases keyIs_shape h with ⟨i, u, rfl, e⟩ | ⟨y, u, rfl, e⟩
    · exact nomatch e
    · injection e with e1 _
      subst e1
      cases v <;> rfl
end L2
namespace L2
open PySem PySem.Spec PyProof.Rows
/-- a value, without the heap -/
inductive V where
  | non | bl (b : Bool) | int (i : Int) | str (x : Str) | byt (b : Array UInt8) | flt (b : UInt64) | ref (a : Addr) | ty (n : String)
  deriving DecidableEq
def RelV : V → Value → Prop
  | .non, u => u = Value.none
  | .bl b, u => u = Value.bool b
  | .int i, u => ∃ t, u = Value.int i t
  | .str x, u => ∃ t, u = Value.str x t
  | .byt b, u => ∃ t, u = Value.bytes b t
  | .flt b, u => ∃ t, u = Value.float b t
  | .ref a, u => u = Value.ref a
  | .ty n, u => u = Value.type n
abbrev Vals : List V → List Value → Prop := Paired RelV
theorem Vals.length {xs : List V} {us : List Value} (r : Vals xs us) : xs.length = us.length := Paired.length r
theorem Vals.get : ∀ {xs : List V} {us : List Value} {i : Nat} {x : V}, Vals xs us → xs[i]? = some x → ∃ u, us[i]? = some u ∧ RelV x u
  | _, _, _, _, .nil, e => by simp at e
  | _, _, 0, _, .cons r _, e => by simp at e; subst e; exact ⟨_, rfl, r⟩
  | _, _, i + 1, x, .cons _ t, e => by
    obtain ⟨u, h1, h2⟩ := Vals.get (i := i) (x := x) t (by simpa using e)
    exact ⟨u, by simpa using h1, h2⟩
theorem Vals.append : ∀ {xs ys : List V} {us ws : List Value}, Vals xs us → Vals ys ws → Vals (xs ++ ys) (us ++ ws)
  | _, _, _, _, .nil, s => s
  | _, _, _, _, .cons r t, s => .cons r (Vals.append t s)
theorem Vals.take : ∀ {xs : List V} {us : List Value} (n : Nat), Vals xs us → Vals (xs.take n) (us.take n)
  | _, _, 0, _ => .nil
  | _, _, _ + 1, .nil => .nil
  | _, _, n + 1, .cons r t => .cons r (Vals.take n t)
theorem Vals.drop : ∀ {xs : List V} {us : List Value} (n : Nat), Vals xs us → Vals (xs.drop n) (us.drop n)
  | _, _, 0, r => r
  | _, _, _ + 1, .nil => .nil
  | _, _, n + 1, .cons _ t => Vals.drop n t
def RelO : Option V → Option Value → Prop
  | some v, some u => RelV v u
  | none, none => True
  | _, _ => False
def KV {κ : Type} : List (κ × V) → List (κ × Value) → Prop := Paired fun (p : κ × V) (q : κ × Value) => p.1 = q.1 ∧ RelV p.2 q.2
/-- a key of a dict (00_mix): an int or a text -/
def kV : Key → V
  | .inl i => .int i
  | .inr x => .str x
/-- what stands at a tracked address -/
inductive HO where
  /-- a list -/
  | lst (xs : List V)
  /-- a tuple (never changes) -/
  | tup (xs : List V)
  /-- a dict whose keys are ints and texts; one whose keys are tuples of ints and texts (the empty one is both) -/
  | dK (kvs : List (Key × V)) | dT (kvs : List (List Key × V))
  /-- a set of ints: its members, its size -/
  | set (S : Int → Bool) (n : Nat)
  /-- an instance of the class at C, its dict at dx, its attributes -/
  | ins (C dx : Addr) (fs : List (Str × V))
  /-- the dict of the instance at x -/
  | own (x : Addr)
  /-- the dict of an exception -/
  | xd (fs : List (Str × V))
  /-- a bound method, f of x -/
  | met (f x : Addr)
  /-- a range object lo, lo + 1, .. below hi -/
  | rng (lo hi : Int)
  /-- a thing that is known to the object (the script; a dict while a loop walks it): read, never written while it is so -/
  | frz (o : Obj) (u : HO)
  /-- a code object's table -/
  | tbl (ps : Array Value)
  /-- any other thing, by what is true of its one object (a def of one's own: SetO a S n := HO.ext fun h => ..) -/
  | ext (φ : Heap → Prop)
abbrev Hp := Addr → Option HO
def upd (H : Hp) (a : Addr) (o : HO) : Hp := fun b => if b = a then some o else H b
theorem upd_same {H : Hp} {a : Addr} {o : HO} : upd H a o a = some o := by unfold upd; rw [if_pos rfl]
theorem upd_ne {H : Hp} {a b : Addr} {o : HO} (h : b ≠ a) : upd H a o b = H b := by unfold upd; rw [if_neg h]
/-- two objects of different content stand apart -/
theorem ne_of {H : Hp} {a b : Addr} {o u : HO} (h : H a = some o) (h' : H b = some u) (d : o ≠ u) : a ≠ b := by
  intro e; subst e; rw [h] at h'; exact d (Option.some.inj h')
theorem ne_of_none {H : Hp} {a b : Addr} {o : HO} (h : H a = some o) (h' : H b = none) : a ≠ b := by
  intro e; subst e; rw [h] at h'; cases h'
section
variable (P : Program) (w : World)
def ObjOk (H : Hp) (h : Heap) (a : Addr) : HO → Prop
  | .lst xs => xs.length ≤ sizeLine ∧ ∃ (its : List Value) (n : Nat), Vals xs its ∧ h.get? a = some { cls := .type "list", data := .seq its.toArray n }
  | .tup xs => xs.length ≤ sizeLine ∧ ∃ its : List Value, Vals xs its ∧ IsTup h a its.toArray
  | .dK kvs => kvs.length ≤ sizeLine ∧ (a == sysModules) = false ∧ ∃ vs, KV kvs vs ∧ h.DictOf (mixKind P w) a vs
  | .dT kvs => kvs.length ≤ sizeLine ∧ (a == sysModules) = false ∧ ∃ xs : List (List Key × Addr × Value),
      Paired (fun (p : List Key × V) (q : List Key × Addr × Value) => p.1 = q.1 ∧ H q.2.1 = some (.tup (p.1.map kV)) ∧ RelV p.2 q.2.2) kvs xs ∧
      ∃ o es ep, h.get? a = some o ∧ o.ExactDict ∧ o.data = .dict es ep ∧ es.toList = xs.map (entryOfKey (tupleKind (mixKind P w))) ∧ (xs.map (·.1)).Nodup
  | .set S n => h.SetOf (intKind P w) a S n
  | .ins C dx fs => H dx = some (.own a) ∧ fs.length ≤ 1000 ∧ dx ≠ a ∧ h.get? a = some (PySem.W.instObj C dx) ∧
      ∃ mA, h.Ns1 dx mA ∧ (∀ f, RelO (fs.lookup f) (mA f)) ∧ PySem.Within mA (fs.map (·.1))
  | .own _ => ∃ o, h.get? a = some o
  | .xd fs => ∃ mA, h.Ns1 a mA ∧ ∀ f, RelO (fs.lookup f) (mA f)
  | .rng lo hi => ∃ t u v, h.get? a = some { cls := .type "range", data := .fields #[.int lo t, .int hi u, .int 1 v] }
  | .frz o u => h.get? a = some o ∧ ObjOk H h a u
  | .tbl ps => h.get? a = some { cls := .none, data := .fields ps }
  | .met f x => h.get? a = some (PySem.W.methodObj (.ref f) (.ref x))
  | .ext φ => φ h ∧ (∃ o, h.get? a = some o) ∧ ∀ h1 h2 : Heap, φ h1 → (∀ o, h1.get? a = some o → h2.get? a = some o) → φ h2
/-- the abstract heap is held -/
def HOk (H : Hp) (h : Heap) : Prop := ∀ a o, H a = some o → ObjOk P w H h a o
end
section
variable {P : Program} {w : World} {H H' : Hp} {h h' : Heap} {a : Addr} {o : HO}
theorem ObjOk.lt (x : ObjOk P w H h a o) : a < h.objs.size := by
  cases o with
  | lst xs => obtain ⟨_, _, _, _, e⟩ := x; exact Heap.lt_size e
  | tup xs => obtain ⟨_, _, _, p⟩ := x; exact p.lt
  | dK kvs => obtain ⟨_, _, _, _, o, _, _, e, _⟩ := x; exact Heap.lt_size e
  | dT kvs => obtain ⟨_, _, _, _, o, _, _, e, _⟩ := x; exact Heap.lt_size e
  | set S n => obtain ⟨o, _, _, _, e, _⟩ := x; exact Heap.lt_size e
  | ins C dx fs => obtain ⟨_, _, _, e, _⟩ := x; exact Heap.lt_size e
  | own y => obtain ⟨_, e⟩ := x; exact Heap.lt_size e
  | xd fs => obtain ⟨_, ⟨_, _, _, e, _⟩, _⟩ := x; exact Heap.lt_size e
  | rng lo hi => obtain ⟨_, _, _, e⟩ := x; exact Heap.lt_size e
  | frz ob u => obtain ⟨e, _⟩ := x; exact Heap.lt_size e
  | tbl ps => exact Heap.lt_size (show h.get? a = some _ from x)
  | met f y => exact Heap.lt_size (show h.get? a = some _ from x)
  | ext φ => obtain ⟨_, ⟨_, e⟩, _⟩ := x; exact Heap.lt_size e
theorem Paired.mapP {α β : Type} {F G : α → β → Prop} : ∀ {l₁ : List α} {l₂ : List β}, Paired F l₁ l₂ → (∀ a b, F a b → G a b) → Paired G l₁ l₂
  | _, _, .nil, _ => .nil
  | _, _, .cons r t, f => .cons (f _ _ r) (Paired.mapP t f)
/-- what an object's description leans on: its own object, its own dict, the tuples -/
theorem ObjOk.stay (x : ObjOk P w H h a o) (k : ∀ b u, (b = a ∨ H b = some (.own a)) → h.get? b = some u → h'.get? b = some u)
    (ho : ∀ b, H b = some (.own a) → H' b = some (.own a)) (ht : ∀ b xs, H b = some (.tup xs) → H' b = some (.tup xs)) : ObjOk P w H' h' a o := by
  induction o with
  | lst xs => obtain ⟨z, its, n, r, e⟩ := x; exact ⟨z, its, n, r, k _ _ (.inl rfl) e⟩
  | tup xs => obtain ⟨z, its, r, ob, e, c⟩ := x; exact ⟨z, its, r, ob, k _ _ (.inl rfl) e, c⟩
  | dK kvs => obtain ⟨z, y, vs, r, ob, es, ep, e, c⟩ := x; exact ⟨z, y, vs, r, ob, es, ep, k _ _ (.inl rfl) e, c⟩
  | dT kvs =>
    obtain ⟨z, y, xs, r, ob, es, ep, e, c⟩ := x
    exact ⟨z, y, xs, Paired.mapP r fun p q z => ⟨z.1, ht _ _ z.2.1, z.2.2⟩, ob, es, ep, k _ _ (.inl rfl) e, c⟩
  | set S n => obtain ⟨ob, es, ep, t, e, c⟩ := x; exact ⟨ob, es, ep, t, k _ _ (.inl rfl) e, c⟩
  | ins C dx fs =>
    obtain ⟨d, z, ne, e, mA, ⟨od, es, ep, e2, c⟩, r⟩ := x
    exact ⟨ho _ d, z, ne, k _ _ (.inl rfl) e, mA, ⟨od, es, ep, k _ _ (.inr d) e2, c⟩, r⟩
  | own y => obtain ⟨ob, e⟩ := x; exact ⟨ob, k _ _ (.inl rfl) e⟩
  | xd fs => obtain ⟨mA, ⟨od, es, ep, e, c⟩, r⟩ := x; exact ⟨mA, ⟨od, es, ep, k _ _ (.inl rfl) e, c⟩, r⟩
  | rng lo hi => obtain ⟨t, u, v, e⟩ := x; exact ⟨t, u, v, k _ _ (.inl rfl) e⟩
  | frz ob u ih => obtain ⟨e, q⟩ := x; exact ⟨k _ _ (.inl rfl) e, ih q⟩
  | tbl ps =>
    have e : h.get? a = some { cls := .none, data := .fields ps } := x
    show h'.get? a = some { cls := .none, data := .fields ps }
    exact k a _ (.inl rfl) e
  | met f y =>
    have e : h.get? a = some (PySem.W.methodObj (.ref f) (.ref y)) := x
    show h'.get? a = some (PySem.W.methodObj (.ref f) (.ref y))
    exact k a _ (.inl rfl) e
  | ext φ => obtain ⟨p, ⟨o, e⟩, st⟩ := x; exact ⟨st _ _ p fun o q => k _ _ (.inl rfl) q, ⟨o, k _ _ (.inl rfl) e⟩, st⟩
theorem HOk.lt (x : HOk P w H h) (e : H a = some o) : a < h.objs.size := (x a o e).lt
theorem HOk.fresh (x : HOk P w H h) (e : h.objs.size ≤ a) : H a = none := by
  cases q : H a with
  | none => rfl
  | some u => exact absurd (Nat.lt_of_lt_of_le (x.lt q) e) (Nat.lt_irrefl _)
/-- every object of the heap is kept -/
theorem HOk.kept (x : HOk P w H h) (k : ∀ b u, h.get? b = some u → h'.get? b = some u) : HOk P w H h' := fun a o e =>
  (x a o e).stay (fun b u _ q => k b u q) (fun _ q => q) fun _ _ q => q
/-- a new object is laid and tracked -/
theorem HOk.laid (x : HOk P w H h) (k : ∀ b u, h.get? b = some u → h'.get? b = some u) (hp : h.objs.size ≤ a) (new : ObjOk P w (upd H a o) h' a o) : HOk P w (upd H a o) h' := fun b u e => by
  have hn := x.fresh hp
  by_cases hb : b = a
  · subst hb; rw [upd_same] at e; cases e; exact new
  · rw [upd_ne hb] at e
    exact (x b u e).stay (fun c v _ q => k c v q) (fun c q => by rw [upd_ne (ne_of_none q hn)]; exact q) fun c xs q => by rw [upd_ne (ne_of_none q hn)]; exact q
end
/-- what may be read as u: it is u, or a known u -/
def Rd (H : Hp) (a : Addr) (u : HO) : Prop := H a = some u ∨ ∃ o, H a = some (.frz o u)
theorem Rd.ok {P : Program} {w : World} {H : Hp} {h : Heap} {a : Addr} {u : HO} (r : Rd H a u) (x : HOk P w H h) : ObjOk P w H h a u := by
  rcases r with r | ⟨o, r⟩
  · exact x a u r
  · obtain ⟨_, q⟩ := x a _ r
    exact q
/-- what may be written -/
def Mut : Option HO → Prop
  | some (.lst _) => True
  | some (.dK _) => True
  | some (.dT _) => True
  | some (.set _ _) => True
  | some (.ins _ _ _) => True
  | some (.ext _) => True
  | _ => False
section
variable {P : Program} {w : World} {H : Hp} {h h' : Heap} {x e : Addr} {o' : HO}
/-- the object at e is changed: x itself, or the dict of the instance x -/
theorem HOk.write (ok : HOk P w H h) (mu : Mut (H x)) (he : e = x ∨ H e = some (.own x)) (k : ∀ b u, b ≠ e → h.get? b = some u → h'.get? b = some u) (heo : ∃ u, h'.get? e = some u)
    (new : ObjOk P w (upd H x o') h' x o') : HOk P w (upd H x o') h' := fun b u q => by
  have nown : ∀ c y, H c = some (.own y) → c ≠ x := fun c y r z => by subst z; rw [r] at mu; exact mu
  have ntup : ∀ c xs, H c = some (.tup xs) → c ≠ x := fun c xs r z => by subst z; rw [r] at mu; exact mu
  by_cases hb : b = x
  · subst hb; rw [upd_same] at q; cases q; exact new
  · rw [upd_ne hb] at q
    by_cases hbe : b = e
    · have q' : H b = some (.own x) := by
        rcases he with z | z
        · exact absurd (hbe.trans z) hb
        · rw [hbe]; exact z
      rw [q] at q'; cases q'
      obtain ⟨v, hv⟩ := heo
      exact ⟨v, by rw [hbe]; exact hv⟩
    · refine (ok b u q).stay (fun c v hc r => k c v ?_ r) (fun c r => by rw [upd_ne (nown c b r)]; exact r) fun c xs r => by rw [upd_ne (ntup c xs r)]; exact r
      rcases hc with rfl | hc
      · exact hbe
      · rintro rfl
        rcases he with z | z
        · exact nown c b hc z
        · rw [hc] at z; cases z; exact hb rfl
end
structure Un (fs ex : List Addr) (H H' : Hp) (h h' : Heap) : Prop where
  keep : ∀ b o, h.get? b = some o → H b = none → b ∉ fs → b ∉ ex → h'.get? b = some o
  slot : ∀ b o, h.get? b = some o → H b = none → b ∈ fs → b ∉ ex → ∃ sl, h'.get? b = some { o with slots := sl }
  free : ∀ b o, h.get? b = some o → H b = none → b ∉ ex → H' b = none
  there : ∀ b o, h.get? b = some o → b ∉ ex → ∃ o', h'.get? b = some o'
  tups : ∀ b xs, H b = some (.tup xs) → H' b = some (.tup xs)
  frzs : ∀ b o u, H b = some (.frz o u) → H' b = some (.frz o u)
  tbls : ∀ b ps, H b = some (.tbl ps) → ∃ more, H' b = some (.tbl (ps ++ more))
section
variable {fs fs' ex ex' : List Addr} {H H1 H2 : Hp} {h h1 h2 h' : Heap} {a x e : Addr} {o : HO}
theorem Un.any (u : Un fs ex H H1 h h1) {b : Addr} {ob : Obj} (q : h.get? b = some ob) (n : H b = none) (hx : b ∉ ex) : ∃ sl, h1.get? b = some { ob with slots := sl } := by
  by_cases hb : b ∈ fs
  · exact u.slot b ob q n hb hx
  · exact ⟨ob.slots, u.keep b ob q n hb hx⟩
theorem Un.kept (k : ∀ b u, h.get? b = some u → h'.get? b = some u) : Un fs ex H H h h' :=
  ⟨fun b ob q _ _ _ => k b ob q, fun b ob q _ _ _ => ⟨ob.slots, k b ob q⟩, fun _ _ _ n _ => n, fun b ob q _ => ⟨ob, k b ob q⟩, fun _ _ q => q, fun _ _ _ q => q, fun _ ps q => ⟨#[], by rw [q]; simp⟩⟩
theorem Un.refl : Un fs ex H H h h := Un.kept fun _ _ q => q
theorem Un.laid (k : ∀ b u, h.get? b = some u → h'.get? b = some u) (hp : h.objs.size ≤ a) (hn : H a = none) : Un fs ex H (upd H a o) h h' where
  keep := fun b u q _ _ _ => k b u q
  slot := fun b u q _ _ _ => ⟨u.slots, k b u q⟩
  free := fun b u q n _ => by rw [upd_ne (Nat.ne_of_lt (Nat.lt_of_lt_of_le (Heap.lt_size q) hp))]; exact n
  there := fun b u q _ => ⟨u, k b u q⟩
  tups := fun b xs q => by rw [upd_ne (ne_of_none q hn)]; exact q
  frzs := fun b u xs q => by rw [upd_ne (ne_of_none q hn)]; exact q
  tbls := fun b ps q => ⟨#[], by rw [upd_ne (ne_of_none q hn), q]; simp⟩
theorem Un.write (mu : Mut (H x)) (he : e = x ∨ H e = some (.own x)) (k : ∀ b u, b ≠ e → h.get? b = some u → h'.get? b = some u) (heo : ∃ u, h'.get? e = some u) : Un fs ex H (upd H x o) h h' := by
  have hx : ∀ b, H b = none → b ≠ x := fun b n z => by subst z; rw [n] at mu; exact mu
  have hb : ∀ b, H b = none → b ≠ e := fun b n z => by
    subst z
    rcases he with r | r
    · exact hx b n r
    · rw [n] at r; cases r
  have hm : ∀ b u, H b = some u → ¬ Mut (some u) → b ≠ x := fun b u q nm z => by subst z; rw [q] at mu; exact nm mu
  refine ⟨fun b u q n _ _ => k b u (hb b n) q, fun b u q n _ _ => ⟨u.slots, k b u (hb b n) q⟩, fun b u q n _ => by rw [upd_ne (hx b n)]; exact n, fun b u q _ => ?_,
    fun b xs q => by rw [upd_ne (hm b _ q fun z => z)]; exact q, fun b u xs q => by rw [upd_ne (hm b _ q fun z => z)]; exact q, fun b ps q => ⟨#[], by rw [upd_ne (hm b _ q fun z => z), q]; simp⟩⟩
  by_cases hbe : b = e
  · subst hbe; exact heo
  · exact ⟨u, k b u hbe q⟩
end
def trk (h : Heap) (H : Hp) : List Addr := (List.range h.objs.size).filter fun a => (H a).isSome
def hidT (h : Heap) (H : Hp) : Heap := PySem.W.hideAll h (trk h H)
theorem hidT_size (h : Heap) (H : Hp) : (hidT h H).objs.size = h.objs.size := PySem.W.hideAll_size _ _
theorem hidT_get {h : Heap} {H : Hp} {b : Addr} {o : Obj} (e : h.get? b = some o) (n : H b = none) : (hidT h H).get? b = some o :=
  PySem.W.hideAll_get _ e fun hm => by
    have q : (H b).isSome = true := (List.mem_filter.mp hm).2
    rw [n] at q; simp at q
theorem of_hidT {h : Heap} {H : Hp} {b : Addr} {o : Obj} (e : (hidT h H).get? b = some o) : h.get? b = some o ∧ H b = none := by
  have e' : h.get? b = some o := PySem.W.of_hideAll (trk h H) e
  refine ⟨e', ?_⟩
  cases q : H b with
  | none => rfl
  | some x =>
    have hm : b ∈ trk h H := List.mem_filter.mpr ⟨List.mem_range.mpr (Heap.lt_size e'), by simp [q]⟩
    have z : (hidT h H).get? b = none := PySem.W.hideAll_none (trk h H) hm
    rw [z] at e; cases e
def allNews (g h : Heap) (L : Addr) : List (Addr × Obj) := (List.range h.objs.size).filterMap fun a => if a = L ∨ (g.get? a).isSome = true then none else (h.get? a).map fun o => (a, o)
def rest (g h : Heap) (L d : Addr) : List (Addr × Obj) := (allNews g h L).filter fun p => decide (p.1 ≠ d)
end L2
namespace L2
open PySem PySem.Spec PyProof.Rows
/-- the module's facts, over the base: the heap at the law's entry without what is tracked there -/
structure Mod (K : PySem.W.Frag) (mg : Str → Option Value) (base : Heap) : Prop where
  kin : K.In base
  glob : base.Ns mainGlobals mg
  blt : ∃ mb, base.Ns builtinsNs mb ∧ ∀ x : Str, x ≠ "__name__" → mb x = bootBuiltins x
  nolimit : base.NoLimit
/-- the context: a def's body (or a comprehension's block) running. base: fixed through the whole law; s₀, H₀: the entry; outer: the frames whose slots others may change (a def's callers); stack: all frames that run;
   ex: iterators that were made ahead of the entry and are walked here (a comprehension's); fn: the names whose cells were made at the entry (a def: all; a comprehension's block: its own); calm: not within an except suite; pn: pins that every state bears; xe: what is wanted of an exception that leaves the code -/
structure Cx where
  prog : Program
  w : World
  K : PySem.W.Frag
  mg : Str → Option Value
  base : Heap
  A : Around
  N : List Str
  s₀ : Shared
  H₀ : Hp
  env : Env
  outer : List Env
  stack : List Env
  ex : List Addr
  fn : Str → Bool
  calm : Bool
  pn : List (Addr × Obj)
  xe : Value → Shared → Prop
/-- the callers' frames -/
def frs (l : List Env) : List Addr := l.filterMap (·.frame)
abbrev Cx.fs (X : Cx) : List Addr := frs X.outer
def Vis (sc : Scope) (x : Str) : Prop := sc.names.lookup x = some .local ∨ sc.names.lookup x = some .cell ∨ sc.names.lookup x = some .free
def Loc (sc : Scope) (x : Str) : Prop := sc.names.lookup x = some .local ∨ sc.names.lookup x = some .cell
def Look (env : Env) (h : Heap) (m : Str → Option Value) (x : Str) (u : Value) : Prop :=
  (env.kindOf x = some .local ∧ m x = some u) ∨ ((env.kindOf x = some .cell ∨ env.kindOf x = some .free) ∧ ∃ c, env.cells.lookup x = some c ∧ h.IsCell c (some u))
structure Cx.Ok (X : Cx) : Prop where
  mod : Mod X.K X.mg X.base
  kind : X.env.scope.kind = .function
  glob : X.env.globals = mainGlobals
  blt : X.env.builtins = builtinsNs
  above : X.s₀.heap.objs.size ≤ X.env.locals
  inj : ∀ x y c, X.env.cells.lookup x = some c → X.env.cells.lookup y = some c → x = y
  has : ∀ x, (X.env.kindOf x = some .cell ∨ X.env.kindOf x = some .free) → ∃ c, X.env.cells.lookup x = some c
  cab : ∀ x c, X.fn x = true → X.env.cells.lookup x = some c → X.s₀.heap.objs.size ≤ c
  hd : X.calm = true → X.A.handled = none
  frames : X.A.frames = some X.stack
  stk : X.stack = X.outer ∨ (X.stack = X.env :: X.outer ∧ X.env.frame = some X.env.locals)
  exf : ∀ b ∈ X.ex, b ≠ X.env.locals ∧ ∀ x c, X.env.cells.lookup x = some c → c ≠ b
  bs : ∀ b o, X.base.get? b = some o → X.s₀.heap.get? b = some o ∧ X.H₀ b = none
  bsz : X.base.objs.size ≤ X.s₀.heap.objs.size
  noex : ∀ b o, X.base.get? b = some o → b ∉ X.ex
  exfs : ∀ b ∈ X.ex, b ∉ X.fs
  funs : X.s₀.heap.FunFrames X.base X.outer
  frf : ∀ b ∈ X.fs, X.H₀ b = none
structure Inv (X : Cx) (pins : List (Addr × Obj)) (σ : List (Option V)) (H : Hp) (s : Shared) : Prop where
  ok : X.Ok
  os : s.os = X.s₀.os
  bare : AllBare s.gens
  base : Un X.fs X.ex X.H₀ H X.s₀.heap s.heap
  loc : ∃ m, s.heap.Ns X.env.locals m ∧ ∀ (i : Nat) (x : Str) (v : V), X.N[i]? = some x → σ[i]? = some (some v) → Vis X.env.scope x → ∃ u, RelV v u ∧ Look X.env s.heap m x u
  cell : ∀ x c, X.env.cells.lookup x = some c → ∃ v, s.heap.IsCell c v
  free : H X.env.locals = none
  freeC : ∀ x c, X.env.cells.lookup x = some c → H c = none
  pin : ∀ p ∈ X.pn ++ pins, s.heap.get? p.1 = some p.2 ∧ H p.1 = none ∧ p.1 ≠ X.env.locals ∧ p.1 ∉ X.fs ∧ ∀ v, p.2.data ≠ .cell v
  hok : HOk X.prog X.w H s.heap
  len : σ.length = X.N.length
section
variable {X : Cx} {pins : List (Addr × Obj)} {σ : List (Option V)} {H H' : Hp} {s : Shared} {h' : Heap}
theorem Cx.Ok.nofr (ok : X.Ok) {b : Addr} {o : Obj} (e : X.base.get? b = some o) : b ∉ X.fs := fun hb => by
  have := (ok.funs.mem hb).1
  rw [e] at this; cases this
theorem Inv.bs (I : Inv X pins σ H s) : ∀ b o, X.base.get? b = some o → s.heap.get? b = some o ∧ H b = none := fun b o e =>
  ⟨I.base.keep b o (I.ok.bs b o e).1 (I.ok.bs b o e).2 (I.ok.nofr e) (I.ok.noex b o e), I.base.free b o (I.ok.bs b o e).1 (I.ok.bs b o e).2 (I.ok.noex b o e)⟩
theorem Inv.bk (I : Inv X pins σ H s) : ∀ b o, X.base.get? b = some o → s.heap.get? b = some o := fun b o e => (I.bs b o e).1
theorem Inv.mod (I : Inv X pins σ H s) : Mod X.K X.mg X.base := I.ok.mod
theorem Inv.kIn (I : Inv X pins σ H s) : X.K.In s.heap := I.ok.mod.kin.keeps I.bk
theorem Inv.nolimit (I : Inv X pins σ H s) : s.heap.NoLimit := I.ok.mod.nolimit.keeps I.bk
theorem Inv.lt (I : Inv X pins σ H s) : X.env.locals < s.heap.objs.size := let ⟨_, hn, _⟩ := I.loc; hn.lt
theorem Inv.sz (I : Inv X pins σ H s) : X.s₀.heap.objs.size ≤ s.heap.objs.size := Nat.le_trans I.ok.above (Nat.le_of_lt I.lt)
theorem Inv.nofs (I : Inv X pins σ H s) {a : Addr} (h : s.heap.objs.size ≤ a) : a ∉ X.fs := fun hb => by
  obtain ⟨_, o, ho, _⟩ := I.ok.funs.mem hb
  exact absurd (Nat.lt_of_lt_of_le (Heap.lt_size ho) (Nat.le_trans I.sz h)) (Nat.lt_irrefl _)
theorem Inv.cne (I : Inv X pins σ H s) : ∀ x c, X.env.cells.lookup x = some c → c ≠ X.env.locals := fun x c e z => by
  obtain ⟨v, o, ho, hd⟩ := I.cell x c e
  obtain ⟨m, ⟨o', es, ep, ho', hd', _⟩, _⟩ := I.loc
  rw [z, ho'] at ho; cases ho; rw [hd'] at hd; cases hd
theorem Inv.funs (I : Inv X pins σ H s) : s.heap.FunFrames X.base X.outer := by
  have all : ∀ (l : List Env), (∀ b ∈ frs l, b ∈ X.fs) → X.s₀.heap.FunFrames X.base l → s.heap.FunFrames X.base l := by
    intro l
    induction l with
    | nil => intro _ _; trivial
    | cons env r ih =>
      intro hs hl
      obtain ⟨hk, ⟨L, o, hf, hn, ho, hd⟩, hr⟩ := hl
      have hL : L ∈ X.fs := hs L (by unfold frs; rw [List.filterMap_cons, hf]; exact List.mem_cons_self)
      obtain ⟨sl, e⟩ := I.base.slot L o ho (I.ok.frf L hL) hL fun z => I.ok.exfs L z hL
      exact ⟨hk, ⟨L, _, hf, hn, e, hd⟩, ih (fun b hb => hs b (by unfold frs; rw [List.filterMap_cons, hf]; exact List.mem_cons_of_mem _ hb)) hr⟩
  exact all X.outer (fun _ hb => hb) I.ok.funs
/-- the frames that run, for a call -/
theorem Inv.stack (I : Inv X pins σ H s) : s.heap.FunFrames X.base X.stack := by
  rcases I.ok.stk with e | ⟨e, hf⟩
  · rw [e]; exact I.funs
  · rw [e]
    obtain ⟨m, hn, _⟩ := I.loc
    refine .cons (by rw [I.ok.kind]; decide) hf hn ?_ I.funs
    exact Heap.get?_none_of_le (Nat.le_trans I.ok.bsz I.ok.above)
theorem Inv.stkSub (I : Inv X pins σ H s) : ∀ b ∈ frs X.stack, b ∈ X.env.locals :: X.fs := fun b hb => by
  rcases I.ok.stk with e | ⟨e, hf⟩
  · rw [e] at hb; exact List.mem_cons_of_mem _ hb
  · rw [e] at hb
    unfold frs at hb
    rw [List.filterMap_cons, hf] at hb
    exact hb
theorem Inv.stkFree (I : Inv X pins σ H s) : ∀ b ∈ frs X.stack, H b = none := fun b hb => by
  rcases List.mem_cons.mp (I.stkSub b hb) with e | hb
  · rw [e]; exact I.free
  · obtain ⟨_, o, ho, _⟩ := I.ok.funs.mem hb
    exact I.base.free b o ho (I.ok.frf b hb) fun z => I.ok.exfs b z hb
/-- THE STEP: the untracked objects but the frame and the records at ch are kept (the callers' frames up to slots), the frame's map is kept, the new abstract heap is held -/
theorem Inv.step {g' : Array GenState} {t' : Nat} {d' : Drawn} {ch : List Addr} (I : Inv X pins σ H s)
    (hch : ∀ b ∈ ch, (b ∈ X.ex ∨ X.s₀.heap.objs.size ≤ b) ∧ b ≠ X.env.locals ∧ (∀ x c, X.env.cells.lookup x = some c → c ≠ b) ∧ ∀ p ∈ X.pn ++ pins, p.1 ≠ b)
    (keep : ∀ b o, b ≠ X.env.locals → b ∉ X.fs → b ∉ ch → s.heap.get? b = some o → H b = none → h'.get? b = some o)
    (slot : ∀ b o, b ≠ X.env.locals → b ∈ X.fs → b ∉ ch → s.heap.get? b = some o → H b = none → ∃ sl, h'.get? b = some { o with slots := sl }) (free : ∀ b o, b ∉ ch → s.heap.get? b = some o → H b = none → H' b = none)
    (there : ∀ b o, b ∉ ch → s.heap.get? b = some o → ∃ o', h'.get? b = some o')
    (tups : ∀ b xs, H b = some (.tup xs) → H' b = some (.tup xs)) (frzs : ∀ b o u, H b = some (.frz o u) → H' b = some (.frz o u)) (tbls : ∀ b ps, H b = some (.tbl ps) → ∃ more, H' b = some (.tbl (ps ++ more)))
    (ns : ∀ m, s.heap.Ns X.env.locals m → h'.Ns X.env.locals m) (hok : HOk X.prog X.w H' h') (hg : AllBare g') :
    Inv X pins σ H' { s with heap := h', gens := g', drawn := d', toks := t' } := by
  have neL : ∀ b o, X.s₀.heap.get? b = some o → b ≠ X.env.locals := fun b o e => Nat.ne_of_lt (Nat.lt_of_lt_of_le (Heap.lt_size e) I.ok.above)
  have neC : ∀ b o, X.s₀.heap.get? b = some o → b ∉ X.ex → b ∉ ch := fun b o e hx hb => by
    rcases (hch b hb).1 with z | z
    · exact hx z
    · exact absurd (Nat.lt_of_lt_of_le (Heap.lt_size e) z) (Nat.lt_irrefl _)
  have cellK : ∀ x c, X.env.cells.lookup x = some c → ∀ v, s.heap.IsCell c v → h'.IsCell c v := fun x c e v ⟨o, ho, hd⟩ => by
    have nch : c ∉ ch := fun z => (hch c z).2.2.1 x c e rfl
    by_cases hc : c ∈ X.fs
    · obtain ⟨sl, q⟩ := slot c o (I.cne x c e) hc nch ho (I.freeC x c e)
      exact ⟨_, q, hd⟩
    · exact ⟨o, keep c o (I.cne x c e) hc nch ho (I.freeC x c e), hd⟩
  refine ⟨I.ok, I.os, hg, ⟨fun b o e n hb hx => ?_, fun b o e n hb hx => ?_, fun b o e n hx => ?_, fun b o e hx => ?_, fun b xs e => tups b xs (I.base.tups b xs e), fun b o xs e => frzs b o xs (I.base.frzs b o xs e), fun b ps e => ?_⟩, ?_, fun x c e => ?_, ?_, fun x c e => ?_, fun p hp => ?_, hok, I.len⟩
  · exact keep b o (neL b o e) hb (neC b o e hx) (I.base.keep b o e n hb hx) (I.base.free b o e n hx)
  · obtain ⟨sl, e1⟩ := I.base.slot b o e n hb hx
    obtain ⟨sl', e2⟩ := slot b _ (neL b o e) hb (neC b o e hx) e1 (I.base.free b o e n hx)
    exact ⟨sl', e2⟩
  · obtain ⟨o', e1⟩ := I.base.there b o e hx
    exact free b o' (neC b o e hx) e1 (I.base.free b o e n hx)
  · obtain ⟨o', e1⟩ := I.base.there b o e hx
    exact there b o' (neC b o e hx) e1
  · obtain ⟨m1, e1⟩ := I.base.tbls b ps e
    obtain ⟨m2, e2⟩ := tbls b _ e1
    exact ⟨m1 ++ m2, by rw [e2, Array.append_assoc]⟩
  · obtain ⟨m, hn, hl⟩ := I.loc
    refine ⟨m, ns m hn, fun i x v e1 e2 e3 => ?_⟩
    obtain ⟨u, r, l⟩ := hl i x v e1 e2 e3
    refine ⟨u, r, ?_⟩
    rcases l with l | ⟨k, c, e, z⟩
    · exact .inl l
    · exact .inr ⟨k, c, e, cellK x c e _ z⟩
  · obtain ⟨v, z⟩ := I.cell x c e
    exact ⟨v, cellK x c e v z⟩
  · obtain ⟨m, ⟨o, _, _, ho, _⟩, _⟩ := I.loc
    exact free _ o (fun z => (hch _ z).2.1 rfl) ho I.free
  · obtain ⟨v, o, ho, hd⟩ := I.cell x c e
    exact free c o (fun z => (hch c z).2.2.1 x c e rfl) ho (I.freeC x c e)
  · obtain ⟨e, n, ne, nf, d⟩ := I.pin p hp
    have nch : p.1 ∉ ch := fun z => (hch p.1 z).2.2.2 p hp rfl
    exact ⟨keep p.1 p.2 ne nf nch e n, free p.1 p.2 nch e n, ne, nf, d⟩
/-- .. where the frame's own object is kept too -/
theorem Inv.un {t' : Nat} (I : Inv X pins σ H s) (u : Un X.fs [] H H' s.heap h') (hok : HOk X.prog X.w H' h') : Inv X pins σ H' { s with heap := h', toks := t' } := by
  obtain ⟨m, ⟨o, es, ep, ho, r⟩, _⟩ := id I.loc
  obtain ⟨sl, hL⟩ := u.any ho I.free (by simp)
  exact I.step (g' := s.gens) (d' := s.drawn) (ch := []) (fun _ z => nomatch z) (fun b o _ hb _ e n => u.keep b o e n hb (by simp)) (fun b o _ hb _ e n => u.slot b o e n hb (by simp)) (fun b o _ e n => u.free b o e n (by simp)) (fun b o _ e => u.there b o e (by simp)) u.tups u.frzs u.tbls (fun m' hm => by
    obtain ⟨o', es', ep', ho', r'⟩ := hm
    rw [ho] at ho'; cases ho'
    exact ⟨_, es', ep', hL, r'⟩) hok I.bare
/-- behind a call (or a comprehension's block): the slots of this frame may have changed too, the records at ch may have turned -/
theorem Inv.call {g' : Array GenState} {t' : Nat} {d' : Drawn} {ch : List Addr} (I : Inv X pins σ H s) (u : Un (frs X.stack) ch H H' s.heap h') (hok : HOk X.prog X.w H' h') (hg : AllBare g')
    (hch : ∀ b ∈ ch, (b ∈ X.ex ∨ X.s₀.heap.objs.size ≤ b) ∧ b ≠ X.env.locals ∧ (∀ x c, X.env.cells.lookup x = some c → c ≠ b) ∧ ∀ p ∈ X.pn ++ pins, p.1 ≠ b) :
    Inv X pins σ H' { s with heap := h', gens := g', drawn := d', toks := t' } := by
  obtain ⟨m, ⟨o, es, ep, ho, r⟩, _⟩ := id I.loc
  obtain ⟨sl, hL⟩ := u.any ho I.free fun z => (hch _ z).2.1 rfl
  exact I.step (ch := ch) hch (fun b o hL hb hc e n => u.keep b o e n (fun z => (List.mem_cons.mp (I.stkSub b z)).elim hL hb) hc) (fun b o _ _ hc e n => u.any e n hc) (fun b o hc e n => u.free b o e n hc) (fun b o hc e => u.there b o e hc) u.tups u.frzs u.tbls (fun m' hm => by
    obtain ⟨o', es', ep', ho', r'⟩ := hm
    rw [ho] at ho'; cases ho'
    exact ⟨_, es', ep', hL, r'⟩) hok hg
/-- an untracked record of ours (an iterator) has turned -/
theorem Inv.turned {t' : Nat} {it : Addr} (I : Inv X pins σ H s) (k : ∀ b o, b ≠ it → s.heap.get? b = some o → h'.get? b = some o) (hn : H it = none) (hL : it ≠ X.env.locals)
    (h1 : it ∈ X.ex ∨ X.s₀.heap.objs.size ≤ it) (h2 : ∀ x c, X.env.cells.lookup x = some c → c ≠ it) (h3 : ∀ p ∈ X.pn ++ pins, p.1 ≠ it) : Inv X pins σ H { s with heap := h', toks := t' } := by
  have nit : ∀ b u, H b = some u → b ≠ it := fun b u e z => by rw [z, hn] at e; cases e
  refine I.step (g' := s.gens) (d' := s.drawn) (ch := [it]) (fun b hb => ?_) (fun b o _ _ hc e _ => k b o (fun z => hc (by simp [z])) e) (fun b o _ _ hc e _ => ⟨o.slots, k b o (fun z => hc (by simp [z])) e⟩) (fun _ _ _ _ n => n)
    (fun b o hc e => ⟨o, k b o (fun z => hc (by simp [z])) e⟩) (fun _ _ e => e) (fun _ _ _ e => e) (fun b ps e => ⟨#[], by rw [e]; simp⟩) (fun m hm => ?_) (fun b u e => ?_) I.bare
  · have e : b = it := by simpa using hb
    subst e
    exact ⟨h1, hL, h2, h3⟩
  · obtain ⟨o, es, ep, ho, r⟩ := hm
    exact ⟨o, es, ep, k _ o (Ne.symm hL) ho, r⟩
  · refine (I.hok b u e).stay (fun c v hc q => k c v ?_ q) (fun _ q => q) fun _ _ q => q
    rcases hc with z | z
    · rw [z]; exact nit b u e
    · exact nit c _ z
theorem Inv.tok (I : Inv X pins σ H s) (t : Nat) : Inv X pins σ H { s with toks := t } := I.un (h' := s.heap) (t' := t) Un.refl I.hok
/-- all objects kept -/
theorem Inv.kept {t' : Nat} (I : Inv X pins σ H s) (k : ∀ b u, s.heap.get? b = some u → h'.get? b = some u) : Inv X pins σ H { s with heap := h', toks := t' } := I.un (Un.kept k) (I.hok.kept k)
/-- a new object laid and tracked -/
theorem Inv.laid {a : Addr} {o : HO} {t' : Nat} (I : Inv X pins σ H s) (k : ∀ b u, s.heap.get? b = some u → h'.get? b = some u) (hp : s.heap.objs.size ≤ a) (new : ObjOk X.prog X.w (upd H a o) h' a o) :
    Inv X pins σ (upd H a o) { s with heap := h', toks := t' } := I.un (Un.laid k hp (I.hok.fresh hp)) (I.hok.laid k hp new)
/-- an object written -/
theorem Inv.write {x e : Addr} {o : HO} {t' : Nat} (I : Inv X pins σ H s) (mu : Mut (H x)) (he : e = x ∨ H e = some (.own x)) (k : ∀ b u, b ≠ e → s.heap.get? b = some u → h'.get? b = some u) (heo : ∃ u, h'.get? e = some u)
    (new : ObjOk X.prog X.w (upd H x o) h' x o) : Inv X pins σ (upd H x o) { s with heap := h', toks := t' } := I.un (Un.write mu he k heo) (I.hok.write mu he k heo new)
theorem Inv.pins_of {pins' : List (Addr × Obj)} (I : Inv X pins σ H s) (h : ∀ p ∈ pins', s.heap.get? p.1 = some p.2 ∧ H p.1 = none ∧ p.1 ≠ X.env.locals ∧ p.1 ∉ X.fs ∧ ∀ v, p.2.data ≠ .cell v) : Inv X pins' σ H s :=
  ⟨I.ok, I.os, I.bare, I.base, I.loc, I.cell, I.free, I.freeC, fun p hp => (List.mem_append.mp hp).elim (fun z => I.pin p (List.mem_append_left _ z)) (h p), I.hok, I.len⟩
theorem nodup_ix {N : List Str} (hN : N.Nodup) {i j : Nat} {x : Str} (a : N[i]? = some x) (b : N[j]? = some x) : i = j := by
  obtain ⟨h1, e1⟩ := List.getElem?_eq_some_iff.mp a
  obtain ⟨h2, e2⟩ := List.getElem?_eq_some_iff.mp b
  exact (List.getElem_inj hN).mp (e1.trans e2.symm)
/-- a name is stored; what changed -/
theorem store_ok2 {M : Model} {A : Around} {E : Value → Shared → Prop} {i : Nat} {x : Str} {v : V} {u : Value} {Q : Unit → Shared → Prop} (I : Inv X pins σ H s) (hN : X.N.Nodup) (hi : X.N[i]? = some x) (hx : Loc X.env.scope x) (r : RelV v u)
    (h : ∀ s', Inv X pins (σ.set i (some v)) H s' → (∃ a, Heap.SameBut a s.heap s'.heap ∧ (a = X.env.locals ∨ X.env.cells.lookup x = some a)) → Q () s') (hf : X.fn x = true ∨ X.env.scope.names.lookup x = some .local := by first | exact .inl rfl | exact .inr rfl | assumption) : wpAny M A (storeName X.env x u) Q E s := by
  obtain ⟨m, hn, hl⟩ := id I.loc
  have hcls : (X.env.scope.kind == .class || (X.env.scope.kind == .module && X.env.locals != X.env.globals)) = false := by rw [I.ok.kind]; rfl
  have hiσ : i < σ.length := by rw [I.len]; exact (List.getElem?_eq_some_iff.mp hi).1
  have cne := I.cne
  have tracked : ∀ {a : Addr} {h' : Heap}, (∃ o, s.heap.get? a = some o ∧ H a = none) → Heap.SameBut a s.heap h' → HOk X.prog X.w H h' := fun {a h'} ha hs b ob e => by
    obtain ⟨_, _, hfree⟩ := ha
    refine (I.hok b ob e).stay (fun c w' hc q => (hs.2 c ?_).trans q) (fun _ q => q) fun _ _ q => q
    rintro rfl
    rcases hc with rfl | hc
    · rw [hfree] at e; cases e
    · rw [hfree] at hc; cases hc
  rcases hx with hk | hk
  · refine wpAny_storeName_local hk hn (fun h' hn' hs => ?_) hcls
    obtain ⟨oL, _, _, hoL, _⟩ := id hn
    refine h _ ⟨I.ok, I.os, I.bare, ⟨fun b o e n hb hx => ?_, fun b o e n hb hx => ?_, I.base.free, fun b o e hx => ?_, I.base.tups, I.base.frzs, I.base.tbls⟩, ⟨_, hn', fun j y v' e1 e2 e3 => ?_⟩, fun y c e => ?_, I.free, I.freeC, fun p hp => ?_, tracked ⟨oL, hoL, I.free⟩ hs, by simpa using I.len⟩ ⟨_, hs, .inl rfl⟩
    · exact (hs.2 b (Nat.ne_of_lt (Nat.lt_of_lt_of_le (Heap.lt_size e) I.ok.above))).trans (I.base.keep b o e n hb hx)
    · obtain ⟨sl, e1⟩ := I.base.slot b o e n hb hx
      exact ⟨sl, (hs.2 b (Nat.ne_of_lt (Nat.lt_of_lt_of_le (Heap.lt_size e) I.ok.above))).trans e1⟩
    · obtain ⟨o', e1⟩ := I.base.there b o e hx
      exact ⟨o', (hs.2 b (Nat.ne_of_lt (Nat.lt_of_lt_of_le (Heap.lt_size e) I.ok.above))).trans e1⟩
    · by_cases hj : j = i
      · subst hj
        rw [hi] at e1; cases e1
        rw [List.getElem?_set_self hiσ] at e2
        cases e2
        exact ⟨u, r, .inl ⟨hk, by simp⟩⟩
      · rw [List.getElem?_set_ne (Ne.symm hj)] at e2
        obtain ⟨u', r', q⟩ := hl j y v' e1 e2 e3
        refine ⟨u', r', ?_⟩
        rcases q with ⟨k, e⟩ | ⟨k, c, e, z⟩
        · refine .inl ⟨k, ?_⟩
          have : y ≠ x := fun e => hj (nodup_ix hN e1 (e ▸ hi))
          simp [this, e]
        · exact .inr ⟨k, c, e, z.sameBut hs (cne y c e)⟩
    · obtain ⟨w', z⟩ := I.cell y c e
      exact ⟨w', z.sameBut hs (cne y c e)⟩
    · obtain ⟨e, n, ne, nf, d⟩ := I.pin p hp
      exact ⟨(hs.2 p.1 ne).trans e, n, ne, nf, d⟩
  · have hfn : X.fn x = true := by
      rcases hf with z | z
      · exact z
      · rw [z] at hk; cases hk
    obtain ⟨c, hc⟩ := I.ok.has x (.inl hk)
    obtain ⟨w', z⟩ := I.cell x c hc
    refine wpAny_storeName_cell I.ok.kind hk hc z (fun h' hc' hs => ?_)
    obtain ⟨oc, hoc, hocd⟩ := id z
    refine h { s with heap := h' } ⟨I.ok, I.os, I.bare, ⟨fun b o e n hb hx => ?_, fun b o e n hb hx => ?_, I.base.free, fun b o e hx => ?_, I.base.tups, I.base.frzs, I.base.tbls⟩, ⟨m, hn.sameBut hs (Ne.symm (cne x c hc)), fun j y v' e1 e2 e3 => ?_⟩, fun y c' e => ?_, I.free, I.freeC, fun p hp => ?_, tracked ⟨oc, hoc, I.freeC x c hc⟩ hs, by simpa using I.len⟩ ⟨c, hs, .inr hc⟩
    · exact (hs.2 b (Nat.ne_of_lt (Nat.lt_of_lt_of_le (Heap.lt_size e) (I.ok.cab x c hfn hc)))).trans (I.base.keep b o e n hb hx)
    · obtain ⟨sl, e1⟩ := I.base.slot b o e n hb hx
      exact ⟨sl, (hs.2 b (Nat.ne_of_lt (Nat.lt_of_lt_of_le (Heap.lt_size e) (I.ok.cab x c hfn hc)))).trans e1⟩
    · obtain ⟨o', e1⟩ := I.base.there b o e hx
      exact ⟨o', (hs.2 b (Nat.ne_of_lt (Nat.lt_of_lt_of_le (Heap.lt_size e) (I.ok.cab x c hfn hc)))).trans e1⟩
    · by_cases hj : j = i
      · subst hj
        rw [hi] at e1; cases e1
        rw [List.getElem?_set_self hiσ] at e2
        cases e2
        exact ⟨u, r, .inr ⟨.inl hk, c, hc, hc'⟩⟩
      · rw [List.getElem?_set_ne (Ne.symm hj)] at e2
        obtain ⟨u', r', q⟩ := hl j y v' e1 e2 e3
        refine ⟨u', r', ?_⟩
        rcases q with q | ⟨k, c', e, z'⟩
        · exact .inl q
        · refine .inr ⟨k, c', e, z'.sameBut hs ?_⟩
          rintro rfl
          exact hj (nodup_ix hN e1 (I.ok.inj _ _ _ e hc ▸ hi))
    · by_cases hcc : c' = c
      · subst hcc; exact ⟨_, hc'⟩
      · obtain ⟨w2, z2⟩ := I.cell y c' e
        exact ⟨w2, z2.sameBut hs hcc⟩
    · obtain ⟨e, n, ne, nf, d⟩ := I.pin p hp
      refine ⟨(hs.2 p.1 ?_).trans e, n, ne, nf, d⟩
      intro q
      rw [q, hoc] at e
      have q' : oc = p.2 := Option.some.inj e
      exact d w' (by rw [← q']; exact hocd)
theorem store_ok {M : Model} {A : Around} {E : Value → Shared → Prop} {i : Nat} {x : Str} {v : V} {u : Value} {Q : Unit → Shared → Prop} (I : Inv X pins σ H s) (hN : X.N.Nodup) (hi : X.N[i]? = some x) (hx : Loc X.env.scope x) (r : RelV v u)
    (h : ∀ s', Inv X pins (σ.set i (some v)) H s' → Q () s') (hf : X.fn x = true ∨ X.env.scope.names.lookup x = some .local := by first | exact .inl rfl | exact .inr rfl | assumption) : wpAny M A (storeName X.env x u) Q E s :=
  store_ok2 I hN hi hx r (fun s' I' _ => h s' I') hf
/-- behind a call or a block, the state as it is -/
theorem Inv.call' {s' : Shared} {ch : List Addr} (I : Inv X pins σ H s) (ho : s'.os = s.os) (u : Un (frs X.stack) ch H H' s.heap s'.heap) (hok : HOk X.prog X.w H' s'.heap) (hg : AllBare s'.gens)
    (hch : ∀ b ∈ ch, (b ∈ X.ex ∨ X.s₀.heap.objs.size ≤ b) ∧ b ≠ X.env.locals ∧ (∀ x c, X.env.cells.lookup x = some c → c ≠ b) ∧ ∀ p ∈ X.pn ++ pins, p.1 ≠ b) : Inv X pins σ H' s' := by
  obtain ⟨h', g', d', t', o'⟩ := s'
  have e : o' = s.os := ho
  subst e
  exact I.call (g' := g') (t' := t') (d' := d') u hok hg hch
end
/-- an exception: its class, its own dict's address (where it has one), the abstract heap behind it -/
abbrev XK := Value → Option Addr → Hp → Prop
abbrev St := List (Option V)
abbrev VK := V → Hp → Prop
/-- an expression's reading; a test's; an argument list's -/
abbrev TE := St → Hp → VK → Prop
abbrev TT := St → Hp → (Bool → Hp → Prop) → Prop
abbrev TA := St → Hp → (List V → Hp → Prop) → Prop
/-- what is wanted behind a statement -/
structure Ends where
  nx : St → Hp → Prop
  rt : VK
  bk : St → Hp → Prop := fun _ _ => False
  ct : St → Hp → Prop := fun _ _ => False
abbrev TS := Ends → St → Hp → Prop
def EP (X : Cx) (pins : List (Addr × Obj)) (σ : St) (Q : VK) (u : Value) (s' : Shared) : Prop := ∃ v H', Inv X pins σ H' s' ∧ RelV v u ∧ Q v H'
def TP (X : Cx) (pins : List (Addr × Obj)) (σ : St) (Q : Bool → Hp → Prop) (b : Bool) (s' : Shared) : Prop := ∃ H', Inv X pins σ H' s' ∧ Q b H'
def AP (X : Cx) (pins : List (Addr × Obj)) (σ : St) (Q : List V → Hp → Prop) (us : List Value) (s' : Shared) : Prop := ∃ vs H', Inv X pins σ H' s' ∧ Vals vs us ∧ Q vs H'
def SP (X : Cx) (pins : List (Addr × Obj)) (D : Ends) (f : Flow) (s' : Shared) : Prop :=
  match f with
  | .next => ∃ σ' H', Inv X pins σ' H' s' ∧ D.nx σ' H'
  | .brk => ∃ σ' H', Inv X pins σ' H' s' ∧ D.bk σ' H'
  | .cont => ∃ σ' H', Inv X pins σ' H' s' ∧ D.ct σ' H'
  | .ret u => ∃ v σ' H', Inv X pins σ' H' s' ∧ RelV v u ∧ D.rt v H'
def PE (X : Cx) (e : Expr) (t : TE) : Prop :=
  ∀ (pins : List (Addr × Obj)) (s : Shared) (σ : St) (H : Hp) (Q : VK), Inv X pins σ H s → t σ H Q → wpAny (model X.prog X.w) X.A (eval e X.env) (EP X pins σ Q) X.xe s
def PT (X : Cx) (e : Expr) (t : TT) : Prop :=
  ∀ (pins : List (Addr × Obj)) (s : Shared) (σ : St) (H : Hp) (Q : Bool → Hp → Prop), Inv X pins σ H s → t σ H Q → wpAny (model X.prog X.w) X.A (isTrue e X.env (eval e X.env)) (TP X pins σ Q) X.xe s
/-- a test whatever its 'whole' is (and, or) -/
def PW (X : Cx) (e : Expr) (t : TT) : Prop :=
  ∀ (whole : Sem Value) (pins : List (Addr × Obj)) (s : Shared) (σ : St) (H : Hp) (Q : Bool → Hp → Prop), Inv X pins σ H s → t σ H Q → wpAny (model X.prog X.w) X.A (isTrue e X.env whole) (TP X pins σ Q) X.xe s
theorem PW.pt {X : Cx} {e : Expr} {t : TT} (h : PW X e t) : PT X e t := h _
/-- an argument list (no star), from the left -/
def PA (X : Cx) (es : List Expr) (t : TA) : Prop :=
  ∀ (pos : Pos) (pins : List (Addr × Obj)) (s : Shared) (σ : St) (H : Hp) (Q : List V → Hp → Prop), Inv X pins σ H s → t σ H Q → wpAny (model X.prog X.w) X.A (spliced (backTo pos (starEach es X.env))) (AP X pins σ Q) X.xe s
def PS (X : Cx) (st : Stmt) (t : TS) : Prop :=
  ∀ (pins : List (Addr × Obj)) (s : Shared) (σ : St) (H : Hp) (D : Ends), Inv X pins σ H s → t D σ H → wpAny (model X.prog X.w) X.A (exec st X.env) (SP X pins D) X.xe s
def PSs (X : Cx) (st : List Stmt) (t : TS) : Prop :=
  ∀ (pins : List (Addr × Obj)) (s : Shared) (σ : St) (H : Hp) (D : Ends), Inv X pins σ H s → t D σ H → wpAny (model X.prog X.w) X.A (execs st X.env) (SP X pins D) X.xe s
/-- weaken the end -/
theorem thn {α : Type} {t : Sem α} {Q Q' : α → Shared → Prop} {M : Model} {A : Around} {E : Value → Shared → Prop} {s : Shared} (h : wpAny M A t Q E s) (hQ : ∀ a s, Q a s → Q' a s) : wpAny M A t Q' E s := wpAny_mono h hQ fun _ _ x => x
end L2
namespace L2
open PySem PySem.Spec PyProof.Rows
section
variable {X : Cx}
def tVar (i : Nat) : TE := fun σ H Q => ∃ v, σ[i]? = some (some v) ∧ Q v H
def tC (v : V) : TE := fun _ H Q => Q v H
theorem pe_var {i : Nat} {x : Str} {pos : Pos} (hN : X.N[i]? = some x) (hv : Vis X.env.scope x) (hd : (x == ("__debug__" : Str)) = false := by decide) (hcd : (x == ("__classdict__" : Str)) = false := by decide) : PE X (.Name x pos) (tVar i) := by
  intro pins s σ H Q I h
  obtain ⟨v, e, h⟩ := h
  obtain ⟨m, hn, hl⟩ := I.loc
  obtain ⟨u, r, l⟩ := hl i x v hN e hv
  have fin : EP X pins σ Q u s := ⟨v, H, I, r, h⟩
  rcases l with ⟨hk, hm⟩ | ⟨hk, c, hc, hcell⟩
  · exact wpAny_Name (wpAny_loadName_local I.ok.kind hk hn hm fin) hd
  · rcases hk with hk | hk
    · exact wpAny_Name (wpAny_loadName_cell I.ok.kind hk hc hcell fin) hd
    · exact wpAny_Name (wpAny_loadName_free I.ok.kind hk hc hcell fin hcd) hd
theorem pe_int {i j pos} : PE X (.Constant (.int i) j pos) (tC (.int i)) := fun _ _ _ H _ I h => wpAny_Constant_int ⟨.int i, H, I.tok _, ⟨_, rfl⟩, h⟩
theorem pe_bl {b j pos} : PE X (.Constant (.bool b) j pos) (tC (.bl b)) := fun _ _ _ H _ I h => Constant_bool ⟨.bl b, H, I, rfl, h⟩
theorem pe_non {j pos} : PE X (.Constant .none j pos) (tC .non) := fun _ _ _ H _ I h => Constant_none ⟨.non, H, I, rfl, h⟩
theorem pe_str {x j pos} : PE X (.Constant (.str x) j pos) (tC (.str x)) := fun _ _ _ H _ I h => Calls.Constant_str ⟨.str x, H, I.tok _, ⟨_, rfl⟩, h⟩
/-- a global name of the def -/
def Gl (X : Cx) (x : Str) : Prop := X.env.kindOf x = some .globalImplicit
theorem ld_glob {E : Value → Shared → Prop} {pins : List (Addr × Obj)} {s : Shared} {σ : St} {H : Hp} {x : Str} {u : Value} {pos : Pos} {Q : Value → Shared → Prop} (I : Inv X pins σ H s) (hg : Gl X x) (hm : X.mg x = some u) (h : Q u s)
    (hd : (x == ("__debug__" : Str)) = false := by decide) : wpAny (model X.prog X.w) X.A (eval (.Name x pos) X.env) Q E s :=
  Calls.Name_function_global I.ok.kind hg (Calls.loadGlobal_global (by rw [I.ok.glob]; exact I.mod.glob.keeps I.bk) hm h) hd
theorem ld_blt {E : Value → Shared → Prop} {pins : List (Addr × Obj)} {s : Shared} {σ : St} {H : Hp} {x : Str} {u : Value} {pos : Pos} {Q : Value → Shared → Prop} (I : Inv X pins σ H s) (hg : Gl X x) (hm : X.mg x = none) (hv : bootBuiltins x = some u) (h : Q u s)
    (hn : x ≠ "__name__" := by decide) (hd : (x == ("__debug__" : Str)) = false := by decide) : wpAny (model X.prog X.w) X.A (eval (.Name x pos) X.env) Q E s := by
  obtain ⟨mb, h1, h2⟩ := I.mod.blt
  exact Calls.Name_function_global I.ok.kind hg (Calls.loadGlobal_builtin (by rw [I.ok.glob]; exact I.mod.glob.keeps I.bk) hm (by rw [I.ok.blt]; exact h1.keeps I.bk) ((h2 x hn).trans hv) h) hd
/-- a module's constant, a class, a function, as a value -/
theorem pe_glob {x : Str} {v : V} {u : Value} {pos : Pos} (hg : Gl X x) (hm : X.mg x = some u) (r : RelV v u) (hd : (x == ("__debug__" : Str)) = false := by decide) : PE X (.Name x pos) (tC v) :=
  fun _ _ _ H _ I h => ld_glob I hg hm ⟨v, H, I, r, h⟩ hd
theorem pe_bltn {x : Str} {v : V} {u : Value} {pos : Pos} (hg : Gl X x) (hm : X.mg x = none) (hv : bootBuiltins x = some u) (r : RelV v u) (hn : x ≠ "__name__" := by decide) (hd : (x == ("__debug__" : Str)) = false := by decide) : PE X (.Name x pos) (tC v) :=
  fun _ _ _ H _ I h => ld_blt I hg hm hv ⟨v, H, I, r, h⟩ hn hd
/-- two ints -/
def t2I (ta tb : TE) (k : Int → Int → Hp → Prop) : St → Hp → Prop := fun σ H => ta σ H fun x H1 => tb σ H1 fun y H2 => ∃ i j, x = .int i ∧ y = .int j ∧ k i j H2
def tAdd (ta tb : TE) : TE := fun σ H Q => t2I ta tb (fun i j H2 => Q (.int (i + j)) H2) σ H
def tSub (ta tb : TE) : TE := fun σ H Q => t2I ta tb (fun i j H2 => Q (.int (i - j)) H2) σ H
/-- the left factor below 2^64 -/
def tMul (ta tb : TE) : TE := fun σ H Q => t2I ta tb (fun i j H2 => (-(2 ^ 64) < i ∧ i < 2 ^ 64) ∧ Q (.int (i * j)) H2) σ H
variable {a b : Expr} {ta tb : TE} {pos : Pos}
def PC (X : Cx) (op : CmpOp) (a b : Expr) (t : TE) : Prop :=
  ∀ (pins : List (Addr × Obj)) (s : Shared) (σ : St) (H : Hp) (Q : VK), Inv X pins σ H s → t σ H Q →
    wpAny (model X.prog X.w) X.A (eval a X.env) (fun v s₁ => wpAny (model X.prog X.w) X.A (eval b X.env) (fun u s₂ => wpAny (model X.prog X.w) X.A (compareOp op v u) (EP X pins σ Q) X.xe s₂) X.xe s₁) X.xe s
def tCmp (p : Int → Int → Bool) (ta tb : TE) : TE := fun σ H Q => t2I ta tb (fun i j H2 => Q (.bl (p i j)) H2) σ H
abbrev tLt : TE → TE → TE := tCmp fun i j => decide (i < j)
abbrev tLe : TE → TE → TE := tCmp fun i j => decide (i ≤ j)
abbrev tGt : TE → TE → TE := tCmp fun i j => decide (j < i)
abbrev tGe : TE → TE → TE := tCmp fun i j => decide (j ≤ i)
abbrev tEqI : TE → TE → TE := tCmp fun i j => decide (i = j)
abbrev tNeI : TE → TE → TE := tCmp fun i j => !decide (i = j)
/-- is None -/
def tIsN (ta : TE) : TE := fun σ H Q => ta σ H fun x H1 => Q (.bl (decide (x = .non))) H1
def tNotN (ta : TE) : TE := fun σ H Q => ta σ H fun x H1 => Q (.bl (!decide (x = .non))) H1
/-- a comparison as a value, as a test -/
def tB (t : TE) : TT := fun σ H Q => t σ H fun x H1 => ∃ c, x = .bl c ∧ Q c H1
/-- an expression whose value is a bool, as a test -/
theorem pt_val {e : Expr} {t : TE} (h : PE X e t) (he : ∀ whole, isTrue e X.env whole = (do let v ← whole; standAt e.pos; holding [v] (truthy v)) := by intro _; rfl) : PT X e (tB t) := by
  intro pins s σ H Q I hw
  refine isTrue_plain (thn (h pins s σ H _ I hw) fun v s1 ⟨x, H1, I1, r1, q1⟩ => ?_) (he _)
  obtain ⟨d, rfl, q⟩ := q1
  cases r1
  exact wpAny_truthy_bool ⟨H1, I1, q⟩
variable {tA tB' : TT} {rest : List Expr}
def tAnd (t u : TT) : TT := fun σ H Q => t σ H fun c H1 => if c = true then u σ H1 Q else Q false H1
def tOr (t u : TT) : TT := fun σ H Q => t σ H fun c H1 => if c = true then Q true H1 else u σ H1 Q
def tNot (t : TT) : TT := fun σ H Q => t σ H fun c H1 => Q (!c) H1
theorem pw_and1 (ha : PT X a tA) : PW X (.BoolOp .And [a] pos) tA := by
  intro wh pins s σ H Q I h
  refine isTrue_and (thn (ha pins s σ H Q I h) fun c s1 e => ?_)
  cases c with
  | true => exact isTrue_and_nil e
  | false => exact e
theorem pw_or1 (ha : PT X a tA) : PW X (.BoolOp .Or [a] pos) tA := by
  intro wh pins s σ H Q I h
  refine isTrue_or (thn (ha pins s σ H Q I h) fun c s1 e => ?_)
  cases c with
  | false => exact isTrue_or_nil e
  | true => exact e
theorem pw_and (ha : PT X a tA) (hb : PW X (.BoolOp .And (b :: rest) pos) tB') : PW X (.BoolOp .And (a :: b :: rest) pos) (tAnd tA tB') := by
  intro wh pins s σ H Q I h
  refine isTrue_and (thn (ha pins s σ H _ I h) fun c s1 ⟨H1, I1, q1⟩ => ?_)
  cases c with
  | true => exact hb wh pins s1 σ H1 Q I1 q1
  | false => exact ⟨H1, I1, q1⟩
theorem pw_or (ha : PT X a tA) (hb : PW X (.BoolOp .Or (b :: rest) pos) tB') : PW X (.BoolOp .Or (a :: b :: rest) pos) (tOr tA tB') := by
  intro wh pins s σ H Q I h
  refine isTrue_or (thn (ha pins s σ H _ I h) fun c s1 ⟨H1, I1, q1⟩ => ?_)
  cases c with
  | true => exact ⟨H1, I1, q1⟩
  | false => exact hb wh pins s1 σ H1 Q I1 q1
theorem pt_not (ha : PT X a tA) : PT X (.UnaryOp .Not a pos) (tNot tA) := by
  intro pins s σ H Q I h
  exact isTrue_not (ha pins s σ H (fun c H1 => Q (!c) H1) I h)
/-- .. as values (bools) -/
def tAndV (ta tb : TE) : TE := fun σ H Q => ta σ H fun x H1 => ∃ c, x = .bl c ∧ if c = true then tb σ H1 Q else Q (.bl false) H1
def tOrV (ta tb : TE) : TE := fun σ H Q => ta σ H fun x H1 => ∃ c, x = .bl c ∧ if c = true then Q (.bl true) H1 else tb σ H1 Q
def tNotV (ta : TE) : TE := fun σ H Q => ta σ H fun x H1 => ∃ c, x = .bl c ∧ Q (.bl (!c)) H1
theorem pe_one {op} {t : TE} (h : PE X a t) : PE X (.BoolOp op [a] pos) t := fun pins s σ H Q I hw => BoolOp_one (h pins s σ H Q I hw)
theorem pe_and (ha : PE X a ta) (hb : PE X (.BoolOp .And (b :: rest) pos) tb) : PE X (.BoolOp .And (a :: b :: rest) pos) (tAndV ta tb) := by
  intro pins s σ H Q I h
  refine BoolOp_and (thn (ha pins s σ H _ I h) fun v s1 ⟨x, H1, I1, r1, q1⟩ => ?_)
  obtain ⟨c, rfl, q1⟩ := q1
  cases r1
  refine wpAny_truthy_bool ?_
  cases c with
  | true => exact hb pins s1 σ H1 Q I1 q1
  | false => exact ⟨.bl false, H1, I1, rfl, q1⟩
theorem pe_not (ha : PE X a ta) : PE X (.UnaryOp .Not a pos) (tNotV ta) := by
  intro pins s σ H Q I h
  refine UnaryOp_ (thn (ha pins s σ H _ I h) fun v s1 ⟨x, H1, I1, r1, q1⟩ => ?_)
  obtain ⟨c, rfl, q1⟩ := q1
  cases r1
  exact not_of (wpAny_truthy_bool ⟨.bl (!c), H1, I1, rfl, q1⟩)
/-- a if t else b -/
def tIf (t : TT) (ta tb : TE) : TE := fun σ H Q => t σ H fun c H1 => if c = true then ta σ H1 Q else tb σ H1 Q
end
end L2
namespace L2
open PySem PySem.Spec PyProof.Rows
def SqL (K : PySem.W.Frag) (H : Hp) (a : Addr) (xs : List V) : Prop :=
  Rd H a (.lst xs) ∨
    ∃ (o : Obj) (its : Array Value) (n : Nat), K.lookup a = some o ∧ o.cls = .type "list" ∧ o.dict = none ∧ o.data = .seq its n ∧ its.size ≤ sizeLine ∧ Vals xs its.toList
def SqT (K : PySem.W.Frag) (H : Hp) (a : Addr) (xs : List V) : Prop :=
  Rd H a (.tup xs) ∨
    ∃ (o : Obj) (its : Array Value) (n : Nat), K.lookup a = some o ∧ o.cls = .type "tuple" ∧ o.data = .seq its n ∧ its.size ≤ sizeLine ∧ Vals xs its.toList
def absV : Value → Option V
  | .none => some .non
  | .bool b => some (.bl b)
  | .int i _ => some (.int i)
  | .str x _ => some (.str x)
  | .bytes b _ => some (.byt b)
  | .float b _ => some (.flt b)
  | .ref a => some (.ref a)
  | .type n => some (.ty n)
  | _ => none
theorem RelV.abs {x : V} {u : Value} (r : RelV x u) : absV u = some x := by
  cases x with
  | non => cases r; rfl
  | bl _ => cases r; rfl
  | int _ => obtain ⟨t, rfl⟩ := r; rfl
  | str _ => obtain ⟨t, rfl⟩ := r; rfl
  | byt _ => obtain ⟨t, rfl⟩ := r; rfl
  | flt _ => obtain ⟨t, rfl⟩ := r; rfl
  | ref _ => cases r; rfl
  | ty _ => cases r; rfl
theorem RelV.inj {x y : V} {u : Value} (r : RelV x u) (q : RelV y u) : x = y := Option.some.inj (r.abs.symm.trans q.abs)
theorem Vals.inj : ∀ {xs ys : List V} {us : List Value}, Vals xs us → Vals ys us → xs = ys
  | _, _, _, .nil, .nil => rfl
  | _, _, _, .cons r t, .cons r' t' => by rw [r.inj r', Vals.inj t t']
section
variable {X : Cx} {pins : List (Addr × Obj)} {σ : St} {H : Hp} {s : Shared} {a : Addr} {xs ys : List V}
theorem SqL.of {K : PySem.W.Frag} (h : H a = some (.lst xs)) : SqL K H a xs := .inl (.inl h)
theorem SqT.of {K : PySem.W.Frag} (h : H a = some (.tup xs)) : SqT K H a xs := .inl (.inl h)
theorem Inv.list (I : Inv X pins σ H s) (h : SqL X.K H a xs) : ∃ its : List Value, Vals xs its ∧ PlainL s.heap a its.toArray ∧ xs.length ≤ sizeLine := by
  rcases h with h | ⟨o, its, n, hk, hc, hd, hs, hz, r⟩
  · obtain ⟨z, its, n, r, e⟩ := h.ok I.hok
    exact ⟨its, r, ⟨_, n, e, rfl, rfl, rfl⟩, z⟩
  · refine ⟨its.toList, r, ⟨o, n, I.kIn a o hk, hc, hd, by simpa using hs⟩, ?_⟩
    have e := r.length
    simp only [Array.length_toList] at e
    omega
theorem Inv.tuple (I : Inv X pins σ H s) (h : SqT X.K H a xs) : ∃ its : List Value, Vals xs its ∧ IsTup s.heap a its.toArray ∧ xs.length ≤ sizeLine := by
  rcases h with h | ⟨o, its, n, hk, hc, hs, hz, r⟩
  · obtain ⟨z, its, r, p⟩ := h.ok I.hok
    exact ⟨its, r, p, z⟩
  · refine ⟨its.toList, r, ⟨o, I.kIn a o hk, hc, n, by simpa using hs⟩, ?_⟩
    have e := r.length
    simp only [Array.length_toList] at e
    omega
theorem Inv.list_inj (I : Inv X pins σ H s) (h : SqL X.K H a xs) (h' : SqL X.K H a ys) : xs = ys := by
  obtain ⟨its, r, ⟨o, n, e, _, _, d⟩, _⟩ := I.list h
  obtain ⟨its', r', ⟨o', n', e', _, _, d'⟩, _⟩ := I.list h'
  rw [e] at e'; cases e'
  rw [d] at d'
  injection d' with d1 _
  have : its = its' := by simpa using congrArg Array.toList d1
  subst this
  exact r.inj r'
theorem Inv.tuple_inj (I : Inv X pins σ H s) (h : SqT X.K H a xs) (h' : SqT X.K H a ys) : xs = ys := by
  obtain ⟨its, r, ⟨o, e, _, n, d⟩, _⟩ := I.tuple h
  obtain ⟨its', r', ⟨o', e', _, n', d'⟩, _⟩ := I.tuple h'
  rw [e] at e'; cases e'
  rw [d] at d'
  injection d' with d1 _
  have : its = its' := by simpa using congrArg Array.toList d1
  subst this
  exact r.inj r'
end
abbrev Cx.wish (X : Cx) (E : Value → Shared → Prop) : Cx := { X with xe := E }
/-- no exception leaves -/
abbrev Cx.nox (X : Cx) : Cx := X.wish fun _ _ => False
theorem Cx.Ok.wish {X : Cx} (ok : X.Ok) (E : Value → Shared → Prop) : (X.wish E).Ok :=
  ⟨ok.mod, ok.kind, ok.glob, ok.blt, ok.above, ok.inj, ok.has, ok.cab, ok.hd, ok.frames, ok.stk, ok.exf, ok.bs, ok.bsz, ok.noex, ok.exfs, ok.funs, ok.frf⟩
theorem Cx.Ok.unwish {X : Cx} {E : Value → Shared → Prop} (ok : (X.wish E).Ok) : X.Ok :=
  ⟨ok.mod, ok.kind, ok.glob, ok.blt, ok.above, ok.inj, ok.has, ok.cab, ok.hd, ok.frames, ok.stk, ok.exf, ok.bs, ok.bsz, ok.noex, ok.exfs, ok.funs, ok.frf⟩
section
variable {X : Cx} {pins : List (Addr × Obj)} {σ : St} {H : Hp} {s : Shared} {E : Value → Shared → Prop}
theorem Inv.wish (I : Inv X pins σ H s) (E : Value → Shared → Prop) : Inv (X.wish E) pins σ H s := ⟨I.ok.wish E, I.os, I.bare, I.base, I.loc, I.cell, I.free, I.freeC, I.pin, I.hok, I.len⟩
theorem Inv.unwish (I : Inv (X.wish E) pins σ H s) : Inv X pins σ H s := ⟨I.ok.unwish, I.os, I.bare, I.base, I.loc, I.cell, I.free, I.freeC, I.pin, I.hok, I.len⟩
theorem SP.unwish {D : Ends} {f : Flow} {s' : Shared} (h : SP (X.wish E) pins D f s') : SP X pins D f s' := by
  cases f with
  | next => obtain ⟨σ', H', I, q⟩ := h; exact ⟨σ', H', I.unwish, q⟩
  | brk => obtain ⟨σ', H', I, q⟩ := h; exact ⟨σ', H', I.unwish, q⟩
  | cont => obtain ⟨σ', H', I, q⟩ := h; exact ⟨σ', H', I.unwish, q⟩
  | ret u => obtain ⟨v, σ', H', I, r, q⟩ := h; exact ⟨v, σ', H', I.unwish, r, q⟩
theorem PSs.nox {st : List Stmt} {t : TS} (h : PSs X.nox st t) : PSs X st t := fun pins s σ H D I hw =>
  wpAny_mono (h pins s σ H D (I.wish _) hw) (fun _ _ q => q.unwish) fun _ _ z => False.elim z
end
section
variable {X : Cx} {st : Stmt} {rest : List Stmt} {t u : TS} {e : Expr} {te : TE} {pos : Pos}
def tNext : TS := fun D σ H => D.nx σ H
def tSeq (t u : TS) : TS := fun D σ H => t { D with nx := u D } σ H
theorem pss_nil : PSs X [] tNext := fun _ _ σ H _ I h => wpAny_execs_nil ⟨σ, H, I, h⟩
theorem pss_cons (h1 : PS X st t) (h2 : PSs X rest u) : PSs X (st :: rest) (tSeq t u) := by
  intro pins s σ H D I h
  refine wpAny_execs_cons (thn (h1 pins s σ H { D with nx := u D } I h) fun f s1 q => ?_)
  cases f with
  | next =>
    obtain ⟨σ', H', I', q⟩ := q
    exact h2 pins s1 σ' H' D I' q
  | ret v => exact q
  | brk => exact q
  | cont => exact q
theorem pss_one (h1 : PS X st t) : PSs X [st] t := by
  intro pins s σ H D I h
  refine wpAny_execs_cons (thn (h1 pins s σ H D I h) fun f s1 q => ?_)
  cases f with
  | next => exact wpAny_execs_nil q
  | ret v => exact q
  | brk => exact q
  | cont => exact q
def tBreak : TS := fun D σ H => D.bk σ H
def tCont : TS := fun D σ H => D.ct σ H
/-- in a def's body nothing is shown -/
theorem Inv.quiet {pins : List (Addr × Obj)} {σ : St} {H : Hp} {s : Shared} (I : Inv X pins σ H s) : interactive X.env = false := by simp [interactive, I.ok.kind]
/-- an expression whose value is dropped -/
def tDrop (te : TE) : TS := fun D σ H => te σ H fun _ H1 => D.nx σ H1
theorem ps_expr (he : PE X e te) (hs : swapsWith e none pos.line X.env = pure false := by rfl) : PS X (.Expr e pos) (tDrop te) := by
  intro pins s σ H D I h
  exact wpAny_Expr_any (thn (he pins s σ H _ I h) fun v s1 ⟨x, H1, I1, r1, q1⟩ => ⟨σ, H1, I1, q1⟩) I.quiet hs
def tRet (te : TE) : TS := fun D σ H => te σ H D.rt
theorem ps_ret (he : PE X e te) : PS X (.Return (some e) pos) (tRet te) := by
  intro pins s σ H D I h
  exact wpAny_Return_some (thn (he pins s σ H _ I h) fun v s1 ⟨x, H1, I1, r1, q1⟩ => ⟨x, σ, H1, I1, r1, q1⟩)
def tRetN : TS := fun D _ H => D.rt .non H
def tIfS (c : TT) (t u : TS) : TS := fun D σ H => c σ H fun b H1 => if b = true then t D σ H1 else u D σ H1
theorem ps_if {c : Expr} {a b : List Stmt} {tc : TT} (hc : PT X c tc) (ha : PSs X a t) (hb : PSs X b u) : PS X (.If c a b pos) (tIfS tc t u) := by
  intro pins s σ H D I h
  refine wpAny_If (thn (hc pins s σ H _ I h) fun d s1 ⟨H1, I1, q1⟩ => ?_)
  cases d with
  | true => exact ha pins s1 σ H1 D I1 q1
  | false => exact hb pins s1 σ H1 D I1 q1
/-- code that the proof never comes to -/
def tNever : TS := fun _ _ _ => False
end
abbrev TG := V → St → Hp → (St → Hp → Prop) → Prop
abbrev TGs := List V → St → Hp → (St → Hp → Prop) → Prop
def PG (X : Cx) (target : Expr) (t : TG) : Prop :=
  ∀ (pins : List (Addr × Obj)) (s : Shared) (σ : St) (H : Hp) (v : V) (u : Value) (Q : St → Hp → Prop), Inv X pins σ H s → RelV v u → t v σ H Q →
    wpAny (model X.prog X.w) X.A (assign target X.env u) (fun _ s' => ∃ σ' H', Inv X pins σ' H' s' ∧ Q σ' H') X.xe s
/-- several targets, one after another -/
def PGs (X : Cx) (ts : List Expr) (t : TGs) : Prop :=
  ∀ (pins : List (Addr × Obj)) (s : Shared) (σ : St) (H : Hp) (vs : List V) (us : List Value) (Q : St → Hp → Prop), Inv X pins σ H s → Vals vs us → t vs σ H Q →
    wpAny (model X.prog X.w) X.A (assignInOrder ((assignEach ts X.env).map (·.2)) us) (fun _ s' => ∃ σ' H', Inv X pins σ' H' s' ∧ Q σ' H') X.xe s
/-- o[i] = v, by values -/
abbrev TSet := V → V → V → Hp → (Hp → Prop) → Prop
def PSet (X : Cx) (t : TSet) : Prop :=
  ∀ (pins : List (Addr × Obj)) (s : Shared) (σ : St) (H : Hp) (o i v : V) (ov iv u : Value) (Q : Hp → Prop), Inv X pins σ H s → RelV o ov → RelV i iv → RelV v u → t o i v H Q →
    wpAny (model X.prog X.w) X.A (setItem ov iv u) (fun _ s' => ∃ H', Inv X pins σ H' s' ∧ Q H') X.xe s
/-- a op= b, by values -/
abbrev TIp := V → V → Hp → VK → Prop
def PIp (X : Cx) (op : Operator) (t : TIp) : Prop :=
  ∀ (pins : List (Addr × Obj)) (s : Shared) (σ : St) (H : Hp) (x y : V) (v u : Value) (Q : VK), Inv X pins σ H s → RelV x v → RelV y u → t x y H Q →
    wpAny (model X.prog X.w) X.A (inplaceOp op v u) (EP X pins σ Q) X.xe s
section
variable {X : Cx} {pos : Pos}
def gName (i : Nat) : TG := fun v σ H Q => Q (σ.set i (some v)) H
theorem pg_name {i : Nat} {x : Str} (hN : X.N.Nodup) (hi : X.N[i]? = some x) (hx : Loc X.env.scope x) (hf : X.fn x = true ∨ X.env.scope.names.lookup x = some .local := by first | exact .inl rfl | exact .inr rfl | assumption) : PG X (.Name x pos) (gName i) := by
  intro pins s σ H v u Q I r h
  exact wpAny_assign_Name (store_ok I hN hi hx r (fun s' I' => ⟨_, H, I', h⟩) hf)
def gNil : TGs := fun vs σ H Q => vs = [] ∧ Q σ H
def gCons (t : TG) (u : TGs) : TGs := fun vs σ H Q => ∃ v r, vs = v :: r ∧ t v σ H fun σ' H' => u r σ' H' Q
theorem pgs_nil : PGs X [] gNil := by
  intro pins s σ H vs us Q I r h
  obtain ⟨e, h⟩ := h
  subst e
  cases r
  exact assignInOrder_nil ⟨σ, H, I, h⟩
theorem pgs_cons {e : Expr} {es : List Expr} {t : TG} {u : TGs} (h1 : PG X e t) (h2 : PGs X es u)
    (hs : (assignEach (e :: es) X.env).map (·.2) = assign e X.env :: (assignEach es X.env).map (·.2) := by rfl) : PGs X (e :: es) (gCons t u) := by
  intro pins s σ H vs us Q I r h
  obtain ⟨v, vr, e1, h⟩ := h
  subst e1
  cases r with
  | cons r rr =>
    rw [hs]
    refine assignInOrder_cons (thn (h1 pins s σ H _ _ _ I r h) fun _ s1 ⟨σ1, H1, I1, q1⟩ => ?_)
    exact h2 pins s1 σ1 H1 _ _ Q I1 rr q1
/-- (a, b, ..) = a tuple of that length -/
def gTup (K : PySem.W.Frag) (n : Nat) (t : TGs) : TG := fun v σ H Q => ∃ a xs, v = .ref a ∧ SqT K H a xs ∧ xs.length = n ∧ t xs σ H Q
theorem pg_tup {es : List Expr} {k : Nat} {t : TGs} {n : Nat} (hc : X.calm = true) (h : PGs X es t)
    (hn : (assignEach es X.env).length = n := by rfl) (hst : (assignEach es X.env).findIdx? (·.1) = none := by rfl) : PG X (.Tuple es k pos) (gTup X.K n t) := by
  intro pins s σ H v u Q I r hw
  obtain ⟨a, xs, e1, hq, hl, hw⟩ := hw
  subst e1
  cases r
  obtain ⟨its, rv, ht, hz⟩ := I.tuple hq
  refine assign_Tuple_tuple (I.ok.hd hc) ht (by simp [hn, ← hl, rv.length]) hst fun h' hx => ?_
  have I1 : Inv X pins σ H { s with heap := h' } := I.kept (t' := s.toks) fun b o e => hx b o (Nat.ne_of_lt (Heap.lt_size e)) e
  exact h pins _ σ H xs _ Q I1 (by simpa using rv) hw
/-- o[i] = .. -/
def gSub (to ti : TE) (t : TSet) : TG := fun v σ H Q => to σ H fun o H1 => ti σ H1 fun i H2 => t o i v H2 fun H3 => Q σ H3
theorem pg_sub {o i : Expr} {to ti : TE} {t : TSet} (ho : PE X o to) (hi : PE X i ti) (hs : PSet X t)
    (ha : ∀ v, assign (.Subscript o i pos) X.env v = (do
      let ov ← holding [v] (eval o X.env)
      let iv ← holding [v, ov] (eval i X.env)
      standAt pos
      holding [v, ov, iv] (setItem ov iv v)
      release [v, ov, iv] []) := by intro _; rfl) : PG X (.Subscript o i pos) (gSub to ti t) := by
  intro pins s σ H v u Q I r h
  rw [ha]
  refine wpAny_bind (wpAny_holding (thn (ho pins s σ H _ I h) fun ov s1 ⟨x, H1, I1, r1, q1⟩ => ?_))
  refine wpAny_bind (wpAny_holding (thn (hi pins s1 σ H1 _ I1 q1) fun iv s2 ⟨y, H2, I2, r2, q2⟩ => ?_))
  refine wpAny_bind (wpAny_standAt (wpAny_bind (wpAny_holding (thn (hs pins s2 σ H2 x y v ov iv u _ I2 r1 r2 r q2) fun _ s3 ⟨H3, I3, q3⟩ => ?_))))
  exact wpAny_release ⟨σ, H3, I3, q3⟩
/-- target = value -/
def tAsg (te : TE) (g : TG) : TS := fun D σ H => te σ H fun x H1 => g x σ H1 D.nx
theorem ps_asg {tg e : Expr} {te : TE} {g : TG} (he : PE X e te) (hg : PG X tg g) (hs : swapsWithSole [tg] e pos.line X.env = pure false := by rfl) (hw : swappedStores [tg] e X.env = pure none := by rfl)
    (h1 : (assignEach [tg] X.env).map (·.2) = [assign tg X.env] := by rfl) : PS X (.Assign [tg] e pos) (tAsg te g) := by
  intro pins s σ H D I h
  refine wpAny_Assign_stores (thn (he pins s σ H _ I h) fun v s1 ⟨x, H1, I1, r1, q1⟩ => ?_) hs hw
  rw [h1]
  exact thn (hg pins s1 σ H1 x v _ I1 r1 q1) fun _ s2 q => q
/-- name = value -/
theorem ps_set {i : Nat} {x : Str} {e : Expr} {te : TE} {pos' : Pos} (hN : X.N.Nodup) (hi : X.N[i]? = some x) (hx : Loc X.env.scope x) (he : PE X e te) (hs : swapsWith e (some (.Name x pos')) pos.line X.env = pure false := by rfl) (hf : X.fn x = true ∨ X.env.scope.names.lookup x = some .local := by first | exact .inl rfl | exact .inr rfl | assumption) :
    PS X (.Assign [.Name x pos'] e pos) (tAsg te (gName i)) := by
  intro pins s σ H D I h
  refine wpAny_Assign_Name (thn (he pins s σ H _ I h) fun v s1 ⟨y, H1, I1, r1, q1⟩ => ?_) hs
  exact store_ok I1 hN hi hx r1 (fun s2 I2 => ⟨_, H1, I2, q1⟩) hf
/-- a, b = x, y with plain local names: stored from the right; the pair itself is not tracked (the opening rows as in PyProof/Rows/TupAssign.lean:23) -/
def tPar (i j : Nat) (ta : TA) : TS := fun D σ H => ta σ H fun vs H1 => ∃ v w, vs = [v, w] ∧ D.nx ((σ.set i (some v)).set j (some w)) H1
theorem ps_par {i j : Nat} {x y : Str} {a b : Expr} {ta : TA} {px py pt : Pos} {kt k2 pt2} (hc : X.calm = true) (hN : X.N.Nodup) (hi : X.N[i]? = some x) (hj : X.N[j]? = some y) (hij : i ≠ j)
    (hx : X.env.scope.names.lookup x = some .local) (hy : X.env.scope.names.lookup y = some .local) (ha : PA X [a, b] ta)
    (hw : swappedStores [.Tuple [.Name x px, .Name y py] kt pt] (.Tuple [a, b] k2 pt2) X.env = pure (some [x, y]))
    (hs : swapsWithSole [.Tuple [.Name x px, .Name y py] kt pt] (.Tuple [a, b] k2 pt2) pos.line X.env = pure false := by rfl) :
    PS X (.Assign [.Tuple [.Name x px, .Name y py] kt pt] (.Tuple [a, b] k2 pt2) pos) (tPar i j ta) := by
  intro pins s σ H D I h
  rw [exec_Assign_arm]
  refine wpAny_bind (wpAny_standAt ?_)
  rw [hs]
  refine wpAny_bind (wpAny_pure ?_)
  rw [if_neg (by decide)]
  refine wpAny_bind (Tuple_ (thn (ha _ pins s σ H _ I h) fun us s1 ⟨vs, H1, I1, r1, q1⟩ => ?_))
  obtain ⟨v, w, e1, q1⟩ := q1
  subst e1
  obtain ⟨u1, u2, rfl, rv, rw'⟩ : ∃ u1 u2, us = [u1, u2] ∧ RelV v u1 ∧ RelV w u2 := by
    cases r1 with
    | cons p q =>
      cases q with
      | cons p' q' =>
        cases q'
        exact ⟨_, _, rfl, p, p'⟩
  refine wpAny_newObj_type ?_ (by show 2 ≤ sizeLine; decide)
  have I2 : Inv X pins σ H1 { s1 with heap := s1.heap.push { cls := .type "tuple", data := .seq [u1, u2].toArray } } := I1.kept (t' := s1.toks) fun b o e => Heap.get?_push_of_some _ e
  rw [hw]
  refine wpAny_bind (wpAny_pure ?_)
  show wpAny (model X.prog X.w) X.A (do rule "assign.swapped-stores"; let items ← unpackItems (.ref s1.heap.objs.size) 2 none; assignInOrder [fun v => bindName X.env y v, fun v => bindName X.env x v] items.reverse; pure Flow.next) _ _ _
  refine wpAny_bind (wpAny_rule (wpAny_bind (unpackItems_tuple (items := #[u1, u2]) (I.ok.hd hc) (IsTup.new s1.heap _) fun h' hx' => ?_)))
  have I3 := I2.kept (h' := h') (t' := s1.toks) fun b o e => hx' b o (Nat.ne_of_lt (Heap.lt_size e)) e
  show wpAny _ _ (assignInOrder [fun v => bindName X.env y v, fun v => bindName X.env x v] [u2, u1] >>= fun _ => pure Flow.next) _ _ _
  refine wpAny_bind (assignInOrder_cons (wpAny_bindName (store_ok I3 hN hj (.inl hy) rw' (fun s2 I4 => ?_) (.inr hy))))
  refine assignInOrder_cons (wpAny_bindName (store_ok I4 hN hi (.inl hx) rv (fun s3 I5 => assignInOrder_nil (wpAny_pure ?_)) (.inr hx)))
  rw [List.set_comm _ _ (Ne.symm hij)] at I5
  exact ⟨_, H1, I5, q1⟩
/-- name op= e -/
def tAug (i : Nat) (te : TE) (ti : TIp) : TS := fun D σ H => ∃ x, σ[i]? = some (some x) ∧ te σ H fun y H1 => ti x y H1 fun z H2 => D.nx (σ.set i (some z)) H2
/-- o[i] op= e -/
def tAugS (to ti te : TE) (tget : V → V → Hp → VK → Prop) (tip : TIp) (tset : TSet) : TS := fun D σ H => to σ H fun o H1 => ti σ H1 fun i H2 => tget o i H2 fun x H3 => te σ H3 fun y H4 => tip x y H4 fun z H5 => tset o i z H5 fun H6 => D.nx σ H6
/-- o[i], by values -/
def PGet (X : Cx) (t : V → V → Hp → VK → Prop) : Prop :=
  ∀ (pins : List (Addr × Obj)) (s : Shared) (σ : St) (H : Hp) (o i : V) (ov iv : Value) (Q : VK), Inv X pins σ H s → RelV o ov → RelV i iv → t o i H Q →
    wpAny (model X.prog X.w) X.A (getItem ov iv) (EP X pins σ Q) X.xe s
/-- ints -/
def ipI (f : Int → Int → Int) : TIp := fun x y H Q => ∃ i j, x = .int i ∧ y = .int j ∧ Q (.int (f i j)) H
end
section
variable {X : Cx} {pos : Pos}
/-- the invariant W with its measure -/
def tWhile (c : TT) (tb : TS) : TS := fun D σ H => ∃ W : Nat → St → Hp → Prop, (∃ m, W m σ H) ∧ ∀ m σ H, W m σ H →
  c σ H fun b H1 => if b = true then ∃ N : St → Hp → Prop, (∀ σ' H', N σ' H' → ∃ m', m' < m ∧ W m' σ' H') ∧ tb { D with nx := N, ct := N, bk := D.nx } σ H1 else D.nx σ H1
theorem ps_while {c : Expr} {body : List Stmt} {tc : TT} {tb : TS} (hp : PassesOwn (model X.prog X.w) X.A X.env X.xe) (hc : PT X c tc) (hb : PSs X body tb) : PS X (.While c body [] pos) (tWhile tc tb) := by
  intro pins s σ H D I h
  obtain ⟨W, ⟨m0, w0⟩, turn⟩ := h
  refine wpAny_While (codeAny_whileLoop (fun n s' => ∃ σ' H', Inv X pins σ' H' s' ∧ W n σ' H') ?_ m0 ⟨σ, H, I, w0⟩)
  rintro n s1 ⟨σ1, H1, I1, w1⟩
  refine wpAny_passesOwn hp (thn (hc pins s1 σ1 H1 _ I1 (turn n σ1 H1 w1)) fun b s2 ⟨H2, I2, q2⟩ => ?_)
  cases b with
  | true =>
    obtain ⟨N, hN, q2⟩ := q2
    rw [if_pos rfl]
    refine wpAny_passesOwn hp (thn (hb pins s2 σ1 H2 _ I2 q2) fun f s3 q3 => ?_)
    cases f with
    | next =>
      obtain ⟨σ3, H3, I3, n3⟩ := q3
      obtain ⟨m', hm, w3⟩ := hN σ3 H3 n3
      exact ⟨m', hm, σ3, H3, I3, w3⟩
    | cont =>
      obtain ⟨σ3, H3, I3, n3⟩ := q3
      obtain ⟨m', hm, w3⟩ := hN σ3 H3 n3
      exact ⟨m', hm, σ3, H3, I3, w3⟩
    | brk => exact q3
    | ret v => exact q3
  | false =>
    rw [if_neg Bool.false_ne_true]
    exact wpAny_execs_nil ⟨σ1, H2, I2, q2⟩
end
/-- at turn i: it yields x (the heap may grow), or it stops -/
structure It where
  go : Nat → Hp → Prop
  yld : Nat → Hp → V → Hp → Prop
  stop : Nat → Hp → Prop
/-- the iterator's own objects may turn: they are not the frame's, not pinned, younger than the entry (or a comprehension's own) -/
def FpOk (X : Cx) (pins : List (Addr × Obj)) (H : Hp) (b : Addr) : Prop :=
  H b = none ∧ b ≠ X.env.locals ∧ b ∉ X.fs ∧ (b ∈ X.ex ∨ X.s₀.heap.objs.size ≤ b) ∧ (∀ x c, X.env.cells.lookup x = some c → c ≠ b) ∧ ∀ p ∈ X.pn ++ pins, p.1 ≠ b
theorem Inv.fpOk {X : Cx} {pins : List (Addr × Obj)} {σ : St} {H H' : Hp} {s : Shared} {b : Addr} (I : Inv X pins σ H s) (hb : s.heap.objs.size ≤ b) (hn : H' b = none) : FpOk X pins H' b := by
  refine ⟨hn, Nat.ne_of_gt (Nat.lt_of_lt_of_le I.lt hb), I.nofs hb, .inr (Nat.le_trans I.sz hb), fun x c e z => ?_, fun p hp z => ?_⟩
  · obtain ⟨v, q⟩ := I.cell x c e
    exact absurd (Nat.lt_of_lt_of_le q.lt (by rw [z]; exact hb)) (Nat.lt_irrefl _)
  · exact absurd (Nat.lt_of_lt_of_le (Heap.lt_size (I.pin p hp).1) (by rw [z]; exact hb)) (Nat.lt_irrefl _)
structure Turn (P : Program) (w : World) (K : PySem.W.Frag) (tg : Expr) (J : It) (fp : List Addr) (it : Addr) (tn : Nat → Heap → Prop) : Prop where
  mem : it ∈ fp
  obj : ∀ i h, tn i h → ∀ b ∈ fp, ∃ o, h.get? b = some o ∧ ∀ v, o.data ≠ .cell v
  keep : ∀ i h h', tn i h → (∀ b ∈ fp, ∀ o, h.get? b = some o → h'.get? b = some o) → tn i h'
  item : ∀ (X : Cx), X.prog = P → X.w = w → X.K = K → X.calm = true → ∀ (i : Nat) (pins : List (Addr × Obj)) (s : Shared) (σ : St) (H : Hp) (E : Value → Shared → Prop), Inv X pins σ H s → (∀ b ∈ fp, FpOk X pins H b) → tn i s.heap → J.go i H →
    wpAny (model P w) X.A (pyNext (.ref it)) (fun r s1 => ∃ u, r = some u ∧
      wpAny (model P w) X.A (letOwnedTupleGo tg (.ref it) u) (fun _ s2 => ∃ x H', Inv X pins σ H' s2 ∧ RelV x u ∧ J.yld i H x H' ∧ tn (i + 1) s2.heap ∧ ∀ b ∈ fp, H' b = none) E s1) E s
  done : ∀ (X : Cx), X.prog = P → X.w = w → X.K = K → X.calm = true → ∀ (i : Nat) (pins : List (Addr × Obj)) (s : Shared) (σ : St) (H : Hp) (E : Value → Shared → Prop), Inv X pins σ H s → (∀ b ∈ fp, FpOk X pins H b) → tn i s.heap → J.stop i H →
    wpAny (model P w) X.A (pyNext (.ref it)) (fun r s1 => r = none ∧ Inv X pins σ H s1) E s
  self : ∀ (A : Around) (i : Nat) (s : Shared) (Q : Value → Shared → Prop) (E : Value → Shared → Prop), tn i s.heap → Q (.ref it) s → wpAny (model P w) A (pyIter (.ref it)) Q E s
abbrev TI := St → Hp → (It → Hp → Prop) → Prop
/-- an iterator has come -/
def PIE (X : Cx) (pins : List (Addr × Obj)) (σ : St) (tg : Expr) (R : It → Hp → Prop) (itv : Value) (s2 : Shared) : Prop :=
  ∃ (it : Addr) (fp : List Addr) (tn : Nat → Heap → Prop) (J : It) (H' : Hp), itv = .ref it ∧ Inv X pins σ H' s2 ∧ Turn X.prog X.w X.K tg J fp it tn ∧ tn 0 s2.heap ∧ (∀ b ∈ fp, FpOk X pins H' b) ∧ R J H'
def PI (X : Cx) (tg iter : Expr) (wi : TI) : Prop :=
  ∀ (pins : List (Addr × Obj)) (s : Shared) (σ : St) (H : Hp) (R : It → Hp → Prop), Inv X pins σ H s → wi σ H R →
    wpAny (model X.prog X.w) X.A (eval iter X.env) (fun v s1 => wpAny (model X.prog X.w) X.A (pyIter v) (PIE X pins σ tg R) X.xe s1) X.xe s
/-- the step ahead of the store is nothing for an iterator that keeps no tuple -/
theorem go_of {M : Model} {A : Around} {E : Value → Shared → Prop} {s : Shared} {tg : Expr} {it : Addr} {u : Value} {o : Obj} {n : String} {vs : Array Value} {Q : Unit → Shared → Prop} (ho : s.heap.get? it = some o) (hc : o.cls = .type n) (hd : o.data = .fields vs)
    (hn : ["enumerate", "zip", "dict_itemiterator", "dict_reverseitemiterator", "odict_iterator", "itertools.zip_longest", "itertools.pairwise"].contains n = false) (hQ : Q () s) : wpAny M A (letOwnedTupleGo tg (.ref it) u) Q E s := by
  unfold letOwnedTupleGo
  cases tg <;> first
    | exact wpAny_pure hQ
    | (cases u <;> first
        | exact wpAny_pure hQ
        | (refine wpAny_bind (wpAny_load ho ?_)
           rw [hc, hd]
           show wpAny M A (if (["enumerate", "zip", "dict_itemiterator", "dict_reverseitemiterator", "odict_iterator", "itertools.zip_longest", "itertools.pairwise"].contains n && vs[0]? == some (rawInt _)) = true then _ else _) Q E s
           rw [if_neg (by intro h; rw [hn, Bool.false_and] at h; cases h)]
           exact wpAny_pure hQ))
/-- the list at a, as it stands at each turn (a loop may append to it) -/
def Itl (K : PySem.W.Frag) (a : Addr) : It :=
  ⟨fun i H => ∃ xs x, SqL K H a xs ∧ xs[i]? = some x, fun i H x H' => H' = H ∧ ∀ xs, SqL K H a xs → xs[i]? = some x, fun i H => ∃ xs, SqL K H a xs ∧ xs.length ≤ i⟩
def Itt (K : PySem.W.Frag) (a : Addr) : It :=
  ⟨fun i H => ∃ xs x, SqT K H a xs ∧ xs[i]? = some x, fun i H x H' => H' = H ∧ ∀ xs, SqT K H a xs → xs[i]? = some x, fun i H => ∃ xs, SqT K H a xs ∧ xs.length ≤ i⟩
/-- lo, lo + 1, .. (n of them) -/
def Itr (lo : Int) (n : Nat) : It := ⟨fun i _ => i < n, fun i H x H' => H' = H ∧ x = .int (lo + i), fun i _ => n ≤ i⟩
theorem turn_list {P : Program} {w : World} {K : PySem.W.Frag} {tg : Expr} (a it : Addr) : Turn P w K tg (Itl K a) [it] it (fun i h => h.IsListIter it a i) where
  mem := by simp
  obj := fun i h st b hb => by
    have e : b = it := by simpa using hb
    subst e
    obtain ⟨o, e, c, d⟩ := st
    exact ⟨o, e, fun v z => by rw [d] at z; cases z⟩
  keep := fun i h h' st k => st.at fun o e => k it (by simp) o e
  item := by
    intro X hP hw hK hc i pins s σ H E I hf st hg
    subst hP hw hK
    obtain ⟨xs, x, hq, hx⟩ := hg
    obtain ⟨its, rv, p, hz⟩ := I.list hq
    obtain ⟨u, hu, ru⟩ := rv.get hx
    obtain ⟨f0, f1, f2, f3, f4, f5⟩ := hf it (by simp)
    refine wpAny_pyNext_list_item st p.isList (x := u) (by simpa using hu) fun h' st' sb => ?_
    have I1 : Inv X pins σ H { s with heap := h' } := I.turned (t' := s.toks) (fun b o hb e => (sb.2 b hb).trans e) f0 f1 f3 f4 f5
    obtain ⟨o, e, c, d⟩ := id st'
    exact ⟨u, rfl, go_of (s := { s with heap := h' }) e c d (by decide) ⟨x, H, I1, ru, ⟨rfl, fun ys hy => by rw [I.list_inj hy hq]; exact hx⟩, st', fun b hb => (hf b hb).1⟩⟩
  done := by
    intro X hP hw hK hc i pins s σ H E I hf st hg
    subst hP hw hK
    obtain ⟨xs, hq, hx⟩ := hg
    obtain ⟨its, rv, p, hz⟩ := I.list hq
    obtain ⟨f0, f1, f2, f3, f4, f5⟩ := hf it (by simp)
    have hl := rv.length
    exact wpAny_pyNext_list_end (I.ok.hd hc) st p.isList (by simp; omega) fun h' eb => ⟨rfl, I.turned (t' := s.toks) (fun b o hb e => eb b o hb e) f0 f1 f3 f4 f5⟩
  self := fun _ _ _ _ _ st h => wpAny_pyIter_listiter st h
theorem turn_tuple {P : Program} {w : World} {K : PySem.W.Frag} {tg : Expr} (a it : Addr) : Turn P w K tg (Itt K a) [it] it (fun i h => h.IsTupleIter it a i) where
  mem := by simp
  obj := fun i h st b hb => by
    have e : b = it := by simpa using hb
    subst e
    obtain ⟨o, e, c, d⟩ := st
    exact ⟨o, e, fun v z => by rw [d] at z; cases z⟩
  keep := fun i h h' st k => st.at fun o e => k it (by simp) o e
  item := by
    intro X hP hw hK hc i pins s σ H E I hf st hg
    subst hP hw hK
    obtain ⟨xs, x, hq, hx⟩ := hg
    obtain ⟨its, rv, p, hz⟩ := I.tuple hq
    obtain ⟨u, hu, ru⟩ := rv.get hx
    obtain ⟨f0, f1, f2, f3, f4, f5⟩ := hf it (by simp)
    refine wpAny_pyNext_tuple_item st (show s.heap.IsTuple a its.toArray from p) (x := u) (by simpa using hu) fun h' st' sb => ?_
    have I1 : Inv X pins σ H { s with heap := h' } := I.turned (t' := s.toks) (fun b o hb e => (sb.2 b hb).trans e) f0 f1 f3 f4 f5
    obtain ⟨o, e, c, d⟩ := id st'
    exact ⟨u, rfl, go_of (s := { s with heap := h' }) e c d (by decide) ⟨x, H, I1, ru, ⟨rfl, fun ys hy => by rw [I.tuple_inj hy hq]; exact hx⟩, st', fun b hb => (hf b hb).1⟩⟩
  done := by
    intro X hP hw hK hc i pins s σ H E I hf st hg
    subst hP hw hK
    obtain ⟨xs, hq, hx⟩ := hg
    obtain ⟨its, rv, p, hz⟩ := I.tuple hq
    obtain ⟨f0, f1, f2, f3, f4, f5⟩ := hf it (by simp)
    have hl := rv.length
    exact wpAny_pyNext_tuple_end (I.ok.hd hc) st (show s.heap.IsTuple a its.toArray from p) (by simp; omega) fun h' eb => ⟨rfl, I.turned (t' := s.toks) (fun b o hb e => eb b o hb e) f0 f1 f3 f4 f5⟩
  self := fun _ _ _ _ _ st h => wpAny_pyIter_tupleiter st h
theorem turn_range {P : Program} {w : World} {K : PySem.W.Frag} {tg : Expr} (it : Addr) (lo : Int) (n : Nat) : Turn P w K tg (Itr lo n) [it] it (fun i h => IsRangeIter h it (lo + (i : Nat) * 1) ((n : Int) - (i : Nat)) 1) where
  mem := by simp
  obj := fun i h st b hb => by
    have e : b = it := by simpa using hb
    subst e
    exact ⟨_, st, fun v z => by
      have z' : Data.fields _ = Data.cell v := z
      cases z'⟩
  keep := fun i h h' st k => k it (by simp) _ st
  item := by
    intro X hP hw hK hc i pins s σ H E I hf st hg
    subst hP hw hK
    obtain ⟨f0, f1, f2, f3, f4, f5⟩ := hf it (by simp)
    have W := Walks.range (prog := X.prog) (w := X.w) (I.ok.hd hc) it lo 1 n
    refine W.item i s _ _ hg st fun v h' tk hv st' kk => ?_
    obtain ⟨t, rfl⟩ := hv
    have I1 : Inv X pins σ H { s with heap := h', toks := tk } := I.turned (fun b o hb e => kk b o (by simpa using hb) e) f0 f1 f3 f4 f5
    refine ⟨_, rfl, go_of (s := { s with heap := h', toks := tk }) (n := "range_iterator") st' rfl rfl (by decide) ⟨.int (lo + i), H, I1, ⟨t, ?_⟩, ⟨rfl, rfl⟩, st', fun b hb => (hf b hb).1⟩⟩
    rw [Int.mul_one]
  done := by
    intro X hP hw hK hc i pins s σ H E I hf st hg
    subst hP hw hK
    obtain ⟨f0, f1, f2, f3, f4, f5⟩ := hf it (by simp)
    exact wpAny_pyNext_range_end (I.ok.hd hc) st (by have : n ≤ i := hg; omega) fun h' eb => ⟨rfl, I.turned (t' := s.toks) (fun b o hb e => eb b o hb e) f0 f1 f3 f4 f5⟩
  self := fun _ _ _ _ _ st h => wpAny_pyIter_rangeiter st h
end L2
namespace L2
open PySem PySem.Spec PyProof.Rows
section
variable {X : Cx} {tg : Expr}
def iList (K : PySem.W.Frag) (tl : TE) : TI := fun σ H R => tl σ H fun x H1 => ∃ a, x = .ref a ∧ (∃ xs, SqL K H1 a xs) ∧ R (Itl K a) H1
def iTup (K : PySem.W.Frag) (tl : TE) : TI := fun σ H R => tl σ H fun x H1 => ∃ a, x = .ref a ∧ (∃ xs, SqT K H1 a xs) ∧ R (Itt K a) H1
theorem pi_list {l : Expr} {tl : TE} (hl : PE X l tl) : PI X tg l (iList X.K tl) := by
  intro pins s σ H R I h
  refine thn (hl pins s σ H _ I h) fun v s1 ⟨x, H1, I1, r1, q1⟩ => ?_
  obtain ⟨a, e, ⟨xs, hq⟩, q⟩ := q1
  subst e
  cases r1
  obtain ⟨its, rv, p, hz⟩ := I1.list hq
  refine wpAny_pyIter_list p.isList ?_
  refine ⟨s1.heap.objs.size, [s1.heap.objs.size], _, _, H1, rfl, I1.kept (t' := s1.toks) fun b o e => Heap.get?_push_of_some _ e, turn_list a _, ⟨_, Heap.get?_push_size _ rfl, rfl, rfl⟩, fun b hb => ?_, q⟩
  have e : b = s1.heap.objs.size := by simpa using hb
  subst e
  exact I1.fpOk (Nat.le_refl _) (I1.hok.fresh (Nat.le_refl _))
theorem pi_tup {l : Expr} {tl : TE} (hl : PE X l tl) : PI X tg l (iTup X.K tl) := by
  intro pins s σ H R I h
  refine thn (hl pins s σ H _ I h) fun v s1 ⟨x, H1, I1, r1, q1⟩ => ?_
  obtain ⟨a, e, ⟨xs, hq⟩, q⟩ := q1
  subst e
  cases r1
  obtain ⟨its, rv, p, hz⟩ := I1.tuple hq
  refine wpAny_pyIter_tuple (show s1.heap.IsTuple a its.toArray from p) ?_
  refine ⟨s1.heap.objs.size, [s1.heap.objs.size], _, _, H1, rfl, I1.kept (t' := s1.toks) fun b o e => Heap.get?_push_of_some _ e, turn_tuple a _, ⟨_, Heap.get?_push_size _ rfl, rfl, rfl⟩, fun b hb => ?_, q⟩
  have e : b = s1.heap.objs.size := by simpa using hb
  subst e
  exact I1.fpOk (Nat.le_refl _) (I1.hok.fresh (Nat.le_refl _))
/-- a range object just made, walked -/
theorem range_it {pins : List (Addr × Obj)} {σ : St} {H : Hp} {s : Shared} {R : It → Hp → Prop} {E : Value → Shared → Prop} {lo hi : Int} {t u v : Tok} {tk : Nat} (I : Inv X pins σ H s) (h1 : -(2 ^ 62) ≤ lo) (h2 : lo < 2 ^ 62) (h3 : -(2 ^ 62) ≤ hi) (h4 : hi < 2 ^ 62)
    (q : R (Itr lo (hi - lo).toNat) H) : wpAny (model X.prog X.w) X.A (pyIter (.ref s.heap.objs.size)) (PIE X pins σ tg R) E { s with heap := s.heap.push { cls := .type "range", data := .fields #[.int lo t, .int hi u, .int 1 v] }, toks := tk } := by
  refine wpAny_pyIter_range (IsRange.new ..) (small_one h1 h2 h3 h4) ?_
  have I1 : Inv X pins σ H { s with heap := s.heap.push { cls := .type "range", data := .fields #[.int lo t, .int hi u, .int 1 v] }, toks := tk } := I.kept fun b o e => Heap.get?_push_of_some _ e
  refine ⟨(s.heap.push { cls := .type "range", data := .fields #[.int lo t, .int hi u, .int 1 v] }).objs.size, [(s.heap.push { cls := .type "range", data := .fields #[.int lo t, .int hi u, .int 1 v] }).objs.size], _, _, H, rfl,
    I1.kept (t' := tk) fun b o e => Heap.get?_push_of_some _ e, turn_range _ lo (hi - lo).toNat, ?_, fun b hb => ?_, q⟩
  · have e1 : lo + ((0 : Nat) : Int) * 1 = lo := by simp
    have e2 : (((hi - lo).toNat : Nat) : Int) - ((0 : Nat) : Int) = Builtin.Range.rangeSize lo hi 1 := by rw [rangeSize_one]; split <;> omega
    show IsRangeIter _ _ (lo + ((0 : Nat) : Int) * 1) ((((hi - lo).toNat : Nat) : Int) - ((0 : Nat) : Int)) 1
    rw [e1, e2]
    exact Heap.get?_push_size _ rfl
  · have e : b = (s.heap.push { cls := .type "range", data := .fields #[.int lo t, .int hi u, .int 1 v] }).objs.size := by simpa using hb
    subst e
    exact I1.fpOk (Nat.le_refl _) (I1.hok.fresh (Nat.le_refl _))
def iRng1 (ta : TA) : TI := fun σ H R => ta σ H fun vs H1 => ∃ j : Int, vs = [.int j] ∧ -(2 ^ 62) ≤ j ∧ j < 2 ^ 62 ∧ R (Itr 0 j.toNat) H1
def iRng2 (ta : TA) : TI := fun σ H R => ta σ H fun vs H1 => ∃ i j : Int, vs = [.int i, .int j] ∧ (-(2 ^ 62) ≤ i ∧ i < 2 ^ 62 ∧ -(2 ^ 62) ≤ j ∧ j < 2 ^ 62) ∧ R (Itr i (j - i).toNat) H1
theorem pi_range1 {a : Expr} {ta : TA} {p pos : Pos} (hg : Gl X "range") (hm : X.mg "range" = none) (ha : PA X [a] ta) (hs : starEach [a] X.env = [(false, eval a X.env)] := by rfl) : PI X tg (.Call (.Name "range" p) [a] [] pos) (iRng1 ta) := by
  intro pins s σ H R I h
  refine Call_ (ld_blt I hg hm boot_range (PyProof.Rows.callWith_type1 (thn (ha pos pins s σ H _ I h) fun us s1 ⟨vs, H1, I1, r1, q1⟩ => ?_) hs rfl))
  obtain ⟨j, e, q1, q2, q⟩ := q1
  subst e
  cases r1 with
  | cons r rr =>
    cases rr
    obtain ⟨t, rfl⟩ := r
    exact call_range_1 (range_it I1 (by omega) (by omega) q1 q2 (by simpa using q))
/-- W: the invariant by the turn and a measure; N: what the body is to reach -/
def tFor (wi : TI) (g : TG) (tb : TS) : TS := fun D σ H => wi σ H fun J H1 => ∃ W : Nat → Nat → St → Hp → Prop, (∃ m, W 0 m σ H1) ∧ ∀ i m σ H, W i m σ H →
  (J.stop i H ∧ D.nx σ H) ∨ (J.go i H ∧ ∃ N : St → Hp → Prop, (∀ σ' H', N σ' H' → ∃ m', m' < m ∧ W (i + 1) m' σ' H') ∧ ∀ x H', J.yld i H x H' → g x σ H' fun σ2 H2 => tb { D with nx := N, ct := N, bk := D.nx } σ2 H2)
/-- the records at fp as they stand -/
def pinsAt (fp : List Addr) (h : Heap) : List (Addr × Obj) := fp.filterMap fun b => (h.get? b).map fun o => (b, o)
theorem mem_pinsAt {fp : List Addr} {h : Heap} {b : Addr} {o : Obj} (hb : b ∈ fp) (e : h.get? b = some o) : (b, o) ∈ pinsAt fp h := List.mem_filterMap.mpr ⟨b, hb, by rw [e]; rfl⟩
theorem of_pinsAt {fp : List Addr} {h : Heap} {p : Addr × Obj} (hp : p ∈ pinsAt fp h) : p.1 ∈ fp ∧ h.get? p.1 = some p.2 := by
  obtain ⟨b, hb, e⟩ := List.mem_filterMap.mp hp
  cases q : h.get? b with
  | none => rw [q] at e; cases e
  | some o =>
    rw [q] at e
    have e' : (b, o) = p := Option.some.inj e
    subst e'
    exact ⟨hb, q⟩
theorem Inv.pinned {pins : List (Addr × Obj)} {σ : St} {H : Hp} {s : Shared} {fp : List Addr} (I : Inv X pins σ H s) (hf : ∀ b ∈ fp, FpOk X pins H b) (ho : ∀ b ∈ fp, ∃ o, s.heap.get? b = some o ∧ ∀ v, o.data ≠ .cell v) : Inv X (pins ++ pinsAt fp s.heap) σ H s :=
  I.pins_of fun p hp => (List.mem_append.mp hp).elim (fun z => I.pin p (List.mem_append_right _ z)) fun z => by
    obtain ⟨hb, e⟩ := of_pinsAt z
    obtain ⟨f0, f1, f2, _⟩ := hf p.1 hb
    obtain ⟨o, e', d⟩ := ho p.1 hb
    rw [e] at e'; cases e'
    exact ⟨e, f0, f1, f2, d⟩
theorem Inv.unpinned {pins pl : List (Addr × Obj)} {σ : St} {H : Hp} {s : Shared} (I : Inv X (pins ++ pl) σ H s) : Inv X pins σ H s := I.pins_of fun p hp => I.pin p (List.mem_append_right _ (List.mem_append_left _ hp))
theorem ps_for {iter : Expr} {body : List Stmt} {wi : TI} {g : TG} {tb : TS} {pos : Pos} (hp : PassesOwn (model X.prog X.w) X.A X.env X.xe) (hc : X.calm = true) (hi : PI X tg iter wi) (hg : PG X tg g) (hb : PSs X body tb)
    (hs : ∀ x, foldedSetIterable iter X.env x = pure x := by intro _; rfl) : PS X (.For tg iter body [] pos) (tFor wi g tb) := by
  intro pins s σ H D I h
  refine wpAny_For (thn (hi pins s σ H _ I h) fun v s1 h1 => thn h1 fun itv s2 h2 => ?_) hs
  obtain ⟨it, fp, tn, J, H2, e, I2, T, st2, f2, W, ⟨m0, w0⟩, turn⟩ := h2
  subst e
  -- what stays true of the iterator's objects through the loop
  have stat : ∀ {H' : Hp}, (∀ b ∈ fp, H' b = none) → ∀ b ∈ fp, FpOk X pins H' b := fun hn b hb => ⟨hn b hb, (f2 b hb).2⟩
  refine codeAny_forLoop_any (fun n s' => ∃ i σ' H', Inv X pins σ' H' s' ∧ tn i s'.heap ∧ (∀ b ∈ fp, H' b = none) ∧ W i n σ' H') ?_ m0 ⟨0, σ, H2, I2, st2, fun b hb => (f2 b hb).1, w0⟩
  rintro n s3 ⟨i, σ3, H3, I3, st3, fr3, w3⟩
  rcases turn i n σ3 H3 w3 with ⟨stop, qn⟩ | ⟨go, N, hN, step⟩
  · refine wpAny_passesOwn hp (thn (T.done X rfl rfl rfl hc i pins s3 σ3 H3 X.xe I3 (stat fr3) st3 stop) fun r s4 ⟨hr, I4⟩ => ?_)
    subst hr
    exact wpAny_execs_nil ⟨σ3, H3, I4, qn⟩
  · refine wpAny_passesOwn hp (thn (T.item X rfl rfl rfl hc i pins s3 σ3 H3 X.xe I3 (stat fr3) st3 go) fun r s4 ⟨u, hr, h4⟩ => ?_)
    subst hr
    refine wpAny_passesOwn hp (thn h4 fun _ s5 ⟨x, H5, I5, r5, y5, st5, fr5⟩ => ?_)
    have I5' := I5.pinned (stat fr5) (T.obj _ _ st5)
    refine wpAny_passesOwn hp (thn (hg _ s5 σ3 H5 x u _ I5' r5 (step x H5 y5)) fun _ s6 ⟨σ6, H6, I6, q6⟩ => ?_)
    refine wpAny_passesOwn hp (thn (hb _ s6 σ6 H6 _ I6 q6) fun f s7 q7 => ?_)
    have again : ∀ {σ7 : St} {H7 : Hp}, Inv X (pins ++ pinsAt fp s5.heap) σ7 H7 s7 → N σ7 H7 → ∃ m, m < n ∧ ∃ i σ' H', Inv X pins σ' H' s7 ∧ tn i s7.heap ∧ (∀ b ∈ fp, H' b = none) ∧ W i m σ' H' := fun {σ7 H7} I7 n7 => by
      obtain ⟨m', hm, w7⟩ := hN σ7 H7 n7
      refine ⟨m', hm, i + 1, σ7, H7, I7.unpinned, T.keep _ _ _ st5 fun b hb o e => (I7.pin (b, o) (List.mem_append_right _ (List.mem_append_right _ (mem_pinsAt hb e)))).1, fun b hb => ?_, w7⟩
      obtain ⟨o, e, d⟩ := T.obj _ _ st5 b hb
      exact (I7.pin (b, o) (List.mem_append_right _ (List.mem_append_right _ (mem_pinsAt hb e)))).2.1
    cases f with
    | next => obtain ⟨σ7, H7, I7, n7⟩ := q7; exact again I7 n7
    | cont => obtain ⟨σ7, H7, I7, n7⟩ := q7; exact again I7 n7
    | brk => obtain ⟨σ7, H7, I7, q7⟩ := q7; exact ⟨σ7, H7, I7.unpinned, q7⟩
    | ret v => obtain ⟨x7, σ7, H7, I7, r7, q7⟩ := q7; exact ⟨x7, σ7, H7, I7.unpinned, r7, q7⟩
end
/-- over a list that the body leaves as it is -/
theorem for_list {K : PySem.W.Frag} {a : Addr} {xs : List V} {g : TG} {tb : TS} {D : Ends} {σ : St} {H : Hp} (Pv : Nat → St → Hp → Prop) (h0 : Pv 0 σ H) (hl : ∀ i σ H, i ≤ xs.length → Pv i σ H → SqL K H a xs)
    (hs : ∀ i x σ H, xs[i]? = some x → Pv i σ H → g x σ H fun σ2 H2 => tb { D with nx := Pv (i + 1), ct := Pv (i + 1), bk := D.nx } σ2 H2) (hd : ∀ σ H, Pv xs.length σ H → D.nx σ H) :
    ∃ W : Nat → Nat → St → Hp → Prop, (∃ m, W 0 m σ H) ∧ ∀ i m σ H, W i m σ H →
      ((Itl K a).stop i H ∧ D.nx σ H) ∨ ((Itl K a).go i H ∧ ∃ N : St → Hp → Prop, (∀ σ' H', N σ' H' → ∃ m', m' < m ∧ W (i + 1) m' σ' H') ∧ ∀ x H', (Itl K a).yld i H x H' → g x σ H' fun σ2 H2 => tb { D with nx := N, ct := N, bk := D.nx } σ2 H2) := by
  refine ⟨fun i m σ H => m = xs.length - i ∧ i ≤ xs.length ∧ Pv i σ H, ⟨xs.length, by simp, Nat.zero_le _, h0⟩, ?_⟩
  rintro i m σ H ⟨rfl, hi, p⟩
  have q := hl i σ H hi p
  by_cases hlt : i < xs.length
  · refine .inr ⟨⟨xs, xs[i], q, by simp [hlt]⟩, Pv (i + 1), fun σ' H' p' => ⟨xs.length - (i + 1), by omega, rfl, hlt, p'⟩, fun x H' y => ?_⟩
    obtain ⟨e, y⟩ := y
    subst e
    exact hs i x σ _ (y xs q) p
  · have e : i = xs.length := by omega
    subst e
    exact .inl ⟨⟨xs, q, Nat.le_refl _⟩, hd σ H p⟩
theorem for_tup {K : PySem.W.Frag} {a : Addr} {xs : List V} {g : TG} {tb : TS} {D : Ends} {σ : St} {H : Hp} (Pv : Nat → St → Hp → Prop) (h0 : Pv 0 σ H) (hl : ∀ i σ H, i ≤ xs.length → Pv i σ H → SqT K H a xs)
    (hs : ∀ i x σ H, xs[i]? = some x → Pv i σ H → g x σ H fun σ2 H2 => tb { D with nx := Pv (i + 1), ct := Pv (i + 1), bk := D.nx } σ2 H2) (hd : ∀ σ H, Pv xs.length σ H → D.nx σ H) :
    ∃ W : Nat → Nat → St → Hp → Prop, (∃ m, W 0 m σ H) ∧ ∀ i m σ H, W i m σ H →
      ((Itt K a).stop i H ∧ D.nx σ H) ∨ ((Itt K a).go i H ∧ ∃ N : St → Hp → Prop, (∀ σ' H', N σ' H' → ∃ m', m' < m ∧ W (i + 1) m' σ' H') ∧ ∀ x H', (Itt K a).yld i H x H' → g x σ H' fun σ2 H2 => tb { D with nx := N, ct := N, bk := D.nx } σ2 H2) := by
  refine ⟨fun i m σ H => m = xs.length - i ∧ i ≤ xs.length ∧ Pv i σ H, ⟨xs.length, by simp, Nat.zero_le _, h0⟩, ?_⟩
  rintro i m σ H ⟨rfl, hi, p⟩
  have q := hl i σ H hi p
  by_cases hlt : i < xs.length
  · refine .inr ⟨⟨xs, xs[i], q, by simp [hlt]⟩, Pv (i + 1), fun σ' H' p' => ⟨xs.length - (i + 1), by omega, rfl, hlt, p'⟩, fun x H' y => ?_⟩
    obtain ⟨e, y⟩ := y
    subst e
    exact hs i x σ _ (y xs q) p
  · have e : i = xs.length := by omega
    subst e
    exact .inl ⟨⟨xs, q, Nat.le_refl _⟩, hd σ H p⟩
theorem for_range {lo : Int} {n : Nat} {g : TG} {tb : TS} {D : Ends} {σ : St} {H : Hp} (Pv : Nat → St → Hp → Prop) (h0 : Pv 0 σ H)
    (hs : ∀ i σ H, i < n → Pv i σ H → g (.int (lo + i)) σ H fun σ2 H2 => tb { D with nx := Pv (i + 1), ct := Pv (i + 1), bk := D.nx } σ2 H2) (hd : ∀ σ H, Pv n σ H → D.nx σ H) :
    ∃ W : Nat → Nat → St → Hp → Prop, (∃ m, W 0 m σ H) ∧ ∀ i m σ H, W i m σ H →
      ((Itr lo n).stop i H ∧ D.nx σ H) ∨ ((Itr lo n).go i H ∧ ∃ N : St → Hp → Prop, (∀ σ' H', N σ' H' → ∃ m', m' < m ∧ W (i + 1) m' σ' H') ∧ ∀ x H', (Itr lo n).yld i H x H' → g x σ H' fun σ2 H2 => tb { D with nx := N, ct := N, bk := D.nx } σ2 H2) := by
  refine ⟨fun i m σ H => m = n - i ∧ i ≤ n ∧ Pv i σ H, ⟨n, by simp, Nat.zero_le _, h0⟩, ?_⟩
  rintro i m σ H ⟨rfl, hi, p⟩
  by_cases hlt : i < n
  · refine .inr ⟨hlt, Pv (i + 1), fun σ' H' p' => ⟨n - (i + 1), by omega, rfl, hlt, p'⟩, fun x H' y => ?_⟩
    obtain ⟨e, y⟩ := y
    subst e y
    exact hs i σ _ hlt p
  · have e : i = n := by omega
    subst e
    exact .inl ⟨Nat.le_refl _, hd σ H p⟩
/-- while, by a word and a measure of the state -/
theorem while_by {c : TT} {tb : TS} {D : Ends} {σ : St} {H : Hp} (Pv : St → Hp → Prop) (μ : St → Hp → Nat) (h0 : Pv σ H)
    (hs : ∀ σ H, Pv σ H → c σ H fun b H1 => if b = true then tb { D with nx := fun σ' H' => Pv σ' H' ∧ μ σ' H' < μ σ H, ct := fun σ' H' => Pv σ' H' ∧ μ σ' H' < μ σ H, bk := D.nx } σ H1 else D.nx σ H1)
    (mono : ∀ σ H Q Q', (∀ b H1, Q b H1 → Q' b H1) → c σ H Q → c σ H Q') : tWhile c tb D σ H := by
  refine ⟨fun m σ H => m = μ σ H ∧ Pv σ H, ⟨_, rfl, h0⟩, ?_⟩
  rintro m σ H ⟨rfl, p⟩
  refine mono σ H _ _ (fun b H1 q => ?_) (hs σ H p)
  cases b with
  | true => exact ⟨_, fun σ' H' ⟨p', l⟩ => ⟨_, l, rfl, p'⟩, q⟩
  | false => exact q
end L2
namespace L2
open PySem PySem.Spec PyProof.Rows
abbrev R2 := V → V → Hp → VK → Prop
/-- a two-place operation on values: f is binaryOp op, inplaceOp op or compareOp op -/
def OpR (X : Cx) (f : Value → Value → Sem Value) (r : R2) : Prop :=
  ∀ (pins : List (Addr × Obj)) (s : Shared) (σ : St) (H : Hp) (x y : V) (v u : Value) (Q : VK), Inv X pins σ H s → RelV x v → RelV y u → r x y H Q →
    wpAny (model X.prog X.w) X.A (f v u) (EP X pins σ Q) X.xe s
/-- a one-place operation -/
def UnR (X : Cx) (f : Value → Sem Value) (r : V → Hp → VK → Prop) : Prop :=
  ∀ (pins : List (Addr × Obj)) (s : Shared) (σ : St) (H : Hp) (x : V) (v : Value) (Q : VK), Inv X pins σ H s → RelV x v → r x H Q →
    wpAny (model X.prog X.w) X.A (f v) (EP X pins σ Q) X.xe s
/-- a call of a value that is known (a builtin, a type) with values -/
def CallR (X : Cx) (f : Value) (r : List V → Hp → VK → Prop) : Prop :=
  ∀ (pins : List (Addr × Obj)) (s : Shared) (σ : St) (H : Hp) (xs : List V) (us : List Value) (Q : VK), Inv X pins σ H s → Vals xs us → r xs H Q →
    wpAny (model X.prog X.w) X.A (call f us) (EP X pins σ Q) X.xe s
/-- a value's truth -/
def TruR (X : Cx) (r : V → Hp → (Bool → Hp → Prop) → Prop) : Prop :=
  ∀ (pins : List (Addr × Obj)) (s : Shared) (σ : St) (H : Hp) (x : V) (v : Value) (Q : Bool → Hp → Prop), Inv X pins σ H s → RelV x v → r x H Q →
    wpAny (model X.prog X.w) X.A (truthy v) (TP X pins σ Q) X.xe s
def tOp (r : R2) (ta tb : TE) : TE := fun σ H Q => ta σ H fun x H1 => tb σ H1 fun y H2 => r x y H2 Q
def tUn (r : V → Hp → VK → Prop) (ta : TE) : TE := fun σ H Q => ta σ H fun x H1 => r x H1 Q
/-- ints in, under C, and a value out -/
def rI (C : Int → Int → Prop) (g : Int → Int → V) : R2 := fun x y H Q => ∃ i j, x = .int i ∧ y = .int j ∧ C i j ∧ Q (g i j) H
def rI0 (g : Int → Int → V) : R2 := fun x y H Q => ∃ i j, x = .int i ∧ y = .int j ∧ Q (g i j) H
def rU (g : Int → V) : V → Hp → VK → Prop := fun x H Q => ∃ i, x = .int i ∧ Q (g i) H
section
variable {X : Cx} {a b c : Expr} {ta tb tc : TE} {pos : Pos}
theorem binT (ha : PE X a ta) (hb : PE X b tb) {pins : List (Addr × Obj)} {s : Shared} {σ : St} {H : Hp} {R : V → V → Hp → Prop} (I : Inv X pins σ H s)
    (h : ta σ H fun x H1 => tb σ H1 fun y H2 => R x y H2) {Q : Value → Shared → Prop} {f : Value → Value → Sem Value}
    (hf : ∀ v u s2 x y H2, Inv X pins σ H2 s2 → RelV x v → RelV y u → R x y H2 → wpAny (model X.prog X.w) X.A (f v u) Q X.xe s2) :
    wpAny (model X.prog X.w) X.A (eval a X.env) (fun v s₁ => wpAny (model X.prog X.w) X.A (eval b X.env) (fun u s₂ => wpAny (model X.prog X.w) X.A (f v u) Q X.xe s₂) X.xe s₁) X.xe s := by
  refine thn (ha pins s σ H _ I h) fun v s1 ⟨x, H1, I1, r1, q1⟩ => ?_
  refine thn (hb pins s1 σ H1 _ I1 q1) fun u s2 ⟨y, H2, I2, r2, q2⟩ => ?_
  exact hf v u s2 x y H2 I2 r1 r2 q2
theorem pe_op {op : Operator} {r : R2} (ho : OpR X (binaryOp op) r) (ha : PE X a ta) (hb : PE X b tb) : PE X (.BinOp a op b pos) (tOp r ta tb) := by
  intro pins s σ H Q I h
  exact wpAny_BinOp (binT ha hb I h fun v u s2 x y H2 I2 rx ry q => ho pins s2 σ H2 x y v u Q I2 rx ry q)
theorem pe_un {op : UnaryOp} {r : V → Hp → VK → Prop} (ho : UnR X (unaryOp op) r) (ha : PE X a ta) : PE X (.UnaryOp op a pos) (tUn r ta) := by
  intro pins s σ H Q I h
  exact UnaryOp_ (thn (ha pins s σ H _ I h) fun v s1 ⟨x, H1, I1, r1, q1⟩ => ho pins s1 σ H1 x v Q I1 r1 q1)
theorem opI {f : Value → Value → Sem Value} {C : Int → Int → Prop} {g : Int → Int → Int}
    (rule : ∀ (i j : Int) (t u : Tok) (s : Shared) (Q : Value → Shared → Prop) (E : Value → Shared → Prop), C i j → Q (.int (g i j) s.toks) { s with toks := s.toks + 1 } → wpAny (model X.prog X.w) X.A (f (.int i t) (.int j u)) Q E s) :
    OpR X f (rI C fun i j => .int (g i j)) := by
  intro pins s σ H x y v u Q I rx ry h
  obtain ⟨i, j, rfl, rfl, hc, q⟩ := h
  obtain ⟨t, rfl⟩ := rx
  obtain ⟨t', rfl⟩ := ry
  exact rule i j t t' s _ _ hc ⟨.int (g i j), H, I.tok _, ⟨_, rfl⟩, q⟩
theorem opI0 {f : Value → Value → Sem Value} {g : Int → Int → Int}
    (rule : ∀ (i j : Int) (t u : Tok) (s : Shared) (Q : Value → Shared → Prop) (E : Value → Shared → Prop), Q (.int (g i j) s.toks) { s with toks := s.toks + 1 } → wpAny (model X.prog X.w) X.A (f (.int i t) (.int j u)) Q E s) :
    OpR X f (rI0 fun i j => .int (g i j)) := by
  intro pins s σ H x y v u Q I rx ry h
  obtain ⟨i, j, rfl, rfl, q⟩ := h
  obtain ⟨t, rfl⟩ := rx
  obtain ⟨t', rfl⟩ := ry
  exact rule i j t t' s _ _ ⟨.int (g i j), H, I.tok _, ⟨_, rfl⟩, q⟩
theorem opB0 {f : Value → Value → Sem Value} {g : Int → Int → Bool}
    (rule : ∀ (i j : Int) (t u : Tok) (s : Shared) (Q : Value → Shared → Prop) (E : Value → Shared → Prop), Q (.bool (g i j)) s → wpAny (model X.prog X.w) X.A (f (.int i t) (.int j u)) Q E s) :
    OpR X f (rI0 fun i j => .bl (g i j)) := by
  intro pins s σ H x y v u Q I rx ry h
  obtain ⟨i, j, rfl, rfl, q⟩ := h
  obtain ⟨t, rfl⟩ := rx
  obtain ⟨t', rfl⟩ := ry
  exact rule i j t t' s _ _ ⟨.bl (g i j), H, I, rfl, q⟩
def CDiv (i j : Int) : Prop := 0 < j ∧ j < 1073741824
def CDivN (i j : Int) : Prop := j ≠ 0 ∧ j.natAbs < 1073741824
def CPow (i j : Int) : Prop := 0 ≤ j ∧ j ≤ 1000000 ∧ i.natAbs < 2 ^ 64
def CMul (i j : Int) : Prop := (-(2 ^ 64) < i ∧ i < 2 ^ 64) ∨ (-(2 ^ 64) < j ∧ j < 2 ^ 64)
theorem op_add : OpR X (binaryOp .Add) (rI0 fun i j => .int (i + j)) := opI0 fun _ _ _ _ _ _ _ q => add_int q
theorem op_sub : OpR X (binaryOp .Sub) (rI0 fun i j => .int (i - j)) := opI0 fun _ _ _ _ _ _ _ q => sub_int q
/-- % by a positive divisor of any size -/
theorem op_mod : OpR X (binaryOp .Mod) (rI (fun _ j => 0 < j) fun i j => .int (i % j)) := opI fun i j _ _ _ _ _ hc q => by
  have h1 : (0 : Int) < j := hc
  exact mod_int' (by omega) (by rw [Int.fmod_eq_emod_of_nonneg i (by omega)]; exact q)
theorem op_pow : OpR X (binaryOp .Pow) (rI CPow fun i j => .int (i ^ j.toNat)) := opI fun _ _ _ _ _ _ _ hc q => pow_int_small hc.1 hc.2.1 hc.2.2 q
theorem unI {f : Value → Sem Value} {g : Int → Int}
    (rule : ∀ (i : Int) (t : Tok) (s : Shared) (Q : Value → Shared → Prop) (E : Value → Shared → Prop), Q (.int (g i) s.toks) { s with toks := s.toks + 1 } → wpAny (model X.prog X.w) X.A (f (.int i t)) Q E s) :
    UnR X f (rU fun i => .int (g i)) := by
  intro pins s σ H x v Q I rx h
  obtain ⟨i, rfl, q⟩ := h
  obtain ⟨t, rfl⟩ := rx
  exact rule i t s _ _ ⟨.int (g i), H, I.tok _, ⟨_, rfl⟩, q⟩
theorem un_neg : UnR X (unaryOp .USub) (rU fun i => .int (-i)) := unI fun _ _ _ _ _ q => neg_int q
end
/-- the scalars that == tells apart as data does -/
def scal : V → V → Bool
  | .non, .non => true | .non, .int _ => true | .int _, .non => true | .non, .bl _ => true | .bl _, .non => true | .non, .str _ => true | .str _, .non => true
  | .int _, .int _ => true | .bl _, .bl _ => true | .str _, .str _ => true | .byt _, .byt _ => true
  | .int _, .str _ => true | .str _, .int _ => true | .bl _, .str _ => true | .str _, .bl _ => true
  | _, _ => false
def rEq : R2 := fun x y H Q => scal x y = true ∧ Q (.bl (decide (x = y))) H
def rNe : R2 := fun x y H Q => scal x y = true ∧ Q (.bl (!decide (x = y))) H
theorem dec_int {i j : Int} : decide (V.int i = V.int j) = (i == j) := by
  rw [Bool.eq_iff_iff]
  simp
theorem dec_bl {i j : Bool} : decide (V.bl i = V.bl j) = (i == j) := by
  rw [Bool.eq_iff_iff]
  simp
theorem dec_str {i j : Str} : decide (V.str i = V.str j) = (i == j) := by
  rw [Bool.eq_iff_iff]
  simp
theorem dec_byt {i j : Array UInt8} : decide (V.byt i = V.byt j) = (i.toList == j.toList) := by
  rw [Bool.eq_iff_iff]
  cases i
  cases j
  simp
section
variable {X : Cx} {a b c : Expr} {ta tb tc : TE} {pos : Pos}
theorem fin_bl {pins : List (Addr × Obj)} {σ : St} {H : Hp} {s : Shared} {Q : VK} {k k' : Bool} (I : Inv X pins σ H s) (q : Q (.bl k) H) (e : k = k') : EP X pins σ Q (.bool k') s := by
  subst e
  exact ⟨.bl k, H, I, rfl, q⟩
theorem op_eq : OpR X (compareOp .Eq) rEq := by
  intro pins s σ H x y v u Q I rx ry h
  obtain ⟨hs, q⟩ := h
  cases x with
  | non =>
    cases rx
    cases y with
    | non => cases ry; exact PySem.EqNone.eq_none_none (fin_bl I q (by simp))
    | bl j => cases ry; exact PySem.EqNone.eq_none_bool (fin_bl I q (by simp))
    | int j => obtain ⟨t', rfl⟩ := ry; exact PySem.EqNone.eq_none_int (fin_bl I q (by simp))
    | str j => obtain ⟨t', rfl⟩ := ry; exact PySem.EqNone.eq_none_str (fin_bl I q (by simp))
    | _ => exact absurd (show false = true from hs) Bool.false_ne_true
  | bl i =>
    cases rx
    cases y with
    | non => cases ry; exact PySem.EqNone.eq_bool_none (fin_bl I q (by simp))
    | bl j => cases ry; exact eq_bool (fin_bl I q dec_bl)
    | str j => obtain ⟨t', rfl⟩ := ry; exact PySem.EqMixed.eq_bool_str (fin_bl I q (by simp))
    | _ => exact absurd (show false = true from hs) Bool.false_ne_true
  | int i =>
    obtain ⟨t, rfl⟩ := rx
    cases y with
    | non => cases ry; exact PySem.EqNone.eq_int_none (fin_bl I q (by simp))
    | int j => obtain ⟨t', rfl⟩ := ry; exact eq_int (fin_bl I q dec_int)
    | str j => obtain ⟨t', rfl⟩ := ry; exact PySem.EqMixed.eq_int_str (fin_bl I q (by simp))
    | _ => exact absurd (show false = true from hs) Bool.false_ne_true
  | str i =>
    obtain ⟨t, rfl⟩ := rx
    cases y with
    | non => cases ry; exact PySem.EqNone.eq_str_none (fin_bl I q (by simp))
    | bl j => cases ry; exact PySem.EqMixed.eq_str_bool (fin_bl I q (by simp))
    | int j => obtain ⟨t', rfl⟩ := ry; exact PySem.EqMixed.eq_str_int (fin_bl I q (by simp))
    | str j => obtain ⟨t', rfl⟩ := ry; exact eq_str (fin_bl I q dec_str)
    | _ => exact absurd (show false = true from hs) Bool.false_ne_true
  | byt i =>
    obtain ⟨t, rfl⟩ := rx
    cases y with
    | byt j => obtain ⟨t', rfl⟩ := ry; exact PySem.W.eq_bytes (fin_bl I q dec_byt)
    | _ => exact absurd (show false = true from hs) Bool.false_ne_true
  | _ => cases y <;> exact absurd (show false = true from hs) Bool.false_ne_true
theorem op_ne : OpR X (compareOp .NotEq) rNe := by
  intro pins s σ H x y v u Q I rx ry h
  obtain ⟨hs, q⟩ := h
  cases x with
  | non =>
    cases rx
    cases y with
    | non => cases ry; exact PySem.EqNone.ne_none_none (fin_bl I q (by simp))
    | bl j => cases ry; exact PySem.EqNone.ne_none_bool (fin_bl I q (by simp))
    | int j => obtain ⟨t', rfl⟩ := ry; exact PySem.EqNone.ne_none_int (fin_bl I q (by simp))
    | str j => obtain ⟨t', rfl⟩ := ry; exact PySem.EqNone.ne_none_str (fin_bl I q (by simp))
    | _ => exact absurd (show false = true from hs) Bool.false_ne_true
  | bl i =>
    cases rx
    cases y with
    | non => cases ry; exact PySem.EqNone.ne_bool_none (fin_bl I q (by simp))
    | bl j => cases ry; exact ne_bool (fin_bl I q (congrArg not dec_bl))
    | str j => obtain ⟨t', rfl⟩ := ry; exact PySem.EqMixed.ne_bool_str (fin_bl I q (by simp))
    | _ => exact absurd (show false = true from hs) Bool.false_ne_true
  | int i =>
    obtain ⟨t, rfl⟩ := rx
    cases y with
    | non => cases ry; exact PySem.EqNone.ne_int_none (fin_bl I q (by simp))
    | int j => obtain ⟨t', rfl⟩ := ry; exact ne_int (fin_bl I q (congrArg not dec_int))
    | str j => obtain ⟨t', rfl⟩ := ry; exact PySem.EqMixed.ne_int_str (fin_bl I q (by simp))
    | _ => exact absurd (show false = true from hs) Bool.false_ne_true
  | str i =>
    obtain ⟨t, rfl⟩ := rx
    cases y with
    | non => cases ry; exact PySem.EqNone.ne_str_none (fin_bl I q (by simp))
    | bl j => cases ry; exact PySem.EqMixed.ne_str_bool (fin_bl I q (by simp))
    | int j => obtain ⟨t', rfl⟩ := ry; exact PySem.EqMixed.ne_str_int (fin_bl I q (by simp))
    | str j => obtain ⟨t', rfl⟩ := ry; exact ne_str (fin_bl I q (congrArg not dec_str))
    | _ => exact absurd (show false = true from hs) Bool.false_ne_true
  | byt i =>
    obtain ⟨t, rfl⟩ := rx
    cases y with
    | byt j => obtain ⟨t', rfl⟩ := ry; exact PySem.W.ne_bytes (fin_bl I q (congrArg not dec_byt))
    | _ => exact absurd (show false = true from hs) Bool.false_ne_true
  | _ => cases y <;> exact absurd (show false = true from hs) Bool.false_ne_true
theorem op_lt : OpR X (compareOp .Lt) (rI0 fun i j => .bl (decide (i < j))) := opB0 fun _ _ _ _ _ _ _ q => lt_int q
theorem op_gt : OpR X (compareOp .Gt) (rI0 fun i j => .bl (decide (j < i))) := opB0 fun _ _ _ _ _ _ _ q => gt_int q
theorem op_lt_str : OpR X (compareOp .Lt) (fun x y H Q => ∃ i j, x = .str i ∧ y = .str j ∧ Q (.bl (decide (i.cps.toList < j.cps.toList))) H) := by
  intro pins s σ H x y v u Q I rx ry h
  obtain ⟨i, j, rfl, rfl, q⟩ := h
  obtain ⟨t, rfl⟩ := rx
  obtain ⟨t', rfl⟩ := ry
  exact lt_str (fin_bl I q rfl)
/-- is None, is not None: the right side a value none -/
theorem op_isN : OpR X (compareOp .Is) (fun x y H Q => y = .non ∧ Q (.bl (decide (x = .non))) H) := by
  intro pins s σ H x y v u Q I rx ry h
  obtain ⟨rfl, q⟩ := h
  cases ry
  refine is_none_gen (fin_bl I q ?_)
  cases x <;> first
    | (cases rx; rfl)
    | (obtain ⟨t, rfl⟩ := rx; rfl)
theorem op_notN : OpR X (compareOp .IsNot) (fun x y H Q => y = .non ∧ Q (.bl (!decide (x = .non))) H) := by
  intro pins s σ H x y v u Q I rx ry h
  obtain ⟨rfl, q⟩ := h
  cases ry
  refine isnot_none_gen (fin_bl I q ?_)
  cases x <;> first
    | (cases rx; rfl)
    | (obtain ⟨t, rfl⟩ := rx; rfl)
/-- is, is not of two objects that are tracked lists or instances -/
def isObj : HO → Bool
  | .lst _ => true
  | .ins _ _ _ => true
  | _ => false
theorem nomark (b : Expr) {op : CmpOp} (h : op ≠ .In := by decide) (h2 : op ≠ .NotIn := by decide) : behindInMarks op b = false := by
  have e1 : (op == CmpOp.In) = false := by cases op <;> first | rfl | exact absurd rfl h
  have e2 : (op == CmpOp.NotIn) = false := by cases op <;> first | rfl | exact absurd rfl h2
  cases b <;> simp [behindInMarks, e1, e2]
/-- a comparison as a value; hm: nomark b, or (for in, not in) by with_unfolding_all rfl -/
theorem pe_cmpR {op : CmpOp} {r : R2} (ho : OpR X (compareOp op) r) (ha : PE X a ta) (hb : PE X b tb) (hm : behindInMarks op b = false) : PE X (.Compare a [op] [b] pos) (tOp r ta tb) := by
  intro pins s σ H Q I h
  exact wpAny_Compare1 (binT ha hb I h fun v u s2 x y H2 I2 rx ry q => ho pins s2 σ H2 x y v u Q I2 rx ry q) hm
/-- a reading of a value as a test -/
def tTest (t : TE) : TT := fun σ H Q => t σ H fun x H' => ∃ k, x = .bl k ∧ Q k H'
theorem pt_cmpR {op : CmpOp} {r : R2} (ho : OpR X (compareOp op) r) (ha : PE X a ta) (hb : PE X b tb) (hm : behindInMarks op b = false) : PT X (.Compare a [op] [b] pos) (tTest (tOp r ta tb)) := by
  intro pins s σ H Q I h
  refine wpAny_isTrue_Compare1 (thn (ha pins s σ H _ I h) fun v s1 ⟨x, H1, I1, r1, q1⟩ => thn (hb pins s1 σ H1 _ I1 q1) fun u s2 ⟨y, H2, I2, r2, q2⟩ =>
    thn (ho pins s2 σ H2 x y v u _ I2 r1 r2 q2) fun c s3 ⟨z, H3, I3, r3, k, e, q3⟩ => ?_) hm
  subst e
  cases r3
  exact wpAny_truthy_bool ⟨H3, I3, q3⟩
/-- a op1 b op2 c -/
def tChain (r r' : R2) (ta tb tc : TE) : TE := fun σ H Q => ta σ H fun x H1 => tb σ H1 fun y H2 => r x y H2 fun z H3 => ∃ k, z = .bl k ∧
  (if k = true then tc σ H3 fun w' H4 => r' y w' H4 Q else Q (.bl false) H3)
/-- a value's truth by the abstract heap -/
def TruV (K : PySem.W.Frag) (x : V) (H : Hp) (k : Bool) : Prop :=
  match x with
  | .non => k = false
  | .bl b => k = b
  | .int i => k = (i != 0)
  | .str y => y.length ≤ sizeLine ∧ k = ((y.length : Int) != 0)
  | .byt y => y.size ≤ sizeLine ∧ k = ((y.size : Int) != 0)
  | .ref p => (∃ xs, SqL K H p xs ∧ k = !xs.isEmpty) ∨ (∃ xs, SqT K H p xs ∧ k = !xs.isEmpty) ∨ ∃ kvs, H p = some (.dK kvs) ∧ k = !kvs.isEmpty
  | _ => False
theorem line63 : (sizeLine : Nat) < 2 ^ 63 := by rw [sizeLine_eq]; decide
theorem op_add_str : OpR X (binaryOp .Add) (fun x y H Q => ∃ i j, x = .str i ∧ y = .str j ∧ i.length + j.length ≤ sizeLine ∧ Q (.str (i ++ j)) H) := by
  intro pins s σ H x y v u Q I rx ry h
  obtain ⟨i, j, rfl, rfl, hz, q⟩ := h
  obtain ⟨t, rfl⟩ := rx
  obtain ⟨t', rfl⟩ := ry
  exact add_str (fun t' tk => ⟨.str (i ++ j), H, I.tok _, ⟨_, rfl⟩, q⟩) hz
def PlainIxT (b : Expr) : Prop := ∀ o i, subscripted b false o i = operate [o, i] (getItem o i)
theorem vals1 {x : V} {us : List Value} (r : Vals [x] us) : ∃ u, us = [u] ∧ RelV x u := by
  cases r with
  | cons r1 r2 => cases r2; exact ⟨_, rfl, r1⟩
theorem vals2 {x y : V} {us : List Value} (r : Vals [x, y] us) : ∃ u w', us = [u, w'] ∧ RelV x u ∧ RelV y w' := by
  cases r with
  | cons r1 r2 =>
    cases r2 with
    | cons r3 r4 => cases r4; exact ⟨_, _, rfl, r1, r3⟩
theorem call_abs : CallR X (.builtin "abs") (fun xs H Q => ∃ i, xs = [.int i] ∧ Q (.int (if i < 0 then -i else i)) H) := by
  intro pins s σ H xs us Q I r h
  obtain ⟨i, rfl, q⟩ := h
  obtain ⟨u, rfl, t, rfl⟩ := vals1 r
  exact call_abs_int fun u tk => ⟨.int (if i < 0 then -i else i), H, I.tok _, ⟨_, rfl⟩, q⟩
theorem call_int1 : CallR X (.type "int") (fun xs H Q => (∃ i, xs = [.int i] ∧ Q (.int i) H) ∨ ∃ k, xs = [.bl k] ∧ Q (.int (if k then 1 else 0)) H) := by
  intro pins s σ H xs us Q I r h
  rcases h with ⟨i, rfl, q⟩ | ⟨k, rfl, q⟩
  · obtain ⟨u, rfl, t, rfl⟩ := vals1 r
    exact call_int_int ⟨.int i, H, I, ⟨_, rfl⟩, q⟩
  · obtain ⟨u, rfl, r1⟩ := vals1 r
    cases r1
    exact call_int_bool ⟨.int (if k then 1 else 0), H, I.tok _, ⟨_, rfl⟩, q⟩
/-- len of a str, a bytes, a list, a tuple -/
def LenV (K : PySem.W.Frag) (x : V) (H : Hp) (n : Nat) : Prop :=
  match x with
  | .str y => y.length ≤ sizeLine ∧ n = y.length
  | .byt y => y.size ≤ sizeLine ∧ n = y.size
  | .ref p => (∃ xs, SqL K H p xs ∧ n = xs.length) ∨ ∃ xs, SqT K H p xs ∧ n = xs.length
  | _ => False
end
end L2
namespace L2
open PySem PySem.Spec PyProof.Rows
structure ObjM (h : Heap) (x dx C : Addr) (mA : Str → Option Value) : Prop where
  obj : h.get? x = some (PySem.W.instObj C dx)
  ns : h.Ns1 dx mA
  ne : dx ≠ x
theorem lookIn_ns {h : Heap} {dx : Addr} {mA : Str → Option Value} (n : h.Ns1 dx mA) : ∃ od, h.get? dx = some od ∧ ∀ name, PySem.W.lookIn name od = some (mA name) := by
  obtain ⟨o, es, ep, ho, hd, hk, _, hm⟩ := n
  refine ⟨o, ho, fun name => ?_⟩
  have e := hm name
  unfold nsFind findBy at e
  rw [← Array.find?_toList] at e
  unfold PySem.W.lookIn
  rw [hd]
  dsimp only
  split
  · rename_i y q
    rw [q] at e
    exact congrArg some e
  · rename_i q
    rw [q] at e
    have a : es.toList.any (·.refKey) = false := by
      rw [List.any_eq_false]
      intro y hy
      obtain ⟨z, t, hkey⟩ := hk y (Array.mem_toList_iff.mp hy)
      simp [DictEntry.refKey, hkey]
    have a' : ¬ es.toList.any (·.refKey) = true := by rw [a]; exact Bool.false_ne_true
    rw [if_neg a']
    exact congrArg some e
theorem ObjM.look {h : Heap} {x dx C : Addr} {mA : Str → Option Value} (I : ObjM h x dx C mA) : ∃ od, PySem.W.InstAt h x (PySem.W.instObj C dx) C (some od) ∧ ∀ name, PySem.W.lookIn name od = some (mA name) :=
  let ⟨od, ho, hl⟩ := lookIn_ns I.ns
  ⟨od, ⟨I.obj, rfl, rfl, ho⟩, hl⟩
section
variable {prog : Program} {w : World} {A : Around} {E : Value → Shared → Prop} {s : Shared} {K : PySem.W.Frag} {x dx C f : Addr} {mA : Str → Option Value} {name : Str} {v : Value}
end
def putF (f : Str) (v : V) : List (Str × V) → List (Str × V)
  | [] => [(f, v)]
  | (g, x) :: r => if g = f then (g, v) :: r else (g, x) :: putF f v r
section
variable {P : Program} {w : World} {H H' : Hp} {h h' : Heap} {a C dx : Addr} {fs fs' : List (Str × V)}
theorem ins_get (hok : HOk P w H h) (e : H a = some (.ins C dx fs)) : ∃ mA, ObjM h a dx C mA ∧ (∀ f, RelO (fs.lookup f) (mA f)) ∧ PySem.Within mA (fs.map (·.1)) ∧ fs.length ≤ 1000 ∧ H dx = some (.own a) := by
  obtain ⟨d, z, ne, ob, mA, n, r, q⟩ := (show ObjOk P w H h a (.ins C dx fs) from hok a _ e)
  exact ⟨mA, ⟨ob, n, ne⟩, r, q, z, d⟩
end
structure Cls (K : PySem.W.Frag) (C : Addr) : Prop where
  pg : PySem.W.plainGet K C Str.empty = true
  hd : PySem.W.hasDictIn K C = true
  po : PySem.W.plainOver K C = true
  sa : PySem.W.findIn K (.ref C) "__setattr__" = some (some (.builtin "object.__setattr__"))
theorem Cls.get {K : PySem.W.Frag} {C : Addr} (c : Cls K C) (f : Str) : PySem.W.plainGet K C f = true := c.pg
/-- no class of it has the name -/
def NoAttr (K : PySem.W.Frag) (C : Addr) (f : Str) : Prop := PySem.W.findIn K (.ref C) f = some none
/-- a constant of the class -/
structure Con (K : PySem.W.Frag) (C : Addr) (f : Str) (v : V) (u : Value) : Prop where
  at_ : PySem.W.findIn K (.ref C) f = some (some u)
  rel : RelV v u
  get : PySem.W.specialIn K u "__get__" = some none
  cp : PySem.W.copiedNames.contains f = false
/-- a method: a plain def of the class or of one above it -/
structure Meth (K : PySem.W.Frag) (C : Addr) (m : Str) (f : Addr) : Prop where
  at_ : PySem.W.findIn K (.ref C) m = some (some (.ref f))
  fn : PySem.W.isFn K (.ref f) = true
  kp : PySem.W.keepIn K (.ref f) = true
section
variable {X : Cx} {pins : List (Addr × Obj)} {σ : St} {H : Hp} {s : Shared} {a C dx : Addr} {fs : List (Str × V)} {f : Str} {v : V} {A : Around} {E : Value → Shared → Prop}
end
/-- e.f, an attribute of the instance -/
def tFld (K : PySem.W.Frag) (ta : TE) (f : Str) : TE := fun σ H Q => ta σ H fun x H1 => ∃ a C dx fs v, x = .ref a ∧ H1 a = some (.ins C dx fs) ∧ Cls K C ∧ NoAttr K C f ∧ fs.lookup f = some v ∧ Q v H1
/-- e.f, a constant of the class -/
def tCon (K : PySem.W.Frag) (ta : TE) (f : Str) : TE := fun σ H Q => ta σ H fun x H1 => ∃ a C dx fs v u, x = .ref a ∧ H1 a = some (.ins C dx fs) ∧ Cls K C ∧ Con K C f v u ∧ fs.lookup f = none ∧ Q v H1
/-- e.f = value -/
def sFld (K : PySem.W.Frag) (ta tv : TE) (f : Str) : TS := fun D σ H => tv σ H fun y H1 => ta σ H1 fun x H2 => ∃ a C dx fs, x = .ref a ∧ H2 a = some (.ins C dx fs) ∧ Cls K C ∧ NoAttr K C f ∧ fs.length < 1000 ∧
  D.nx σ (upd H2 a (.ins C dx (putF f y fs)))
/-- an augmented operator on two values -/
def InOp (X : Cx) (op : Operator) (rd : V → V → Hp → VK → Prop) : Prop :=
  ∀ (pins : List (Addr × Obj)) (s : Shared) (σ : St) (H : Hp) (x y : V) (u v : Value) (Q : VK), Inv X pins σ H s → RelV x u → RelV y v → rd x y H Q → wpAny (model X.prog X.w) X.A (inplaceOp op u v) (EP X pins σ Q) X.xe s
/-- e.f op= value -/
def sFldAug (K : PySem.W.Frag) (ta tv : TE) (rd : V → V → Hp → VK → Prop) (f : Str) : TS := fun D σ H => ta σ H fun x H1 => ∃ a C dx fs v, x = .ref a ∧ H1 a = some (.ins C dx fs) ∧ Cls K C ∧ NoAttr K C f ∧ fs.lookup f = some v ∧
  tv σ H1 fun y H2 => rd v y H2 fun z H3 => ∃ dx' fs', H3 a = some (.ins C dx' fs') ∧ fs'.length < 1000 ∧ D.nx σ (upd H3 a (.ins C dx' (putF f z fs')))
section
variable {X : Cx} {o e value : Expr} {f : Str} {pos pos' tpos : Pos} {ta tv : TE}
def rAdd : V → V → Hp → VK → Prop := fun x y H Q => ∃ i j, x = .int i ∧ y = .int j ∧ Q (.int (i + j)) H
def rSub : V → V → Hp → VK → Prop := fun x y H Q => ∃ i j, x = .int i ∧ y = .int j ∧ Q (.int (i - j)) H
end
section
variable {X : Cx} {pins : List (Addr × Obj)} {σ : St} {H : Hp} {s : Shared} {A : Around} {E : Value → Shared → Prop} {Q : Value → Shared → Prop} {c : Value} {b : Bool}
/-- the type of a value, as the fragment's deciders take it; for an instance its class -/
inductive TyOf (K : PySem.W.Frag) (H : Hp) : V → Value → Prop where
  | non : TyOf K H .non (.type "NoneType")
  | bl (x : Bool) : TyOf K H (.bl x) (.type "bool")
  | int (i : Int) : TyOf K H (.int i) (.type "int")
  | str (x : Str) : TyOf K H (.str x) (.type "str")
  | flt (x : UInt64) : TyOf K H (.flt x) (.type "float")
  | lst {a : Addr} {xs : List V} (e : H a = some (.lst xs)) : TyOf K H (.ref a) (.type "list")
  | frz {a : Addr} {o : Obj} {xs : List V} (e : H a = some (.frz o (.lst xs))) : TyOf K H (.ref a) (.type "list")
  | tup {a : Addr} {xs : List V} (e : H a = some (.tup xs)) : TyOf K H (.ref a) (.type "tuple")
  | dK {a : Addr} {kvs : List (Key × V)} (e : H a = some (.dK kvs)) : TyOf K H (.ref a) (.type "dict")
  | dT {a : Addr} {kvs : List (List Key × V)} (e : H a = some (.dT kvs)) : TyOf K H (.ref a) (.type "dict")
  | ins {a C dx : Addr} {fs : List (Str × V)} (e : H a = some (.ins C dx fs)) (cl : Cls K C) (ha : PySem.W.findIn K (.ref C) "__class__" = some (some (.builtin "object.__class__")))
      (hn : PySem.W.specialIn K (.builtin "object.__class__") "__get__" = some (some (.builtin "getset_descriptor.__get__"))) (htk : PySem.W.takesIn K (.builtin "object.__class__") = some true)
      (hm : PySem.W.mroIn K C (.type "object") = some true) : TyOf K H (.ref a) (.ref C)
/-- isinstance(x, c) for one class c, a built-in or an own one: kitOne's answer -/
theorem isinst_ok {x : V} {u t : Value} (I : Inv X pins σ H s) (rx : RelV x u) (ty : TyOf X.K H x t) (e : PySem.W.kitOne X.K t c = some b) (h : ∀ tk, Q (.bool b) { s with toks := tk }) :
    wpAny (model X.prog X.w) A (call (.builtin "isinstance") [u, c]) Q E s := by
  cases ty with
  | non => cases (show u = Value.none from rx); exact PySem.W.kia_one PySem.W.kitx_none I.kIn True.intro e (fun z => nomatch z) h
  | bl y => cases (show u = Value.bool y from rx); exact PySem.W.kia_one PySem.W.kitx_bool I.kIn True.intro e (fun z => nomatch z) h
  | int i => obtain ⟨t, q⟩ := (show ∃ t, u = Value.int i t from rx); cases q; exact PySem.W.kia_one PySem.W.kitx_int I.kIn True.intro e (fun z => nomatch z) h
  | str y => obtain ⟨t, q⟩ := (show ∃ t, u = Value.str y t from rx); cases q; exact PySem.W.kia_one PySem.W.kitx_str I.kIn True.intro e (fun z => nomatch z) h
  | flt y => obtain ⟨t, q⟩ := (show ∃ t, u = Value.float y t from rx); cases q; exact PySem.W.kia_one PySem.W.kitx_float I.kIn True.intro e (fun z => nomatch z) h
  | @lst a xs ea =>
    cases (show u = Value.ref a from rx)
    obtain ⟨_, _, n, _, h1⟩ := (show ObjOk X.prog X.w H s.heap a (.lst xs) from I.hok a _ ea)
    exact PySem.W.kia_one PySem.W.kitx_list I.kIn ⟨_, h1, rfl⟩ e (fun z => nomatch z) h
  | @frz a ob xs ea =>
    cases (show u = Value.ref a from rx)
    obtain ⟨_, _, _, n, _, h1⟩ := (show ObjOk X.prog X.w H s.heap a (.frz ob (.lst xs)) from I.hok a _ ea)
    exact PySem.W.kia_one PySem.W.kitx_list I.kIn ⟨_, h1, rfl⟩ e (fun z => nomatch z) h
  | @tup a xs ea =>
    cases (show u = Value.ref a from rx)
    obtain ⟨_, _, _, p⟩ := (show ObjOk X.prog X.w H s.heap a (.tup xs) from I.hok a _ ea)
    obtain ⟨o, h1, h2, _⟩ := p
    exact PySem.W.kia_one PySem.W.kitx_tuple I.kIn ⟨o, h1, h2⟩ e (fun z => nomatch z) h
  | @dK a kvs ea =>
    cases (show u = Value.ref a from rx)
    obtain ⟨_, _, vs, _, p⟩ := (show ObjOk X.prog X.w H s.heap a (.dK kvs) from I.hok a _ ea)
    obtain ⟨o, es, ep, h1, h2, _⟩ := p
    exact PySem.W.kia_one PySem.W.kitx_dict I.kIn ⟨o, h1, h2.1⟩ e (fun z => nomatch z) h
  | @dT a kvs ea =>
    cases (show u = Value.ref a from rx)
    obtain ⟨_, _, xs, _, o, es, ep, h1, h2, _⟩ := (show ObjOk X.prog X.w H s.heap a (.dT kvs) from I.hok a _ ea)
    exact PySem.W.kia_one PySem.W.kitx_dict I.kIn ⟨o, h1, h2.1⟩ e (fun z => nomatch z) h
  | @ins a C dx fs ea cl ha hn htk hm =>
    cases (show u = Value.ref a from rx)
    obtain ⟨mA, O, _⟩ := ins_get I.hok ea
    obtain ⟨od, J, _⟩ := O.look
    exact PySem.W.kia_one (PySem.W.kitx_own (cl.get _) cl.hd ha hn htk hm) I.kIn J e (fun z => nomatch z) h
end
end L2
namespace L2
open PySem PySem.Spec PyProof.Rows
structure Room (k : Nat) (A : Around) : Prop where
  hd : A.handled = none
  dp : A.depth + 3 * k + 5 < recursionLimit
  un : A.units + 16 * k + 200 < cLine
theorem Room.mono {j k : Nat} {A : Around} (r : Room k A) (h : j ≤ k) : Room j A := ⟨r.hd, by have := r.dp; omega, by have := r.un; omega⟩
theorem Room.deeper {k : Nat} {A : Around} (r : Room (k + 1) A) (env : Env) : Room k (A.deeper env) :=
  ⟨r.hd, by have := r.dp; show A.depth + 1 + 3 * k + 5 < _; omega, by have := r.un; show A.units + 3 + 16 * k + 200 < _; omega⟩
theorem Room.in1 {k : Nat} {A : Around} (r : Room (k + 1) A) : Room k A.in1 :=
  ⟨r.hd, by have := r.dp; show A.depth + 3 * k + 5 < _; omega, by have := r.un; show A.units + 1 + 16 * k + 200 < _; omega⟩
theorem Room.depth {k : Nat} {A : Around} (r : Room k A) : A.depth < recursionLimit := by have := r.dp; omega
theorem Room.units {k : Nat} {A : Around} (r : Room k A) : A.units + 64 < cLine := by have := r.un; omega
def tNil : TA := fun _ H Q => Q [] H
def tCons (ta : TE) (tr : TA) : TA := fun σ H Q => ta σ H fun x H1 => tr σ H1 fun xs H2 => Q (x :: xs) H2
section
variable {X : Cx} {e : Expr} {es : List Expr} {te : TE} {t : TA} {pos : Pos}
theorem pa_nil : PA X [] tNil := fun _ _ _ _ H Q I h => Calls.spliced_nil ⟨[], H, I, .nil, h⟩
theorem pa_cons (ha : PE X e te) (hr : PA X es t) (hs : starEach (e :: es) X.env = (false, eval e X.env) :: starEach es X.env := by rfl) : PA X (e :: es) (tCons te t) := by
  intro pos pins s σ H Q I h
  rw [hs]
  show wpAny _ _ (spliced ((false, eval e X.env) :: backTo pos (starEach es X.env))) _ _ s
  refine Calls.spliced_cons (thn (ha pins s σ H _ I h) fun u s1 ⟨x, H1, I1, r1, q1⟩ => ?_)
  exact thn (hr pos pins s1 σ H1 _ I1 q1) fun us s2 ⟨xs, H2, I2, r2, q2⟩ => ⟨x :: xs, H2, I2, .cons r1 r2, q2⟩
/-- a tuple, a list of written items -/
def tTup (t : TA) : TE := fun σ H Q => t σ H fun xs H1 => xs.length ≤ sizeLine ∧ ∀ p, H1 p = none → Q (.ref p) (upd H1 p (.tup xs))
def tLst (t : TA) : TE := fun σ H Q => t σ H fun xs H1 => xs.length ≤ sizeLine ∧ ∀ p, H1 p = none → Q (.ref p) (upd H1 p (.lst xs))
theorem pe_tup {x1} (h : PA X es t) : PE X (.Tuple es x1 pos) (tTup t) := by
  intro pins s σ H Q I hq
  refine wpAny_Tuple_spliced (thn (h pos pins s σ H _ I hq) fun us s1 ⟨xs, H1, I1, r, z, q⟩ => ⟨by rw [← r.length]; exact z, ?_⟩)
  have hf : H1 s1.heap.objs.size = none := I1.hok.fresh (Nat.le_refl _)
  refine ⟨.ref s1.heap.objs.size, upd H1 s1.heap.objs.size (.tup xs), I1.laid (t' := s1.toks) (fun b u e => Heap.get?_push_of_some _ e) (Nat.le_refl _) ?_, rfl, q _ hf⟩
  exact ⟨z, us, r, ⟨_, Heap.get?_push_size _ rfl, rfl, _, rfl⟩⟩
theorem pe_lst (h : PA X es t) : PE X (.List es pos) (tLst t) := by
  intro pins s σ H Q I hq
  refine wpAny_List_spliced (thn (h pos pins s σ H _ I hq) fun us s1 ⟨xs, H1, I1, r, z, q⟩ => ⟨by rw [← r.length]; exact z, ?_⟩)
  have hf : H1 s1.heap.objs.size = none := I1.hok.fresh (Nat.le_refl _)
  refine ⟨.ref s1.heap.objs.size, upd H1 s1.heap.objs.size (.lst xs), I1.laid (t' := s1.toks) (fun b u e => Heap.get?_push_of_some _ e) (Nat.le_refl _) ?_, rfl, q _ hf⟩
  exact ⟨z, us, 0, r, Heap.get?_push_size _ rfl⟩
end
/-- a def's promise: the bound arguments in the parameters' order, the heap, the wanted end, the wanted exception -/
abbrev Sp := List V → Hp → VK → XK → Prop
/-- how an exception lies behind a call (file 08 gives it): the callers' frames, abstract heap and state ahead of the call, the wish, the exception, the state -/
abbrev CXT := List Env → Hp → Shared → XK → Value → Shared → Prop
/-- the state at a call -/
structure Env0 (P : Program) (w : World) (K : PySem.W.Frag) (mg : Str → Option Value) (base : Heap) (A : Around) (outer : List Env) (s : Shared) (H : Hp) : Prop where
  frames : A.frames = some outer
  mod : Mod K mg base
  bs : ∀ b o, base.get? b = some o → s.heap.get? b = some o ∧ H b = none
  bsz : base.objs.size ≤ s.heap.objs.size
  funs : s.heap.FunFrames base outer
  frf : ∀ b ∈ frs outer, H b = none
  hok : HOk P w H s.heap
  bare : AllBare s.gens
/-- a call's end -/
def CE (outer : List Env) (P : Program) (w : World) (H : Hp) (s : Shared) (Q : VK) (u : Value) (s' : Shared) : Prop :=
  ∃ v H', s'.os = s.os ∧ AllBare s'.gens ∧ Un (frs outer) [] H H' s.heap s'.heap ∧ HOk P w H' s'.heap ∧ RelV v u ∧ Q v H'
def CR (CX : CXT) (outer : List Env) (P : Program) (w : World) (H : Hp) (s : Shared) (Q : VK) (E : XK) (r : Result) (s' : Shared) : Prop :=
  match r with
  | .ok (.ret u) => CE outer P w H s Q u s'
  | .ok _ => False
  | .error e => CX outer H s E e s'
structure FnOk (P : Program) (w : World) (K : PySem.W.Frag) (mg : Str → Option Value) (base : Heap) (CX : CXT) (k : Nat) (f : Addr) (fd : FuncData) (ps : List Str) (sp : Sp) : Prop where
  len : ∀ vs H Q E, sp vs H Q E → vs.length = ps.length
  run : ∀ (A : Around) (outer : List Env) (s : Shared) (H : Hp) (args : Args) (us : List Value) (vs : List V) (Q : VK) (E : XK), Room k A → Env0 P w K mg base A outer s H → BindsTo s fd args (ps.zip us) → Vals vs us → sp vs H Q E →
    codeAny (model P w) A (.call (.ref f) args) (CR CX outer P w H s Q E) s
section
variable {X : Cx} {pins : List (Addr × Obj)} {σ : St} {H : Hp} {s s' : Shared}
/-- from a body: what a callee wants -/
theorem Inv.env0 (I : Inv X pins σ H s) : Env0 X.prog X.w X.K X.mg X.base X.A X.stack s H :=
  ⟨I.ok.frames, I.ok.mod, I.bs, Nat.le_trans I.ok.bsz I.sz, I.stack, I.stkFree, I.hok, I.bare⟩
/-- behind a call -/
theorem Inv.after {Q : VK} {u : Value} (I : Inv X pins σ H s) (h : CE X.stack X.prog X.w H s Q u s') : EP X pins σ Q u s' := by
  obtain ⟨v, H', os, bare, un, hok, r, q⟩ := h
  obtain ⟨hh, g, d, t, os'⟩ := s'
  obtain rfl : os' = s.os := os
  exact ⟨v, H', I.call (h' := hh) (g' := g) (d' := d) (t' := t) (ch := []) un hok bare (fun b z => absurd z (by simp)), r, q⟩
end
/-- f(..): the written arguments, then the defaults dvs; E: what is wanted of an exception -/
def tCall (sp : Sp) (dvs : List V) (E : XK) (t : TA) : TE := fun σ H Q => t σ H fun vs H1 => sp (vs ++ dvs) H1 Q E
/-- o.m(..) of an instance of the class at C -/
def tMeth (C : Addr) (m : Str) (sp : Sp) (dvs : List V) (E : XK) (ta : TE) (t : TA) : TE := fun σ H Q => ta σ H fun x H1 => ∃ a dx fs, x = .ref a ∧ H1 a = some (.ins C dx fs) ∧ fs.lookup m = none ∧
  t σ H1 fun vs H2 => sp (x :: (vs ++ dvs)) H2 Q E
/-- C(..): a new instance and its dict, then __init__ -/
def tMake (C : Addr) (sp : Sp) (dvs : List V) (E : XK) (t : TA) : TE := fun σ H Q => t σ H fun vs H1 => ∀ x dx, H1 x = none → H1 dx = none → dx ≠ x →
  sp (.ref x :: (vs ++ dvs)) (upd (upd H1 dx (.own x)) x (.ins C dx [])) (fun v H2 => v = .non ∧ Q (.ref x) H2) E
/-- how the parameters are bound: us the positional arguments, kw the keywords' values by name, ds the defaults that fill up -/
def Binds (K : PySem.W.Frag) (fd : FuncData) (ps : List Str) (ds : List Value) : Prop :=
  ∀ (s : Shared) (us : List Value), K.In s.heap → (us ++ ds).length = ps.length → BindsTo s fd ⟨us, []⟩ (ps.zip (us ++ ds))
/-- every parameter is given -/
theorem Binds.all {K : PySem.W.Frag} {fd : FuncData} {ps : List Str} (h : ∀ us : List Value, us.length = ps.length → bindArgs fd ⟨us, []⟩ = pure (ps.zip us)) : Binds K fd ps [] := fun s us _ hl => by
  rw [List.append_nil] at hl ⊢
  exact .of_eq (h us hl)
/-- an exception of a callee reaches what this body wants of exceptions -/
def Passes (CX : CXT) (X : Cx) (E : XK) : Prop := ∀ (pins : List (Addr × Obj)) (σ : St) (H : Hp) (s : Shared) (e : Value) (s' : Shared), Inv X pins σ H s → CX X.stack H s E e s' → X.xe e s'
section
variable {X : Cx} {CX : CXT} {k : Nat} {f C : Addr} {fd : FuncData} {ps : List Str} {sp : Sp} {dvs : List V} {ds : List Value} {E : XK} {x m : Str} {p pos apos : Pos} {e o : Expr} {es : List Expr} {ta : TE} {t : TA}
/-- the callee runs -/
theorem run_fn {pins : List (Addr × Obj)} {σ : St} {H : Hp} {s : Shared} {Q : VK} {us : List Value} {vs : List V} (F : FnOk X.prog X.w X.K X.mg X.base CX k f fd ps sp) (hr : Room k X.A) (hb : Binds X.K fd ps ds) (hd : Vals dvs ds) (hx : Passes CX X E)
    (I : Inv X pins σ H s) (r : Vals vs us) (h : sp (vs ++ dvs) H Q E) : wpAny (model X.prog X.w) X.A (call (.ref f) us) (EP X pins σ Q) X.xe s := by
  have r2 : Vals (vs ++ dvs) (us ++ ds) := r.append hd
  have hl : (us ++ ds).length = ps.length := by rw [← r2.length]; exact F.len _ _ _ _ h
  refine wpAny_call (codeAny_mono (F.run X.A X.stack s H ⟨us, []⟩ (us ++ ds) (vs ++ dvs) Q E hr I.env0 (hb s us I.kIn hl) r2 h) fun r s' hq => ?_)
  cases r with
  | error e => exact hx pins σ H s e s' I hq
  | ok fl =>
    cases fl with
    | ret u => exact I.after hq
    | next => exact False.elim hq
    | brk => exact False.elim hq
    | cont => exact False.elim hq
theorem pe_call (F : FnOk X.prog X.w X.K X.mg X.base CX k f fd ps sp) (hr : Room k X.A) (hg : Gl X x) (hm : X.mg x = some (.ref f)) (hk : PySem.W.keepIn X.K (.ref f) = true) (hb : Binds X.K fd ps ds) (hd : Vals dvs ds) (hx : Passes CX X E)
    (ha : PA X (e :: es) t) (hdb : (x == ("__debug__" : Str)) = false := by decide) (he : starEach (e :: es) X.env = (false, eval e X.env) :: starEach es X.env := by rfl) (hpl : (backTo pos (starEach es X.env)).any (·.1) = false := by rfl) :
    PE X (.Call (.Name x p) (e :: es) [] pos) (tCall sp dvs E t) := by
  intro pins s σ H Q I h
  refine wpAny_Call_Name_kw (ld_glob I hg hm ?_ hdb)
  refine PySem.W.callWith_K (h₀ := X.base) I.ok.mod.kin hk (thn (ha pos pins s σ H _ I h) fun us s1 ⟨vs, H1, I1, r, q⟩ => ⟨I1.kIn, ?_⟩) he hpl
  exact run_fn F hr hb hd hx I1 r q
/-- what a class must have to be made -/
structure Mk (K : PySem.W.Frag) (C f : Addr) : Prop where
  makes : PySem.W.makesIn K C = true
  init : PySem.W.findIn K (.ref C) "__init__" = some (some (.ref f))
  fn : PySem.W.isFn K (.ref f) = true
  kp : PySem.W.keepIn K (.ref C) = true
end
/-- the values of the keywords, from the left -/
def PK (X : Cx) (kws : List Keyword) (t : TA) : Prop :=
  ∀ (pos : Pos) (pins : List (Addr × Obj)) (s : Shared) (σ : St) (H : Hp) (Q : List V → Hp → Prop), Inv X pins σ H s → t σ H Q → wpAny (model X.prog X.w) X.A (evalAll ((backToKw pos (keywordEach kws X.env)).map (·.2))) (AP X pins σ Q) X.xe s
section
variable {X : Cx} {CX : CXT} {k : Nat} {f C : Addr} {fd : FuncData} {ps ks : List Str} {sp : Sp} {E : XK} {x m : Str} {p pos apos kpos : Pos} {e o : Expr} {es : List Expr} {kws : List Keyword} {te ta : TE} {t tk : TA} {nm : Option Str}
theorem pk_nil : PK X [] tNil := fun _ _ _ _ H Q I h => wpAny_evalAll_nil ⟨[], H, I, .nil, h⟩
theorem pk_cons (ha : PE X e te) (hr : PK X kws t) : PK X (⟨nm, e, kpos⟩ :: kws) (tCons te t) := by
  intro pos pins s σ H Q I h
  show wpAny _ _ (evalAll ((do let v ← eval e X.env; standAt pos; pure v) :: (backToKw pos (keywordEach kws X.env)).map (·.2))) _ _ s
  refine wpAny_evalAll_cons (wpAny_bind (thn (ha pins s σ H _ I h) fun u s1 ⟨x, H1, I1, r1, q1⟩ => wpAny_bind (wpAny_standAt (wpAny_pure ?_))))
  exact thn (hr pos pins s1 σ H1 _ I1 q1) fun us s2 ⟨xs, H2, I2, r2, q2⟩ => ⟨x :: xs, H2, I2, .cons r1 r2, q2⟩
/-- how a call with keywords binds: g puts the positional values us and the keywords' values ws (names ks) in the parameters' order, defaults among them -/
structure KBinds (K : PySem.W.Frag) (fd : FuncData) (ps ks : List Str) (g : List Value → List Value → List Value) (gV : List V → List V → List V) : Prop where
  to : ∀ (s : Shared) (us ws : List Value), K.In s.heap → (g us ws).length = ps.length → BindsTo s fd ⟨us, ks.zip ws⟩ (ps.zip (g us ws))
  rel : ∀ {vs : List V} {us : List Value} {zs : List V} {ws : List Value}, Vals vs us → Vals zs ws → Vals (gV vs zs) (g us ws)
def tCallK (sp : Sp) (gV : List V → List V → List V) (E : XK) (t tk : TA) : TE := fun σ H Q => t σ H fun vs H1 => tk σ H1 fun zs H2 => sp (gV vs zs) H2 Q E
variable {g : List Value → List Value → List Value} {gV : List V → List V → List V}
end
/-- names: the parameters first -/
structure FnScope (N P : List Str) (sc : Scope) : Prop where
  kind : sc.kind = .function
  co : sc.isCoroutine = false
  gen : sc.isGenerator = false
  nd : N.Nodup
  pre : N.take P.length = P
  par : ∀ x ∈ P, sc.names.lookup x = some .local ∨ sc.names.lookup x = some .cell
  nofree : ∀ y ∈ sc.names, y.2 ≠ .free
theorem bindL_out {kindOf : Str → Option NameKind} {x : Str} : ∀ {binds : List (Str × Value)} {m : Str → Option Value}, (∀ v, (x, v) ∉ binds) → bindL kindOf binds m x = m x
  | [], _, _ => rfl
  | (n, v) :: r, m, h => by
    unfold bindL
    rw [bindL_out fun w hw => h w (List.mem_cons_of_mem _ hw)]
    split
    · have : x ≠ n := by rintro rfl; exact h v List.mem_cons_self
      simp [this]
    · rfl
theorem bindC_out {kindOf : Str → Option NameKind} {x : Str} : ∀ {binds : List (Str × Value)} {m : Str → Option Value}, (∀ v, (x, v) ∉ binds) → bindC kindOf binds m x = m x
  | [], _, _ => rfl
  | (n, v) :: r, m, h => by
    unfold bindC
    rw [bindC_out fun w hw => h w (List.mem_cons_of_mem _ hw)]
    split
    · rfl
    · have : x ≠ n := by rintro rfl; exact h v List.mem_cons_self
      simp [this]
theorem bindL_get {kindOf : Str → Option NameKind} {x : Str} {v : Value} : ∀ {P : List Str} {vs : List Value} {i : Nat} {m : Str → Option Value}, P.Nodup → P[i]? = some x → vs[i]? = some v → kindOf x = some .local →
    bindL kindOf (P.zip vs) m x = some v
  | [], _, _, _, _, h, _, _ => by simp at h
  | _ :: _, [], _, _, _, _, h, _ => by simp at h
  | p :: P, w :: vs, 0, m, nd, h1, h2, hk => by
    simp at h1 h2; subst h1; subst h2
    show bindL kindOf ((p, w) :: P.zip vs) m p = _
    unfold bindL
    rw [bindL_out fun v hv => (List.nodup_cons.mp nd).1 (List.of_mem_zip hv).1, if_pos hk]
    simp
  | p :: P, w :: vs, i + 1, m, nd, h1, h2, hk => by
    show bindL kindOf ((p, w) :: P.zip vs) m x = _
    unfold bindL
    exact bindL_get (i := i) (List.nodup_cons.mp nd).2 (by simpa using h1) (by simpa using h2) hk
theorem bindC_get {kindOf : Str → Option NameKind} {x : Str} {v : Value} : ∀ {P : List Str} {vs : List Value} {i : Nat} {m : Str → Option Value}, P.Nodup → P[i]? = some x → vs[i]? = some v → kindOf x ≠ some .local →
    bindC kindOf (P.zip vs) m x = some v
  | [], _, _, _, _, h, _, _ => by simp at h
  | _ :: _, [], _, _, _, _, h, _ => by simp at h
  | p :: P, w :: vs, 0, m, nd, h1, h2, hk => by
    simp at h1 h2; subst h1; subst h2
    show bindC kindOf ((p, w) :: P.zip vs) m p = _
    unfold bindC
    rw [bindC_out fun v hv => (List.nodup_cons.mp nd).1 (List.of_mem_zip hv).1, if_neg hk]
    simp
  | p :: P, w :: vs, i + 1, m, nd, h1, h2, hk => by
    show bindC kindOf ((p, w) :: P.zip vs) m x = _
    unfold bindC
    exact bindC_get (i := i) (List.nodup_cons.mp nd).2 (by simpa using h1) (by simpa using h2) hk
/-- the names' values at the entry -/
def start (N : List Str) (vs : List V) : St := vs.map some ++ List.replicate (N.length - vs.length) none
/-- the context of a def's body, at its entry; an exception leaves the frame, then lies as CX says -/
def cxOf (CX : CXT) (P : Program) (w : World) (K : PySem.W.Frag) (mg : Str → Option Value) (base : Heap) (N : List Str) (qual : Str) (scope : Scope) (f : Addr) (cd : Value) (A : Around) (outer : List Env) (s : Shared) (H : Hp) (E : XK) : Cx where
  prog := P
  w := w
  K := K
  mg := mg
  base := base
  A := A.deeper (envOfC qual scope s.heap.objs.size f cd)
  N := N
  s₀ := s
  H₀ := H
  env := envOfC qual scope s.heap.objs.size f cd
  outer := outer
  stack := envOfC qual scope s.heap.objs.size f cd :: outer
  ex := []
  calm := true
  fn := fun _ => true
  pn := []
  xe := fun e s' => wpAny (model P w) (A.deeper (envOfC qual scope s.heap.objs.size f cd)) (leaving (envOfC qual scope s.heap.objs.size f cd) e) (fun _ s'' => CX outer H s E e s'') (fun e' s'' => CX outer H s E e' s'') s'
theorem cell_has {sc : Scope} {n : Nat} {x : Str} (h : sc.names.lookup x = some .cell) : ∃ c, (cellsFrom n sc.names []).lookup x = some c := by
  have q := PySem.W.cellsFrom_some sc.names n [] (.inl h)
  exact Option.isSome_iff_exists.mp q
theorem inv_start {CX : CXT} {P : Program} {w : World} {K : PySem.W.Frag} {mg : Str → Option Value} {base : Heap} {N ps : List Str} {qual : Str} {scope : Scope} {f : Addr} {cd : Value} {A : Around} {outer : List Env} {s s1 : Shared} {H : Hp} {E : XK} {us : List Value} {vs : List V}
    (S : FnScope N ps scope) (hd : A.handled = none) (e0 : Env0 P w K mg base A outer s H) (hl : vs.length = ps.length) (r : Vals vs us)
    (x : InCallC s s.heap.objs.size (bindL (envOfC qual scope s.heap.objs.size f cd).kindOf (ps.zip us) fun _ => none) (cellsFrom (s.heap.objs.size + 1) scope.names []) (bindC (envOfC qual scope s.heap.objs.size f cd).kindOf (ps.zip us) fun _ => none) s1) :
    Inv (cxOf CX P w K mg base N qual scope f cd A outer s H E) [] (start N vs) H s1 := by
  have hpl : ps.length ≤ N.length := by have := congrArg List.length S.pre; rw [List.length_take] at this; omega
  obtain ⟨h1, tk, rfl, hk⟩ := x.done
  have noA : ∀ b : Addr, b ∉ (cxOf CX P w K mg base N qual scope f cd A outer s H E).ex := fun b z => absurd (show b ∈ ([] : List Addr) from z) (by simp)
  refine ⟨⟨e0.mod, S.kind, rfl, rfl, Nat.le_refl _, fun y z c h1 h2 => ?_, fun y hy => ?_, fun y c _ h => ?_, fun _ => hd, Around.frames_deeper e0.frames, .inr ⟨rfl, rfl⟩, fun b z => absurd z (noA b), e0.bs, e0.bsz, fun b _ _ => noA b, fun b z => absurd z (noA b), e0.funs, e0.frf⟩,
    rfl, e0.bare, Un.kept hk, ⟨_, x.toInCall.ns, fun i y v h1 h2 h3 => ?_⟩, fun y c h => ⟨_, x.cell y c h⟩, e0.hok.fresh (Nat.le_refl _), fun y c h => ?_, fun p hp => absurd (show p ∈ ([] : List (Addr × Obj)) from hp) (by simp), e0.hok.kept hk, ?_⟩
  · exact name_of_addr x.apart (PySem.mem_of_lookup h1) (PySem.mem_of_lookup h2)
  · have hy : scope.names.lookup y = some .cell ∨ scope.names.lookup y = some .free := hy
    rcases hy with hy | hy
    · exact cell_has hy
    · exact absurd rfl (S.nofree _ (PySem.mem_of_lookup hy))
  · exact Nat.le_of_lt (x.above y c (PySem.mem_of_lookup h))
  · have hi : i < vs.length := by
      unfold start at h2
      by_cases hi : i < vs.length
      · exact hi
      · rw [List.getElem?_append_right (by simpa using hi)] at h2
        rw [List.getElem?_replicate] at h2
        split at h2 <;> cases h2
    have ha : vs[i]? = some v := by
      unfold start at h2
      rw [List.getElem?_append_left (by simpa using hi), List.getElem?_map] at h2
      cases e : vs[i]? with
      | none => rw [e] at h2; cases h2
      | some a => rw [e] at h2; cases h2; rfl
    obtain ⟨u, hu, rv⟩ := r.get ha
    have hp : ps[i]? = some y := by
      rw [← S.pre, List.getElem?_take_of_lt (by omega)]; exact h1
    have ndP : ps.Nodup := by rw [← S.pre]; exact S.nd.sublist (List.take_sublist _ _)
    refine ⟨u, rv, ?_⟩
    rcases S.par y (List.mem_of_getElem? hp) with k | k
    · exact .inl ⟨k, bindL_get ndP hp hu k⟩
    · obtain ⟨c, e⟩ := cell_has (n := s.heap.objs.size + 1) k
      refine .inr ⟨.inl k, c, e, ?_⟩
      have q := x.cell y c e
      rw [bindC_get ndP hp hu (by show scope.names.lookup y ≠ _; rw [k]; decide)] at q
      exact q
  · exact e0.hok.fresh (Nat.le_of_lt (x.above y c (PySem.mem_of_lookup h)))
  · unfold start
    show _ = N.length
    rw [List.length_append, List.length_map, List.length_replicate]
    omega
/-- THE RULE: a def (or a method) of the text, by its body. The body's reading t is chosen for each entry; it is run at the parameters' values -/
theorem fn_of {CX : CXT} {P : Program} {w : World} {K : PySem.W.Frag} {mg : Str → Option Value} {base : Heap} {k : Nat} {f : Addr} {name qual : Str} {params : Arguments} {body : List Stmt} {scope : Scope} {dV kV doc pm cdv ct oc : Value} {an od : Option Addr}
    {osl : Array (Option Value)} {N ps : List Str} {sp : Sp} (lk : K.lookup f = some ⟨oc, od, .func (PySem.W.fnOf name qual params body scope dV kV doc pm an cdv ct), osl⟩) (hcd : PySem.W.codeIn K cdv qual = true) (S : FnScope N ps scope)
    (len : ∀ vs H Q E, sp vs H Q E → vs.length = ps.length)
    (hbody : ∀ (A : Around) (outer : List Env) (s : Shared) (H : Hp) (vs : List V) (Q : VK) (E : XK), Room k (A.deeper (envOfC qual scope s.heap.objs.size f cdv)) → sp vs H Q E →
      ∃ t, PSs (cxOf CX P w K mg base N qual scope f cdv A outer s H E) body t ∧ t { nx := fun _ H' => Q .non H', rt := Q } (start N vs) H) :
    FnOk P w K mg base CX (k + 1) f (PySem.W.fnOf name qual params body scope dV kV doc pm an cdv ct) ps sp := by
  refine ⟨len, fun A outer s H args us vs Q E hr e0 hb r hsp => ?_⟩
  have hl := len _ _ _ _ hsp
  have KX : K.In s.heap := e0.mod.kin.keeps fun b o e => (e0.bs b o e).1
  have lim : s.heap.NoLimit := e0.mod.nolimit.keeps fun b o e => (e0.bs b o e).1
  have hkind : ∀ y ∈ ps.zip us, scope.names.lookup y.1 = some .local ∨ (scope.names.lookup y.1 = some .cell ∧ ((cellsFrom (s.heap.objs.size + 1) scope.names []).lookup y.1).isSome = true) := fun ⟨n, v⟩ hy => by
    rcases S.par n (List.of_mem_zip hy).1 with q | q
    · exact .inl q
    · exact .inr ⟨q, PySem.W.cellsFrom_some _ _ _ (.inl q)⟩
  refine codeAny_call_function hr.depth (KX _ _ lk) rfl S.co S.gen rfl (PySem.W.codeRec_of KX hcd) (hb _ _ _ _ ?_)
  refine wpAny_newFunctionEnv_cells S.kind hkind fun env he s1 x => ?_
  subst he
  refine ⟨lim.keeps x.toInCall.keep, codeAny_func ?_⟩
  obtain ⟨t, ht, hq⟩ := hbody A outer s H vs Q E (hr.deeper _) hsp
  have I : Inv (cxOf CX P w K mg base N qual scope f cdv A outer s H E) [] (start N vs) H s1 := inv_start S hr.hd e0 hl r x
  refine wpAny_mono (ht [] s1 (start N vs) H _ I hq) (fun fl s' hs => ?_) fun e s' hs => hs
  have fin : ∀ {σ' : St} {H' : Hp} {v : V} {u : Value}, Inv (cxOf CX P w K mg base N qual scope f cdv A outer s H E) [] σ' H' s' → RelV v u → Q v H' → CE outer P w H s Q u s' :=
    fun {σ' H' v u} J rv q => ⟨v, H', J.os, J.bare, J.base, J.hok, rv, q⟩
  cases fl with
  | ret u =>
    obtain ⟨v, σ', H', J, rv, q⟩ := hs
    exact fin J rv q
  | next =>
    obtain ⟨σ', H', J, q⟩ := hs
    exact fin (v := V.non) (u := Value.none) J rfl q
  | brk =>
    obtain ⟨_, _, _, q⟩ := hs
    exact False.elim q
  | cont =>
    obtain ⟨_, _, _, q⟩ := hs
    exact False.elim q
end L2
namespace L2
open PySem PySem.Spec PyProof.Rows
section
variable {X : Cx} {x : Str} {p pos : Pos} {e : Expr} {es : List Expr} {t : TA} {id T : String} {r : List V → Hp → VK → Prop}
def tCB (r : List V → Hp → VK → Prop) (t : TA) : TE := fun σ H Q => t σ H fun vs H1 => r vs H1 Q
/-- f(e, ..), f a built-in function -/
theorem pe_callB (hc : CallR X (.builtin id) r) (hg : Gl X x) (hm : X.mg x = none) (hv : bootBuiltins x = some (.builtin id)) (ha : PA X (e :: es) t) (hn : x ≠ "__name__" := by decide) (hdb : (x == ("__debug__" : Str)) = false := by decide)
    (he : starEach (e :: es) X.env = (false, eval e X.env) :: starEach es X.env := by rfl) (hpl : (backTo pos (starEach es X.env)).any (·.1) = false := by rfl) : PE X (.Call (.Name x p) (e :: es) [] pos) (tCB r t) := by
  intro pins s σ H Q I h
  refine wpAny_Call_Name_kw (ld_blt I hg hm hv ?_ hn hdb)
  exact PyProof.Rows.callWith_builtin1 (thn (ha pos pins s σ H _ I h) fun us s1 ⟨vs, H1, I1, r1, q1⟩ => hc pins s1 σ H1 vs us Q I1 r1 q1) he hpl
/-- T(e, ..), T a built-in type -/
theorem pe_callTy (hc : CallR X (.type T) r) (hg : Gl X x) (hm : X.mg x = none) (hv : bootBuiltins x = some (.type T)) (ha : PA X (e :: es) t) (hn : x ≠ "__name__" := by decide) (hdb : (x == ("__debug__" : Str)) = false := by decide)
    (he : starEach (e :: es) X.env = (false, eval e X.env) :: starEach es X.env := by rfl) (hpl : (backTo pos (starEach es X.env)).any (·.1) = false := by rfl) : PE X (.Call (.Name x p) (e :: es) [] pos) (tCB r t) := by
  intro pins s σ H Q I h
  refine wpAny_Call_Name_kw (ld_blt I hg hm hv ?_ hn hdb)
  exact PyProof.Rows.callWith_type1 (thn (ha pos pins s σ H _ I h) fun us s1 ⟨vs, H1, I1, r1, q1⟩ => hc pins s1 σ H1 vs us Q I1 r1 q1) he hpl
end
end L2
namespace HT
open PySem PyProof.Rows
/-- t < u of tuples of ints -/
def lexLt : List Int → List Int → Bool
  | [], [] => false
  | [], _ :: _ => true
  | _ :: _, [] => false
  | x :: xs, y :: ys => if x = y then lexLt xs ys else decide (x < y)
section
open PySem.SeqAt
open PySem.AutoSeq1 (wpAny_loadPart')
open PySem.MeetsSeq PySem.MeetsSeq2 PySem.MeetsSeq3
end
section
variable {prog : Program} {w : World} {A : Around} {E : Value → Shared → Prop} {s : Shared}
/-- a slice's bound as a place among n (d where it is left out) -/
def sIx (n d : Nat) : Option Int → Nat
  | none => d
  | some v => if v < 0 then (v + (n : Int)).toNat else min v.toNat n
theorem sIx_none (n d : Nat) : sIx n d none = d := rfl
theorem sIx_nat (n d k : Nat) : sIx n d (some (k : Int)) = min k n := by
  show (if (k : Int) < 0 then ((k : Int) + (n : Int)).toNat else min (k : Int).toNat n) = min k n
  rw [if_neg (by omega), Int.toNat_natCast]
end
end HT
namespace L2
open PySem PySem.Spec PyProof.Rows
abbrev TO := St → Hp → (Option Int → Hp → Prop) → Prop
/-- a slice's part (left out, or an int) -/
def PO (X : Cx) (e : Option Expr) (t : TO) : Prop :=
  ∀ (pins : List (Addr × Obj)) (s : Shared) (σ : St) (H : Hp) (Q : Option Int → Hp → Prop), Inv X pins σ H s → t σ H Q →
    wpAny (model X.prog X.w) X.A (evalPart e X.env) (fun u s' => ∃ o H', Inv X pins σ H' s' ∧ IsPart u o ∧ Q o H') X.xe s
def tNoPart : TO := fun _ H Q => Q none H
def tPart (t : TE) : TO := fun σ H Q => t σ H fun x H1 => ∃ i, x = .int i ∧ Q (some i) H1
theorem intsAre_of {ns : List Int} : ∀ {us : List Value}, Vals (ns.map V.int) us → IntsAre us ns := by
  induction ns with
  | nil => intro us r; rw [List.map_nil] at r; cases r; exact .nil
  | cons n ns ih =>
    intro us r
    rw [List.map_cons] at r
    cases r with
    | cons r1 r2 =>
      obtain ⟨t, e⟩ := r1
      subst e
      exact .cons n t (ih r2)
section
variable {X : Cx} {e : Expr} {te : TE} {lo hi : Option Expr} {tl th : TO} {pos p2 : Pos}
theorem po_none : PO X none tNoPart := by
  intro pins s σ H Q I h
  rw [evalPart_none]
  exact wpAny_pure ⟨none, H, I, .none, h⟩
theorem po_some (h : PE X e te) : PO X (some e) (tPart te) := by
  intro pins s σ H Q I hw
  rw [evalPart_some]
  refine thn (h pins s σ H _ I hw) fun u s1 ⟨x, H1, I1, r1, q1⟩ => ?_
  obtain ⟨i, rfl, q⟩ := q1
  obtain ⟨t, rfl⟩ := r1
  exact ⟨some i, H1, I1, .int i t, q⟩
/-- what a slice of a value is, by values: the slice object stands at sl -/
def SlR (X : Cx) (r : V → Option Int → Option Int → Hp → VK → Prop) : Prop :=
  ∀ (pins : List (Addr × Obj)) (s : Shared) (σ : St) (H : Hp) (x : V) (v vl vu : Value) (lo hi : Option Int) (sl : Addr) (Q : VK), Inv X pins σ H s → RelV x v → s.heap.IsSliceOf sl vl vu .none → IsPart vl lo → IsPart vu hi → r x lo hi H Q →
    ∃ T id, typeLookup (.type T) "__getitem__" = pure (some (.builtin id)) ∧ s.TypeIs v T ∧ wpAny (model X.prog X.w) X.A (getItem v (.ref sl)) (EP X pins σ Q) X.xe s
def tSl (r : V → Option Int → Option Int → Hp → VK → Prop) (te : TE) (tl th : TO) : TE := fun σ H Q => te σ H fun x H1 => tl σ H1 fun l H2 => th σ H2 fun u H3 => r x l u H3 Q
/-- a[lo:hi], any a -/
theorem pe_slice {r : V → Option Int → Option Int → Hp → VK → Prop} (hr : SlR X r) (he : PE X e te) (hl : PO X lo tl) (hu : PO X hi th) : PE X (.Subscript e (.Slice lo hi none p2) pos) (tSl r te tl th) := by
  intro pins s σ H Q I h
  refine Subscript_ (thn (he pins s σ H _ I h) fun v s1 ⟨x, H1, I1, r1, q1⟩ => ?_)
  refine wpAny_Slice (thn (hl pins s1 σ H1 _ I1 q1) fun vl s2 ⟨l, H2, I2, pl, q2⟩ => thn (hu pins s2 σ H2 _ I2 q2) fun vu s3 ⟨u, H3, I3, pu, q3⟩ => ?_)
  rw [evalPart_none]
  refine wpAny_pure ?_
  have I4 : Inv X pins σ H3 { s3 with heap := s3.heap.push { cls := .type "slice", data := .fields #[vl, vu, .none] } } := I3.kept (t' := s3.toks) fun b ob q => Heap.get?_push_of_some _ q
  obtain ⟨T, id, hT, ht, hg⟩ := hr pins { s3 with heap := s3.heap.push { cls := .type "slice", data := .fields #[vl, vu, .none] } } σ H3 x v vl vu l u s3.heap.objs.size Q I4 r1 (Heap.IsSliceOf.new ..) pl pu q3
  show wpAny (model X.prog X.w) X.A (subscriptTail e (.Slice lo hi none p2) v (.ref s3.heap.objs.size)) (EP X pins σ Q) X.xe { s3 with heap := s3.heap.push { cls := .type "slice", data := .fields #[vl, vu, .none] } }
  exact tail_any (ops := [.ref s3.heap.objs.size, v]) ht hT hg (by with_unfolding_all rfl)
/-- the items of xs[lo:hi] -/
def cutV (xs : List V) (lo hi : Option Int) : List V := (xs.drop (HT.sIx xs.length 0 lo)).take (HT.sIx xs.length xs.length hi - HT.sIx xs.length 0 lo)
theorem cutV_length (xs : List V) (lo hi : Option Int) : (cutV xs lo hi).length ≤ xs.length := by
  unfold cutV
  rw [List.length_take, List.length_drop]
  omega
/-- t[lo:hi], not the whole of it (the whole would be t itself) -/
def rSlT (K : PySem.W.Frag) : V → Option Int → Option Int → Hp → VK → Prop := fun x lo hi H Q => ∃ a xs, x = .ref a ∧ SqT K H a xs ∧
  ¬ (HT.sIx xs.length 0 lo = 0 ∧ HT.sIx xs.length xs.length hi = xs.length) ∧ ∀ p, H p = none → Q (.ref p) (upd H p (.tup (cutV xs lo hi)))
def rLtT (K : PySem.W.Frag) : R2 := fun x y H Q => ∃ a b ns ms, x = .ref a ∧ y = .ref b ∧ SqT K H a (ns.map V.int) ∧ SqT K H b (ms.map V.int) ∧ Q (.bl (HT.lexLt ns ms)) H
/-- t + u, t not empty: u empty gives t itself -/
def rCatT (K : PySem.W.Frag) : R2 := fun x y H Q => ∃ a b xs ys, x = .ref a ∧ y = .ref b ∧ SqT K H a xs ∧ SqT K H b ys ∧ xs ≠ [] ∧ xs.length + ys.length ≤ sizeLine ∧
  (ys = [] → Q (.ref a) H) ∧ (ys ≠ [] → ∀ p, H p = none → Q (.ref p) (upd H p (.tup (xs ++ ys))))
end
end L2
namespace L2
open PySem PySem.Spec PyProof.Rows
/-- the place that an index of any sign means -/
def ixN (n : Nat) (i : Int) : Option Nat := if 0 ≤ i then (if i < n then some i.toNat else none) else if -(n : Int) ≤ i then some (i + n).toNat else none
def atI {α : Type} (xs : List α) (i : Int) : Option α := (ixN xs.length i).bind fun j => xs[j]?
theorem ixN_seq {n : Nat} {i : Int} {j : Nat} (h : ixN n i = some j) : seqIndex? i n = some j ∧ j < n ∧ -(n : Int) ≤ i ∧ i < n := by
  unfold ixN at h
  by_cases h0 : 0 ≤ i
  · rw [if_pos h0] at h
    by_cases h1 : i < n
    · rw [if_pos h1] at h
      have e : i.toNat = j := Option.some.inj h
      exact ⟨by rw [seqIndex_of h0 h1, e], by omega, by omega, h1⟩
    · rw [if_neg h1] at h; cases h
  · rw [if_neg h0] at h
    by_cases h1 : -(n : Int) ≤ i
    · rw [if_pos h1] at h
      have e : (i + n).toNat = j := Option.some.inj h
      exact ⟨by rw [seqIndex_neg (by omega) h1, e], by omega, h1, by omega⟩
    · rw [if_neg h1] at h; cases h
theorem atI_get {α : Type} {xs : List α} {i : Int} {v : α} (h : atI xs i = some v) : ∃ j, seqIndex? i xs.length = some j ∧ xs[j]? = some v ∧ j < xs.length ∧ -(xs.length : Int) ≤ i ∧ i < xs.length := by
  unfold atI at h
  cases e : ixN xs.length i with
  | none => rw [e] at h; cases h
  | some j =>
    rw [e] at h
    obtain ⟨h1, h2, h3, h4⟩ := ixN_seq e
    exact ⟨j, h1, h, h2, h3, h4⟩
theorem atI_nat {α : Type} {xs : List α} {j : Nat} {v : α} (h : xs[j]? = some v) : atI xs (j : Int) = some v := by
  have hj : j < xs.length := (List.getElem?_eq_some_iff.mp h).1
  have e : ixN xs.length (j : Int) = some j := by
    unfold ixN
    rw [if_pos (by omega), if_pos (by omega)]; simp
  unfold atI; rw [e]; exact h
theorem atI_last {α : Type} (xs : List α) (v : α) : atI (xs ++ [v]) (-1) = some v := by
  have hl : (xs ++ [v]).length = xs.length + 1 := by simp
  have e : ixN (xs ++ [v]).length (-1) = some xs.length := by
    unfold ixN
    rw [hl, if_neg (by decide), if_pos (by omega)]
    congr 1
    omega
  unfold atI
  rw [e]
  show (xs ++ [v])[xs.length]? = some v
  simp
/-- what stands as an index of a plain subscript -/
def PlainIx (b : Expr) : Prop := ∀ o i, subscripted b false o i = operate [o, i] (getItem o i)
/-- a subscript by values -/
def IxR (X : Cx) (r : R2) : Prop :=
  ∀ (value slice : Expr) (pins : List (Addr × Obj)) (s : Shared) (σ : St) (H : Hp) (x y : V) (v u : Value) (Q : VK), Inv X pins σ H s → RelV x v → RelV y u → r x y H Q →
    subscripted slice false v u = operate [v, u] (getItem v u) → wpAny (model X.prog X.w) X.A (subscriptTail value slice v u) (EP X pins σ Q) X.xe s
/-- a call of a builtin's method by values: the receiver, the arguments -/
def MtR (X : Cx) (id : String) (r : V → List V → Hp → VK → Prop) : Prop :=
  ∀ (pins : List (Addr × Obj)) (s : Shared) (σ : St) (H : Hp) (x : V) (xs : List V) (v : Value) (us : List Value) (Q : VK), Inv X pins σ H s → RelV x v → Vals xs us → r x xs H Q →
    wpAny (model X.prog X.w) X.A (call (.builtin id) (v :: us)) (EP X pins σ Q) X.xe s
section
variable {X : Cx} {a b : Expr} {ta tb : TE} {pos : Pos}
/-- a[b] -/
theorem pe_ix {r : R2} (hr : IxR X r) (ha : PE X a ta) (hb : PE X b tb) (hs : PlainIx b) : PE X (.Subscript a b pos) (tOp r ta tb) := by
  intro pins s σ H Q I h
  exact Subscript_ (binT ha hb I h fun v u s2 x y H2 I2 rx ry q => hr a b pins s2 σ H2 x y v u Q I2 rx ry q (hs _ _))
def rIxL (K : PySem.W.Frag) : R2 := fun x y H Q => ∃ p xs i v, x = .ref p ∧ y = .int i ∧ SqL K H p xs ∧ atI xs i = some v ∧ Q v H
def rIxT (K : PySem.W.Frag) : R2 := fun x y H Q => ∃ p xs i v, x = .ref p ∧ y = .int i ∧ SqT K H p xs ∧ atI xs i = some v ∧ Q v H
def rIxS : R2 := fun x y H Q => ∃ z i c, x = .str z ∧ y = .int i ∧ z.length ≤ sizeLine ∧ atI z.cps.toList i = some c ∧ Q (.str ⟨#[c]⟩) H
theorem ix_list : IxR X (rIxL X.K) := by
  intro value slice pins s σ H x y v u Q I rx ry h hs
  obtain ⟨p, xs, i, z, rfl, rfl, hq, he, q⟩ := h
  cases rx
  obtain ⟨t, rfl⟩ := ry
  obtain ⟨its, r, pl, hz⟩ := I.list hq
  obtain ⟨j, h1, h2, h3, h4, h5⟩ := atI_get he
  obtain ⟨w, ew, rw'⟩ := r.get h2
  have hl := r.length
  have hn := line63
  have fin : EP X pins σ Q w s := ⟨z, H, I, rw', q⟩
  by_cases h0 : 0 ≤ i
  · have hj : i.toNat = j := by
      rw [seqIndex_of h0 h5] at h1
      exact Option.some.inj h1
    exact item_listR pl.isList h0 (by omega) (by rw [hj]; simpa using ew) fin hs
  · have hj : (i + (its.toArray.size : Int)).toNat = j := by
      rw [seqIndex_neg (by omega) h4] at h1
      rw [List.size_toArray, ← hl]
      exact Option.some.inj h1
    exact subscriptTail_builtinR (x := w) pl.isList.typeIs slot_list_getitem.lookup
      (wpAny_getItem_list_neg (Q := fun r s' => r = w ∧ EP X pins σ Q r s') pl.isList (by omega) (by rw [List.size_toArray] <;> omega) (by omega) (by rw [hj]; simpa using ew) ⟨rfl, fin⟩) hs
theorem ix_tup : IxR X (rIxT X.K) := by
  intro value slice pins s σ H x y v u Q I rx ry h hs
  obtain ⟨p, xs, i, z, rfl, rfl, hq, he, q⟩ := h
  cases rx
  obtain ⟨t, rfl⟩ := ry
  obtain ⟨its, r, pl, hz⟩ := I.tuple hq
  obtain ⟨j, h1, h2, h3, h4, h5⟩ := atI_get he
  obtain ⟨w, ew, rw'⟩ := r.get h2
  have hl := r.length
  have hn := line63
  have fin : EP X pins σ Q w s := ⟨z, H, I, rw', q⟩
  exact subscriptTail_builtinR (x := w) pl.typeIs slot_tuple_getitem.lookup
    (getItem_tuple (j := j) (Q := fun r s' => r = w ∧ EP X pins σ Q r s') pl (by omega) (by omega) (by rw [List.size_toArray, ← hl]; exact h1) (by simpa using ew) ⟨rfl, fin⟩) hs
theorem ix_str : IxR X rIxS := by
  intro value slice pins s σ H x y v u Q I rx ry h hs
  obtain ⟨z, i, c, rfl, rfl, hz, he, q⟩ := h
  obtain ⟨t, rfl⟩ := rx
  obtain ⟨t', rfl⟩ := ry
  obtain ⟨j, h1, h2, h3, h4, h5⟩ := atI_get he
  have hl : z.cps.toList.length = z.length := by simp [Str.length]
  rw [hl] at h1 h4 h5
  have hn := line63
  exact tail_any (typeIs_str s z t) slot_str_getitem.lookup (getItem_str (c := c) (by
    have e1 : decide (i < -(2 ^ 63 : Int)) = false := decide_eq_false (by omega)
    have e2 : decide (i ≥ 2 ^ 63) = false := decide_eq_false (by omega)
    rw [e1, e2, Bool.or_false]) (by rw [h1]; simpa using h2) ⟨.str ⟨#[c]⟩, H, I.tok _, ⟨_, rfl⟩, q⟩) hs
/-- list, tuple or str -/
def rIx (K : PySem.W.Frag) : R2 := fun x y H Q => rIxL K x y H Q ∨ rIxT K x y H Q ∨ rIxS x y H Q
def rSetL : V → V → V → Hp → (Hp → Prop) → Prop := fun o i v H Q => ∃ p xs k j, o = .ref p ∧ i = .int k ∧ H p = some (.lst xs) ∧ ixN xs.length k = some j ∧ Q (upd H p (.lst (xs.set j v)))
theorem slice_bounds (lo hi : Option Int) (n : Nat) : (sliceBounds lo hi none n).1 = ((HT.sIx n 0 lo : Nat) : Int) ∧ (sliceBounds lo hi none n).2.1 = ((HT.sIx n n hi : Nat) : Int) ∧ (sliceBounds lo hi none n).2.2 = 1 := by
  refine ⟨?_, ?_, rfl⟩
  · cases lo with
    | none => simp [sliceBounds, HT.sIx]
    | some i =>
      simp only [sliceBounds, HT.sIx, Option.getD_none, show (1 : Int) > 0 by decide, if_true]
      by_cases h : i < 0
      · simp only [h, if_true] <;> omega
      · simp only [h, if_false] <;> omega
  · cases hi with
    | none => simp [sliceBounds, HT.sIx]
    | some i =>
      simp only [sliceBounds, HT.sIx, Option.getD_none, show (1 : Int) > 0 by decide, if_true]
      by_cases h : i < 0
      · simp only [h, if_true] <;> omega
      · simp only [h, if_false] <;> omega
theorem slicePick_cut (its : List Value) (lo hi : Option Int) : slicePick its.toArray lo hi none = ((its.drop (HT.sIx its.length 0 lo)).take (HT.sIx its.length its.length hi - HT.sIx its.length 0 lo)).toArray := by
  obtain ⟨h1, h2, h3⟩ := slice_bounds lo hi its.toArray.size
  unfold slicePick
  rw [h1, h2, h3]
  simp only [sliceRange_one, pick_run, List.size_toArray] <;> rfl
/-- xs[lo:hi] of a list: a new list -/
def rSlL (K : PySem.W.Frag) : V → Option Int → Option Int → Hp → VK → Prop := fun x lo hi H Q => ∃ a xs, x = .ref a ∧ SqL K H a xs ∧ ∀ p, H p = none → Q (.ref p) (upd H p (.lst (cutV xs lo hi)))
theorem sl_list : SlR X (rSlL X.K) := by
  intro pins s σ H x v vl vu lo hi sl Q I rx hs pl pu h
  obtain ⟨a, xs, rfl, hx, q⟩ := h
  cases rx
  obtain ⟨its, r, ht, hz⟩ := I.list hx
  have hlen := r.length
  refine ⟨"list", _, slot_list_getitem.lookup, ht.isList.typeIs, ?_⟩
  refine wpAny_getItem_list_slice ht.isList hs pl pu .none (by simp) ?_ (by rw [List.size_toArray] <;> omega)
  rw [slicePick_cut, ← hlen]
  refine ⟨.ref s.heap.objs.size, _, I.laid (t' := s.toks) (o := .lst (cutV xs lo hi)) (fun b ob q => Heap.get?_push_of_some _ q) (Nat.le_refl _) ?_, rfl, q _ (I.hok.fresh (Nat.le_refl _))⟩
  exact ⟨Nat.le_trans (cutV_length xs lo hi) hz, _, 0, (r.drop (HT.sIx xs.length 0 lo)).take (HT.sIx xs.length xs.length hi - HT.sIx xs.length 0 lo), Heap.get?_push_size _ rfl⟩
def flatV : V → Bool
  | .non => true
  | .bl _ => true
  | .int _ => true
  | .str _ => true
  | _ => false
/-- == of flat values -/
def eqV : V → V → Bool
  | .non, .non => true
  | .bl a, .bl b => a == b
  | .bl a, .int b => (if a then 1 else 0) == b
  | .int a, .bl b => a == (if b then 1 else 0)
  | .int a, .int b => a == b
  | .str a, .str b => a == b
  | _, _ => false
/-- the items' answers, read off the values (a value's own answer does not lean on its token) -/
def eqU (x : V) (u : Value) : Bool := match u with
  | .none => eqV .non x
  | .bool b => eqV (.bl b) x
  | .int i _ => eqV (.int i) x
  | .str z _ => eqV (.str z) x
  | _ => false
def inV (x : V) (xs : List V) : Bool := xs.any fun y => eqV y x
/-- x in a list or tuple of flat items -/
def rIn (K : PySem.W.Frag) (neg : Bool) : R2 := fun x y H Q => ∃ p xs, y = .ref p ∧ (SqL K H p xs ∨ SqT K H p xs) ∧ flatV x = true ∧ xs.all flatV = true ∧ Q (.bl (if neg then !inV x xs else inV x xs)) H
theorem call_len_seq : CallR X (.builtin "len") (fun xs H Q => ∃ p ys, xs = [.ref p] ∧ (SqL X.K H p ys ∨ SqT X.K H p ys) ∧ Q (.int ys.length) H) := by
  intro pins s σ H xs us Q I r h
  obtain ⟨p, ys, rfl, hq, q⟩ := h
  obtain ⟨u, rfl, rx⟩ := vals1 r
  cases rx
  have hn := line63
  rcases hq with hq | hq
  · obtain ⟨its, r', pl, hz⟩ := I.list hq
    have hlen := r'.length
    exact Calls.call_len_list pl.isList (by simp only [List.size_toArray] <;> omega) ⟨.int ys.length, H, I.tok _, ⟨s.toks + 1, by rw [List.size_toArray, hlen]⟩, q⟩
  · obtain ⟨its, r', pl, hz⟩ := I.tuple hq
    have hlen := r'.length
    exact len_tuple pl (by simp only [List.size_toArray] <;> omega) ⟨.int ys.length, H, I.tok _, ⟨s.toks + 1, by rw [List.size_toArray, hlen]⟩, q⟩
theorem call_list_of : CallR X (.type "list") (fun xs H Q => ∃ p ys, xs = [.ref p] ∧ (SqL X.K H p ys ∨ SqT X.K H p ys) ∧ ∀ l, H l = none → Q (.ref l) (upd H l (.lst ys))) := by
  intro pins s σ H xs us Q I r h
  obtain ⟨p, ys, rfl, hq, q⟩ := h
  obtain ⟨u, rfl, rx⟩ := vals1 r
  cases rx
  have fin : ∀ (its : List Value), Vals ys its → ys.length ≤ sizeLine → ∀ (h' : Heap) (c' : Nat), (∀ b o', s.heap.get? b = some o' → h'.get? b = some o') →
      h'.get? s.heap.objs.size = some { cls := .type "list", dict := none, data := .seq its.toArray c', slots := #[] } → EP X pins σ Q (.ref s.heap.objs.size) { s with heap := h' } := fun its r' hz h' c' kp e =>
    ⟨.ref s.heap.objs.size, _, I.laid (t' := s.toks) kp (Nat.le_refl _) (show ObjOk X.prog X.w _ h' _ (.lst ys) from ⟨hz, its, c', r', e⟩), rfl, q _ (I.hok.fresh (Nat.le_refl _))⟩
  rcases hq with hq | hq
  · obtain ⟨its, r', pl, hz⟩ := I.list hq
    have hlen := r'.length
    obtain ⟨o, ho, hc, n, hd⟩ := pl.isList
    exact call_list_seq p (.inl rfl) ho hc hd (fun h' c' kp e => fin its r' hz h' c' kp e) (by simp only [List.size_toArray] <;> omega)
  · obtain ⟨its, r', pl, hz⟩ := I.tuple hq
    have hlen := r'.length
    obtain ⟨o, ho, hc, n, hd⟩ := pl
    exact call_list_seq p (.inr rfl) ho hc hd (fun h' c' kp e => fin its r' hz h' c' kp e) (by simp only [List.size_toArray] <;> omega)
theorem call_tuple_of : CallR X (.type "tuple") (fun xs H Q => ∃ p ys, xs = [.ref p] ∧ ((SqL X.K H p ys ∧ ∀ l, H l = none → Q (.ref l) (upd H l (.tup ys))) ∨ (SqT X.K H p ys ∧ Q (.ref p) H))) := by
  intro pins s σ H xs us Q I r h
  obtain ⟨p, ys, rfl, h⟩ := h
  obtain ⟨u, rfl, rx⟩ := vals1 r
  cases rx
  rcases h with ⟨hq, q⟩ | ⟨hq, q⟩
  · obtain ⟨its, r', pl, hz⟩ := I.list hq
    have hlen := r'.length
    refine call_tuple_list pl.isList (fun h' kp => ?_) (by simp only [List.size_toArray] <;> omega)
    have I1 : Inv X pins σ H { s with heap := h' } := I.kept (t' := s.toks) kp
    have I2 : Inv X pins σ (upd H h'.objs.size (.tup ys)) { s with heap := h'.push { cls := .type "tuple", data := .seq its.toArray } } :=
      I1.laid (t' := s.toks) (fun b o e => Heap.get?_push_of_some _ e) (Nat.le_refl _) (show ObjOk X.prog X.w _ _ _ (.tup ys) from ⟨hz, its, r', IsTup.new _ _⟩)
    exact ⟨.ref h'.objs.size, _, I2, rfl, q _ (I1.hok.fresh (Nat.le_refl _))⟩
  · obtain ⟨its, r', pl, hz⟩ := I.tuple hq
    exact call_tuple_same pl ⟨.ref p, H, I, rfl, q⟩
/-- the value is of that builtin type -/
def tyV (K : PySem.W.Frag) (T : String) (x : V) (H : Hp) : Prop := match x with
  | .str _ => T = "str"
  | .int _ => T = "int"
  | .ref p => (T = "list" ∧ ∃ xs, SqL K H p xs) ∨ (T = "tuple" ∧ ∃ o, K.lookup p = some o ∧ o.cls = .type "tuple" ∧ o.dict = none) ∨
      (T = "dict" ∧ ((∃ kvs, H p = some (.dK kvs)) ∨ ∃ kvs, H p = some (.dT kvs))) ∨ (T = "set" ∧ ∃ S n, H p = some (.set S n))
  | _ => False
theorem tyV_is {pins : List (Addr × Obj)} {σ : St} {H : Hp} {s : Shared} {T : String} {x : V} {v : Value} (I : Inv X pins σ H s) (r : RelV x v) (ty : tyV X.K T x H) :
    s.TypeIs v T ∧ ∀ a, v = .ref a → ∃ ob, s.heap.get? a = some ob ∧ ob.dict = none := by
  cases x with
  | str z =>
    obtain ⟨t, rfl⟩ := r
    cases (show T = "str" from ty)
    exact ⟨typeIs_str s z t, fun _ e => nomatch e⟩
  | int i =>
    obtain ⟨t, rfl⟩ := r
    cases (show T = "int" from ty)
    exact ⟨typeIs_int s i t, fun _ e => nomatch e⟩
  | ref p =>
    cases r
    rcases ty with ⟨rfl, xs, hq⟩ | ⟨rfl, o, hk, hc, hd⟩ | ⟨rfl, hk⟩ | ⟨rfl, S, n, hk⟩
    · obtain ⟨its, _, pl, _⟩ := I.list hq
      refine ⟨pl.isList.typeIs, fun a e => ?_⟩
      cases e
      obtain ⟨o, n, e, c, hd, _⟩ := pl
      exact ⟨o, e, hd⟩
    · refine ⟨⟨o, I.kIn p o hk, hc⟩, fun a e => ?_⟩
      cases e
      exact ⟨o, I.kIn _ o hk, hd⟩
    · have z : ∃ o, s.heap.get? p = some o ∧ o.ExactDict := by
        rcases hk with ⟨kvs, hk⟩ | ⟨kvs, hk⟩
        · obtain ⟨_, _, _, _, o, _, _, e, ex, _⟩ := I.hok p _ hk
          exact ⟨o, e, ex⟩
        · obtain ⟨_, _, _, _, o, _, _, e, ex, _⟩ := I.hok p _ hk
          exact ⟨o, e, ex⟩
      obtain ⟨o, e, ex⟩ := z
      refine ⟨⟨o, e, ex.1⟩, fun a e2 => ?_⟩
      cases e2
      exact ⟨o, e, ex.2.1⟩
    · obtain ⟨o, _, _, _, e, ex, _⟩ := I.hok p _ hk
      refine ⟨⟨o, e, ex.1⟩, fun a e2 => ?_⟩
      cases e2
      exact ⟨o, e, ex.2.1⟩
  | _ => exact False.elim ty
def tBM0 (K : PySem.W.Frag) (T : String) (r : V → List V → Hp → VK → Prop) (to : TE) : TE := fun σ H Q => to σ H fun x H1 => tyV K T x H1 ∧ r x [] H1 Q
def tBM (K : PySem.W.Frag) (T : String) (r : V → List V → Hp → VK → Prop) (to : TE) (t : TA) : TE := fun σ H Q => to σ H fun x H1 => tyV K T x H1 ∧ t σ H1 fun xs H2 => r x xs H2 Q
variable {o e : Expr} {es : List Expr} {to : TE} {t : TA} {name : Str} {apos cpos : Pos} {T id : String} {r : V → List V → Hp → VK → Prop}
theorem pe_bm (pa : PlainAttrs T) (slot : Slot T name id) (hty : typeOf (.builtin id) = pure (.type "method_descriptor")) (hm : MtR X id r) (ho : PE X o to) (ha : PA X (e :: es) t)
    (hbase : attributeBase o name X.env (eval o X.env) = eval o X.env := by rfl)
    (hfew : ((backTo cpos (starEach (e :: es) X.env)).all (fun x => !x.1) && (backToKw cpos (keywordEach [] X.env)).all (fun x => x.1.isSome)
      && decide ((e :: es).length + ([] : List Keyword).length + (if ([] : List Keyword).isEmpty then 0 else 1) < 30)) = true := by rfl)
    (hline : (apos.endLine == cpos.line) = true := by rfl) (hs : starEach (e :: es) X.env = (false, eval e X.env) :: starEach es X.env := by rfl) (hplain : (backTo cpos (starEach es X.env)).any (·.1) = false := by rfl) :
    PE X (.Call (.Attribute o name apos) (e :: es) [] cpos) (tBM X.K T r to t) := by
  intro pins s σ H Q I h
  refine wpAny_Call_method_late hbase hfew hline rfl (thn (ho pins s σ H _ I h) fun v s1 ⟨x, H1, I1, r1, ty, q1⟩ => ?_)
  obtain ⟨h1, h2⟩ := tyV_is I1 r1 ty
  refine ⟨T, id, pa, slot, hty, h1, h2, ?_⟩
  have hA := ha cpos pins s1 σ H1 _ I1 q1
  rw [hs] at hA ⊢
  refine Calls.callWith_builtin (by show (false || (backTo cpos (starEach es X.env)).any (·.1)) = false; rw [hplain] <;> rfl) (Calls.evalArgs_plain ?_)
  exact thn hA fun us s2 ⟨vs, H2, I2, r2, q2⟩ => hm pins s2 σ H2 x vs v us Q I2 r1 r2 q2
/- xs.append(e), list.index on a module's tuple .. are MtR facts of 06m -/
end
end L2
namespace L2
open PySem PySem.Spec PyProof.Rows
def MtM (X : Cx) (id : String) (r : V → List V → Hp → VK → Prop) : Prop :=
  ∀ (pins : List (Addr × Obj)) (s : Shared) (σ : St) (H : Hp) (x : V) (xs : List V) (v : Value) (us : List Value) (Q : VK), Inv X pins σ H s → RelV x v → Vals xs us → r x xs H Q →
    wpAny (model X.prog X.w) X.A (call (.builtin id) (v :: us)) (EP X pins σ Q) X.xe s
theorem Vals.one : ∀ {x : V} {us : List Value}, Vals [x] us → ∃ u, us = [u] ∧ RelV x u
  | _, _, .cons r .nil => ⟨_, rfl, r⟩
section
variable {X : Cx} {pins : List (Addr × Obj)} {σ : St} {H : Hp} {s : Shared} {l b : Addr} {xs ys zs : List V}
theorem Inv.lset {its its' : List Value} {n : Nat} {f : Array Value → Array Value} {t' : Nat} (I : Inv X pins σ H s) (hH : H l = some (.lst xs))
    (e : s.heap.get? l = some { cls := .type "list", data := .seq its.toArray n }) (hf : f its.toArray = its'.toArray) (hv : Vals ys its') (hz : ys.length ≤ sizeLine) :
    Inv X pins σ (upd H l (.lst ys)) { s with heap := s.heap.update l (Obj.mapSeq f), toks := t' } := by
  have q := PySem.IsL.update e f
  rw [hf] at q
  refine I.write (x := l) (e := l) (by rw [hH]; exact trivial) (.inl rfl) (fun b' u hb hu => (Heap.get?_update_other s.heap (Obj.mapSeq f) (Ne.symm hb)).trans hu) ⟨_, q⟩ ?_
  exact ⟨hz, its', _, hv, q⟩
theorem Inv.lnew {its : List Value} {t' : Nat} (I : Inv X pins σ H s) (hv : Vals ys its) (hz : ys.length ≤ sizeLine) :
    Inv X pins σ (upd H s.heap.objs.size (.lst ys)) { s with heap := s.heap.push { cls := .type "list", data := .seq its.toArray }, toks := t' } :=
  I.laid (fun _ _ q => Heap.get?_push_of_some _ q) (Nat.le_refl _) ⟨hz, its, 0, hv, Heap.get?_push_size _ rfl⟩
theorem Inv.fresh (I : Inv X pins σ H s) : H s.heap.objs.size = none := I.hok.fresh (Nat.le_refl _)
theorem Inv.lstM (I : Inv X pins σ H s) (hH : H l = some (.lst xs)) : xs.length ≤ sizeLine ∧ ∃ (its : List Value) (n : Nat), Vals xs its ∧ xs.length = its.length ∧ s.heap.get? l = some { cls := .type "list", data := .seq its.toArray n } := by
  obtain ⟨z, its, n, r, e⟩ := I.hok l _ hH
  exact ⟨z, its, n, r, r.length, e⟩
end
section
variable {X : Cx}
def rAppend : V → List V → Hp → VK → Prop := fun x vs H Q => ∃ l xs y, x = .ref l ∧ vs = [y] ∧ H l = some (.lst xs) ∧ xs.length < sizeLine ∧ Q .non (upd H l (.lst (xs ++ [y])))
theorem mt_append : MtM X "list.append" rAppend := by
  intro pins s σ H x vs v us Q I rx rv h
  obtain ⟨l, xs, y, rfl, rfl, hH, hz, q⟩ := h
  cases rx
  obtain ⟨u, rfl, ru⟩ := rv.one
  obtain ⟨z, its, n, r, hl, e⟩ := I.lstM hH
  refine call_meets F.slot_list_append ⟨_, e, rfl⟩ F.entry_list_append (F.args_list_append_2 _ _) (PySem.list_append l its.toArray n u (by rw [List.size_toArray]; omega)) ⟨e, ?_⟩
  refine ⟨.non, _, I.lset (its' := its ++ [u]) hH e (by simp) (r.append (.cons ru .nil)) ?_, rfl, q⟩
  rw [List.length_append, List.length_singleton]
  omega
def rExtend : V → List V → Hp → VK → Prop := fun x vs H Q => ∃ l b xs zs, x = .ref l ∧ vs = [.ref b] ∧ H l = some (.lst xs) ∧ H b = some (.lst zs) ∧ xs.length + zs.length ≤ sizeLine ∧ Q .non (upd H l (.lst (xs ++ zs)))
def rPop : V → List V → Hp → VK → Prop := fun x vs H Q => ∃ l xs y, x = .ref l ∧ vs = [] ∧ H l = some (.lst xs) ∧ xs[xs.length - 1]? = some y ∧ Q y (upd H l (.lst xs.dropLast))
def rPopAt : V → List V → Hp → VK → Prop := fun x vs H Q => ∃ l xs i k y, x = .ref l ∧ vs = [.int i] ∧ H l = some (.lst xs) ∧ -(2 ^ 63) ≤ i ∧ i < 2 ^ 63 ∧ seqIndex? i xs.length = some k ∧ xs[k]? = some y ∧ Q y (upd H l (.lst (xs.eraseIdx k)))
def rReverse : V → List V → Hp → VK → Prop := fun x vs H Q => ∃ l xs, x = .ref l ∧ vs = [] ∧ H l = some (.lst xs) ∧ Q .non (upd H l (.lst xs.reverse))
def rClear : V → List V → Hp → VK → Prop := fun x vs H Q => ∃ l xs, x = .ref l ∧ vs = [] ∧ H l = some (.lst xs) ∧ Q .non (upd H l (.lst []))
def rCat : R2 := fun x y H Q => ∃ l b xs zs, x = .ref l ∧ y = .ref b ∧ H l = some (.lst xs) ∧ H b = some (.lst zs) ∧ xs.length + zs.length ≤ sizeLine ∧ ∀ p, H p = none → Q (.ref p) (upd H p (.lst (xs ++ zs)))
theorem op_cat : OpR X (binaryOp .Add) rCat := by
  intro pins s σ H x y v u Q I rx ry h
  obtain ⟨l, b, xs, zs, rfl, rfl, hH, hB, hz, q⟩ := h
  cases rx
  cases ry
  obtain ⟨z, its, n, r, hl, e⟩ := I.lstM hH
  obtain ⟨z2, its2, n2, r2, hl2, e2⟩ := I.lstM hB
  refine PySem.P.add_list e e2 ?_ (by rw [List.size_toArray, List.size_toArray]; omega)
  have ea : its.toArray ++ its2.toArray = (its ++ its2).toArray := by simp
  rw [ea]
  exact ⟨.ref _, _, I.lnew (t' := s.toks) (r.append r2) (by rw [List.length_append]; omega), rfl, q _ I.fresh⟩
/-- a list times an int (a negative one is nothing) -/
def rRep : R2 := fun x y H Q => ∃ l k xs, x = .ref l ∧ y = .int k ∧ H l = some (.lst xs) ∧ -(2 ^ 63) ≤ k ∧ k < 2 ^ 63 ∧ xs.length * k.toNat ≤ sizeLine ∧
  ∀ p, H p = none → Q (.ref p) (upd H p (.lst (List.replicate k.toNat xs).flatten))
end
section
variable {prog : Program} {w : World} {A : Around} {E : Value → Shared → Prop} {s : Shared}
end
section
variable {X : Cx}
end
end L2
namespace Att
open PySem PySem.W PySem.Calls PyProof.Rows
theorem ints_of_wellAll {P : Params} {h : Heap} : ∀ (ns : List Int) (vs : List Value), WellAll P h vs (ns.map WData.int) → IntsAre vs ns := by
  intro ns
  induction ns with
  | nil =>
    intro vs w
    rw [List.map_nil] at w
    cases w
    exact .nil
  | cons n ns ih =>
    intro vs w
    rw [List.map_cons] at w
    cases w with
    | cons a b =>
      cases a
      exact .cons _ _ (ih _ b)
theorem script_of {l : OpenLaw} {n : Nat} (hn : l.most = some n) {P : Params} {h : Heap} {args : List WData} {vals : List Value}
    (hpre : l.row.toRowW.claim.pre args = true) (hwl : WellAll P h vals args) :
    ∃ a vs ns, vals = [Value.ref a] ∧ args = [WData.list (ns.map WData.int)] ∧ h.get? a = some { cls := .type "list", data := .seq vs.toArray } ∧ IntsAre vs ns ∧ ns.length ≤ n := by
  have hsh : WShape.hasAll [] args [.list .int] = true := (pre_splitW hpre).1
  have hc : l.pre.holds [] { args := args } = true := (pre_splitW hpre).2
  obtain ⟨d, r, rfl, h1, h2⟩ := hasAllW_cons hsh
  obtain rfl := hasAllW_nil h2
  obtain ⟨xs, rfl, h3⟩ := hasW_list h1
  obtain ⟨ns, rfl⟩ := items_int h3
  have hlen : ns.length ≤ n := by
    unfold OpenLaw.pre at hc
    have h4 : (WTm.not (.lt (.lit (.int (n : Int))) (.len (.arg 0)))).holds [] { args := [.list (ns.map .int)] } = true := by
      have h4 := (holds_andW hc).1
      rw [hn] at h4
      exact h4
    have h5 := condW_of h4 (w_not (w_lt w_lit (w_len_list (w_arg rfl))))
    rw [List.length_map] at h5
    refine Nat.le_of_not_lt fun q => ?_
    have q' : (n : Int) < ((ns.length : Nat) : Int) := by omega
    first
      | (rw [decide_eq_true q'] at h5; exact absurd h5 (by decide))
      | (simp at h5; omega)
  cases hwl with
  | cons w1 w2 =>
    cases w2
    cases w1 with
    | list ho hall => exact ⟨_, _, ns, rfl, rfl, ho, ints_of_wellAll ns _ hall, hlen⟩
theorem post_true (l : OpenLaw) (args : List WData) : l.row.toRowW.claim.post args (.bool true) args = true :=
  postW_of (r := l.row.toRowW) (X := (true == true))
    (show WShape.has [] (.bool true) .bool = true by first | rfl | decide | simp [WShape.has, WShape.arms, WShape.armsAll])
    (show (WTm.eq .res (.lit (.bool true))).value [] { args := args, res := some (.bool true), after := args } = some (.bool (true == true)) from w_eq_bool (w_res rfl) w_lit) rfl
section
variable {prog : Program} {w : World} {A : Around} {E : Value → Shared → Prop} {s : Shared} {K : Frag}
def noObjs (h : Heap) : Heap := { h with objs := #[] }
def ledger (h : Heap) (L d : Addr) : List (Addr × Obj) := (List.range h.objs.size).filterMap fun a => if a = L ∨ a = d then none else (h.get? a).map fun o => (a, o)
end
end Att
namespace L2
open PySem PySem.Spec PyProof.Rows
theorem vals_ints : ∀ {vs : List Value} {ns : List Int}, IntsAre vs ns → Vals (ns.map V.int) vs
  | _, _, .nil => .nil
  | _, _, .cons n t h => .cons ⟨t, rfl⟩ (vals_ints h)
/-- nothing is tracked but the script, known to the object (or it is an object of the module) -/
def Only (H : Hp) : Prop := ∀ b, H b = none ∨ ∃ o xs, H b = some (.frz o (.lst xs))
end L2
namespace L2
open PySem PySem.Spec PyProof.Rows
abbrev KOf {K : PySem.W.Frag} {h : Heap} (_ : K.In h) : PySem.W.Frag := K
end L2
/- THE LAST THEOREM (shape; LID, My.* are yours):
   My.Adr: a structure of the addresses that your layer names (classes, functions); My.Txt K t: a structure (Prop) of the equations over K;
   My.txt_mk : {K} {implicit addresses ..} (e1 : nsIn K mainGlobals "law" = some (some (.ref f))) (e2 : K.lookup f = some ⟨oc, od, .func (fnOf "law" "law" params body scope dV kV doc pm an cdv ct), sl⟩) (e3 : codeIn K cdv "law" = true) .. : ∃ t, My.Txt K t
set_option maxRecDepth 100000 in
set_option maxHeartbeats 0 in
theorem PySem.Challenge.cw_LID_holds : PySem.Challenge.rw_LID.Holds := by
  w_on; o_law; k_head; (case hw => w_witness2)
  k_fill
  refine L2.walk_of (l := PySem.Challenge.rw_LID) (n := 63) (k := 40) (x := "script") (CX := fun w => ..) (sp := fun _ => My.sp_law) rfl (by decide) rfl ⟨rfl, by decide, by decide⟩ (fun w h Y => PySem.W.kIn_of Y) ?F ?S ?C
  case F =>
    intro w mg fa h KX G hmg
    have T : ∃ t, My.Txt (L2.KOf KX) t := by
      dsimp only [L2.KOf]                          -- K must stand as «<heap const> w.params» for k_is
      refine' My.txt_mk ?e1 ?e2 ?e3 ..
      (case e1 => PySem.W.k_is)                    -- in the order: a name -> its address -> its object -> its parts
      (case e2 => PySem.W.k_is)
      ..
    obtain ⟨t, T⟩ := T
    have e0 := hmg.symm.trans (PySem.W.mg_of KX G T.law)
    cases e0                                       -- fa is the law's own address
    exact ⟨_, fun s u => .of_eq rfl, fun base kb nb => My.law_fn T kb nb⟩     -- if «.of_eq rfl» comes too early: refine' ⟨_, ?b, fun base kb nb => My.law_fn T kb nb⟩; exact fun s u => .of_eq rfl
  case S => exact fun w H a ns hl hO hS => ..
  case C => exact ..
(the tactic k_is has no namespace: write k_is) -/
namespace L2
open PySem PySem.Spec PyProof.Rows
/-- the j-th statement of a class's body -/
def inClass (s : Stmt) (j : Nat) : Stmt := match s with
  | .ClassDef _ _ _ body _ _ _ _ _ _ _ => body.getD j (.Pass ⟨0, 0, 0, 0⟩)
  | _ => .Pass ⟨0, 0, 0, 0⟩
def defArgs (s : Stmt) : Arguments := match s with
  | .FunctionDef _ a _ _ _ _ _ _ _ _ => a
  | _ => { posonlyargs := [], args := [], vararg := none, kwonlyargs := [], kw_defaults := [], kwarg := none, defaults := [] }
def defBody (s : Stmt) : List Stmt := match s with
  | .FunctionDef _ _ b _ _ _ _ _ _ _ => b
  | _ => []
def defScope (s : Stmt) : Scope := match s with
  | .FunctionDef _ _ _ _ _ _ sc _ _ _ => sc
  | _ => { kind := .function, names := [], isGenerator := false, isCoroutine := false }
abbrev CX0 : CXT := fun _ _ _ _ _ _ => False
abbrev E0 : XK := fun _ _ _ => False
theorem pass0 {X : Cx} : Passes CX0 X E0 := fun _ _ _ _ _ _ _ h => h.elim
structure Fun (K : PySem.W.Frag) (x qual : Str) (st : Stmt) (f : Addr) (fd : FuncData) : Prop where
  ex : ∃ (oc : Value) (od : Option Addr) (kV doc pm : Value) (an : Option Addr) (cdv ct : Value) (osl : Array (Option Value)),
    fd = PySem.W.fnOf x qual (defArgs st) (defBody st) (defScope st) .none kV doc pm an cdv ct ∧ K.lookup f = some ⟨oc, od, .func fd, osl⟩ ∧ PySem.W.codeIn K cdv qual = true
  kp : PySem.W.keepIn K (.ref f) = true
section
variable {P : Program} {w : World} {K : PySem.W.Frag} {mg : Str → Option Value} {base : Heap}
/-- THE RULE for a def: its body as a term of rules, and the reading of that term -/
theorem Fun.ok {x qual : Str} {st : Stmt} {f : Addr} {fd : FuncData} {N ps : List Str} {k : Nat} {sp : Sp} (F : Fun K x qual st f fd) (S : FnScope N ps (defScope st)) (len : ∀ vs H Q E, sp vs H Q E → vs.length = ps.length)
    (hbody : ∀ (cdv : Value) (A : Around) (outer : List Env) (s : Shared) (H : Hp) (vs : List V) (Q : VK) (E : XK), Room k (A.deeper (envOfC qual (defScope st) s.heap.objs.size f cdv)) → sp vs H Q E →
      ∃ t, PSs (cxOf CX0 P w K mg base N qual (defScope st) f cdv A outer s H E).nox (defBody st) t ∧ t { nx := fun _ H' => Q .non H', rt := Q } (start N vs) H) : FnOk P w K mg base CX0 (k + 1) f fd ps sp := by
  obtain ⟨oc, od, kV, doc, pm, an, cdv, ct, osl, rfl, lk, hcd⟩ := F.ex
  refine fn_of lk hcd S len fun A outer s H vs Q E hr hsp => ?_
  obtain ⟨t, h, q⟩ := hbody cdv A outer s H vs Q E hr hsp
  exact ⟨t, h.nox, q⟩
/-- how its arguments bind (no defaults): h is «fun _ _ _ _ _ _ us hl => match us, hl with | [_, _], _ => rfl», one _ a parameter -/
theorem Fun.binds {x qual : Str} {st : Stmt} {f : Addr} {fd : FuncData} {ps : List Str} (F : Fun K x qual st f fd)
    (h : ∀ (kV doc pm : Value) (an : Option Addr) (cdv ct : Value) (us : List Value), us.length = ps.length → bindArgs (PySem.W.fnOf x qual (defArgs st) (defBody st) (defScope st) .none kV doc pm an cdv ct) ⟨us, []⟩ = pure (ps.zip us)) : Binds K fd ps [] := by
  obtain ⟨oc, od, kV, doc, pm, an, cdv, ct, osl, rfl, lk, hcd⟩ := F.ex
  exact .all (h kV doc pm an cdv ct)
theorem fun_mk {x qual : Str} {st : Stmt} {f : Addr} {oc : Value} {od an : Option Addr} {osl : Array (Option Value)} {kV doc pm cdv ct : Value} (l : K.lookup f = some ⟨oc, od, .func (PySem.W.fnOf x qual (defArgs st) (defBody st) (defScope st) .none kV doc pm an cdv ct), osl⟩)
    (c : PySem.W.codeIn K cdv qual = true) (k : PySem.W.keepIn K (.ref f) = true) : Fun K x qual st f (PySem.W.fnOf x qual (defArgs st) (defBody st) (defScope st) .none kV doc pm an cdv ct) := ⟨⟨oc, od, kV, doc, pm, an, cdv, ct, osl, rfl, l, c⟩, k⟩
end
section
variable {X : Cx}
theorem pv (i : Nat) {x : Str} {pos : Pos} (hN : X.N[i]? = some x := by rfl) (hv : Vis X.env.scope x := by first | exact Or.inl rfl | exact Or.inr (Or.inl rfl) | exact Or.inr (Or.inr rfl)) (hd : (x == ("__debug__" : Str)) = false := by decide)
    (hcd : (x == ("__classdict__" : Str)) = false := by decide) : PE X (.Name x pos) (tVar i) := pe_var hN hv hd hcd
end
theorem iteF {A B : Prop} (h : B) : if false = true then A else B := by
  rw [if_neg Bool.false_ne_true]
  exact h
theorem iteT {A B : Prop} (h : A) : if true = true then A else B := by
  rw [if_pos rfl]
  exact h
/-- all that was tracked is as it was -/
def Same (H H' : Hp) : Prop := ∀ b o, H b = some o → H' b = some o
theorem Same.refl (H : Hp) : Same H H := fun _ _ h => h
theorem Same.trans {H H1 H2 : Hp} (a : Same H H1) (b : Same H1 H2) : Same H H2 := fun c o h => b c o (a c o h)
theorem Same.free {H H' : Hp} (e : Same H H') {l : Addr} (h : H' l = Option.none) : H l = Option.none := by
  cases q : H l with
  | none => rfl
  | some o =>
    rw [e l o q] at h
    cases h
theorem Same.seq {K : PySem.W.Frag} {H H' : Hp} {a : Addr} {xs : List V} (e : Same H H') (h : SqL K H a xs) : SqL K H' a xs := by
  rcases h with (h | ⟨o, h⟩) | h
  · exact .inl (.inl (e _ _ h))
  · exact .inl (.inr ⟨o, e _ _ h⟩)
  · exact .inr h
end L2
namespace FW
structure Low (a b : Int) : Prop where
  pos : 0 < b
  cop : Int.gcd a b = 1
theorem cop_dvd {x y a b : Int} (h : Int.gcd a b = 1) (hx : x ∣ a) (hy : y ∣ b) : Int.gcd x y = 1 := by
  rw [Int.gcd_eq_one_iff] at h ⊢
  exact fun c h1 h2 => h c (Int.dvd_trans h1 hx) (Int.dvd_trans h2 hy)
theorem cop_mul {x y z : Int} (h1 : Int.gcd x y = 1) (h2 : Int.gcd x z = 1) : Int.gcd x (y * z) = 1 := by
  rw [Int.gcd_mul_right_right_of_gcd_eq_one h1]
  exact h2
theorem cop_mul_left {x y z : Int} (h1 : Int.gcd x z = 1) (h2 : Int.gcd y z = 1) : Int.gcd (x * y) z = 1 := by
  rw [Int.gcd_mul_right_left_of_gcd_eq_one h1]
  exact h2
theorem dvd_of_cop {a b c : Int} (h : Int.gcd a b = 1) (d : a ∣ b * c) : a ∣ c := by
  have h1 : a ∣ ((Int.gcd a b : Nat) : Int) * c := Int.dvd_gcd_mul_iff_dvd_mul.mpr d
  rw [h] at h1
  simpa using h1
/-- two fractions in lowest terms of the same ratio are one -/
theorem Low.uniq {a b c d : Int} (h : Low a b) (k : Low c d) (e : a * d = c * b) : a = c ∧ b = d := by
  have h1 : b ∣ d := dvd_of_cop (a := b) (b := a) (by rw [Int.gcd_comm]; exact h.cop) ⟨c, by rw [e, Int.mul_comm]⟩
  have h2 : d ∣ b := dvd_of_cop (a := d) (b := c) (by rw [Int.gcd_comm]; exact k.cop) ⟨a, by rw [← e, Int.mul_comm]⟩
  have e1 : b = d := by
    have := Int.le_of_dvd k.pos h1
    have := Int.le_of_dvd h.pos h2
    omega
  subst e1
  exact ⟨Int.eq_of_mul_eq_mul_right (by have := h.pos; omega) e, rfl⟩
abbrev g (a b : Int) : Int := ((Int.gcd a b : Nat) : Int)
theorem g_pos {a b : Int} (h : b ≠ 0) : 0 < g a b := by
  have := Int.gcd_pos_of_ne_zero_right a h
  show (0 : Int) < ((Int.gcd a b : Nat) : Int)
  omega
theorem g_step {a b : Int} : Int.gcd b (a % b) = Int.gcd a b := by
  rw [Int.emod_def, Int.gcd_sub_mul_left_right, Int.gcd_comm]
/-- what the law and the program make of two numbers, the second above 0 -/
def low (t b : Int) : Int × Int := (t / g t b, b / g t b)
theorem low_mul {t b : Int} : (low t b).1 * g t b = t ∧ (low t b).2 * g t b = b :=
  ⟨Int.ediv_mul_cancel (Int.gcd_dvd_left ..), Int.ediv_mul_cancel (Int.gcd_dvd_right ..)⟩
theorem low_Low {t b : Int} (h : 0 < b) : Low (low t b).1 (low t b).2 := by
  have gp := g_pos (a := t) (b := b) (by omega)
  refine ⟨?_, ?_⟩
  · have e := (low_mul (t := t) (b := b)).2
    rcases Int.lt_or_le 0 (low t b).2 with q | q
    · exact q
    · have := Int.mul_nonpos_of_nonpos_of_nonneg q (Int.le_of_lt gp)
      omega
  · exact Int.gcd_ediv_gcd_ediv_gcd_of_ne_zero_right (by omega)
theorem low_eq {t b : Int} : (low t b).1 * b = t * (low t b).2 := by
  have e := low_mul (t := t) (b := b)
  generalize (low t b).1 = x at e ⊢
  generalize (low t b).2 = y at e ⊢
  obtain ⟨e1, e2⟩ := e
  calc x * b = x * (y * g t b) := by rw [e2]
    _ = (x * g t b) * y := by rw [Int.mul_comm y, Int.mul_assoc]
    _ = t * y := by rw [e1]
theorem low_of {a b t s : Int} (h : Low a b) (hs : 0 < s) (e : a * s = t * b) : (a, b) = low t s := by
  have k := low_Low (t := t) hs
  have q := low_eq (t := t) (b := s)
  have e2 : a * (low t s).2 = (low t s).1 * b := by
    have e3 : (a * (low t s).2) * s = ((low t s).1 * b) * s := by
      calc (a * (low t s).2) * s = (a * s) * (low t s).2 := by rw [Int.mul_assoc, Int.mul_comm _ s, ← Int.mul_assoc]
        _ = (t * b) * (low t s).2 := by rw [e]
        _ = (t * (low t s).2) * b := by rw [Int.mul_assoc, Int.mul_comm b, ← Int.mul_assoc]
        _ = ((low t s).1 * s) * b := by rw [q]
        _ = ((low t s).1 * b) * s := by rw [Int.mul_assoc, Int.mul_comm s, ← Int.mul_assoc]
    exact Int.eq_of_mul_eq_mul_right (by omega) e3
  obtain ⟨e4, e5⟩ := h.uniq k e2
  exact Prod.ext e4 e5
/-- natAbs facts -/
theorem abs_ediv_le {a b : Int} (h : b ∣ a) : (a / b).natAbs ≤ a.natAbs := by
  obtain ⟨c, rfl⟩ := h
  by_cases hb : b = 0
  · subst hb; simp
  · rw [Int.mul_ediv_cancel_left _ hb, Int.natAbs_mul]
    have : 0 < b.natAbs := by omega
    exact Nat.le_mul_of_pos_left _ this
theorem low_abs (t b : Int) : (low t b).1.natAbs ≤ t.natAbs ∧ (low t b).2.natAbs ≤ b.natAbs :=
  ⟨abs_ediv_le (Int.gcd_dvd_left ..), abs_ediv_le (Int.gcd_dvd_right ..)⟩
def plusM (a b c d : Int) : Int × Int :=
  let s := g b d
  let top := a * (d / s) + c * (b / s)
  (top / g top s, b / g top s * (d / s))
theorem plusM_Low {a b c d : Int} (h : Low a b) (k : Low c d) : Low (plusM a b c d).1 (plusM a b c d).2 ∧ (plusM a b c d).1 * (b * d) = (a * d + c * b) * (plusM a b c d).2 := by
  have hb := h.pos
  have hd := k.pos
  have sp : 0 < g b d := g_pos (by omega)
  obtain ⟨b', eb⟩ : g b d ∣ b := Int.gcd_dvd_left ..
  obtain ⟨d', ed⟩ : g b d ∣ d := Int.gcd_dvd_right ..
  have cbd : Int.gcd b' d' = 1 := by
    have q := Int.gcd_ediv_gcd_ediv_gcd_of_ne_zero_right (n := b) (m := d) (by omega)
    have e1 : b / g b d = b' := by
      conv => lhs; lhs; rw [eb]
      exact Int.mul_ediv_cancel_left _ (by omega)
    have e2 : d / g b d = d' := by
      conv => lhs; lhs; rw [ed]
      exact Int.mul_ediv_cancel_left _ (by omega)
    have q' : Int.gcd (b / g b d) (d / g b d) = 1 := q
    rw [e1, e2] at q'
    exact q'
  have eb' : b / g b d = b' := by
    conv => lhs; lhs; rw [eb]
    exact Int.mul_ediv_cancel_left _ (by omega)
  have ed' : d / g b d = d' := by
    conv => lhs; lhs; rw [ed]
    exact Int.mul_ediv_cancel_left _ (by omega)
  generalize hs : g b d = s at *
  have hbp : 0 < b' := by
    rcases Int.lt_or_le 0 b' with q | q
    · exact q
    · have := Int.mul_nonpos_of_nonneg_of_nonpos (Int.le_of_lt sp) q
      omega
  have hdp : 0 < d' := by
    rcases Int.lt_or_le 0 d' with q | q
    · exact q
    · have := Int.mul_nonpos_of_nonneg_of_nonpos (Int.le_of_lt sp) q
      omega
  have e0 : plusM a b c d = ((a * d' + c * b') / g (a * d' + c * b') s, b / g (a * d' + c * b') s * d') := by
    unfold plusM
    simp only [hs, eb', ed']
  rw [e0]
  generalize ht : a * d' + c * b' = top
  have gp : 0 < g top s := g_pos (by omega)
  obtain ⟨t', et⟩ : g top s ∣ top := Int.gcd_dvd_left ..
  obtain ⟨s', es⟩ : g top s ∣ s := Int.gcd_dvd_right ..
  have cts : Int.gcd t' s' = 1 := by
    have q := Int.gcd_ediv_gcd_ediv_gcd_of_ne_zero_right (n := top) (m := s) (by omega)
    have e1 : top / g top s = t' := by
      conv => lhs; lhs; rw [et]
      exact Int.mul_ediv_cancel_left _ (by omega)
    have e2 : s / g top s = s' := by
      conv => lhs; lhs; rw [es]
      exact Int.mul_ediv_cancel_left _ (by omega)
    have q' : Int.gcd (top / g top s) (s / g top s) = 1 := q
    rw [e1, e2] at q'
    exact q'
  have et' : top / g top s = t' := by
    conv => lhs; lhs; rw [et]
    exact Int.mul_ediv_cancel_left _ (by omega)
  have hsp : 0 < s' := by
    rcases Int.lt_or_le 0 s' with q | q
    · exact q
    · have := Int.mul_nonpos_of_nonneg_of_nonpos (Int.le_of_lt gp) q
      omega
  have ebg : b / g top s = s' * b' := by
    have : b = g top s * (s' * b') := by rw [← Int.mul_assoc, ← es]; exact eb
    conv => lhs; lhs; rw [this]
    exact Int.mul_ediv_cancel_left _ (by omega)
  show Low (top / g top s) (b / g top s * d') ∧ (top / g top s) * (b * d) = (a * d + c * b) * (b / g top s * d')
  rw [et', ebg]
  have tdvd : t' ∣ top := ⟨g top s, by rw [Int.mul_comm]; exact et⟩
  have ct_b : Int.gcd top b' = 1 := by
    have h1 : Int.gcd (a * d') b' = 1 := cop_mul_left (cop_dvd h.cop (Int.dvd_refl _) ⟨s, by rw [Int.mul_comm]; exact eb⟩) (by rw [Int.gcd_comm]; exact cbd)
    rw [← ht, Int.gcd_add_mul_right_left]
    exact h1
  have ct_d : Int.gcd top d' = 1 := by
    have h1 : Int.gcd (c * b') d' = 1 := cop_mul_left (cop_dvd k.cop (Int.dvd_refl _) ⟨s, by rw [Int.mul_comm]; exact ed⟩) cbd
    rw [← ht, Int.gcd_mul_right_add_left]
    exact h1
  refine ⟨⟨Int.mul_pos (Int.mul_pos hsp hbp) hdp, ?_⟩, ?_⟩
  · exact cop_mul (cop_mul cts (cop_dvd ct_b tdvd (Int.dvd_refl _))) (cop_dvd ct_d tdvd (Int.dvd_refl _))
  · -- t' * (b * d) = (a * d + c * b) * (s' * b' * d')
    have e1 : a * d + c * b = s * top := by
      calc a * d + c * b = a * (s * d') + c * (s * b') := by rw [← eb, ← ed]
        _ = s * (a * d') + s * (c * b') := by rw [Int.mul_left_comm a, Int.mul_left_comm c]
        _ = s * top := by rw [← Int.mul_add, ht]
    rw [e1]
    calc t' * (b * d) = t' * ((s * b') * (s * d')) := by rw [← eb, ← ed]
      _ = t' * ((g top s * s' * b') * (s * d')) := by rw [← es]
      _ = s * (g top s * t') * (s' * b' * d') := by
        simp only [Int.mul_assoc, Int.mul_left_comm, Int.mul_comm]
      _ = s * top * (s' * b' * d') := by rw [← et]
def timesM (a b c d : Int) : Int × Int := (a / g a d * (c / g c b), b / g c b * (d / g a d))
theorem timesM_low {a b c d : Int} (h : Low a b) (k : Low c d) : timesM a b c d = low (a * c) (b * d) := by
  have hb := h.pos
  have hd := k.pos
  have p1 : 0 < g a d := g_pos (by omega)
  have p2 : 0 < g c b := g_pos (by omega)
  have c1 : Int.gcd (a / g a d) (d / g a d) = 1 := Int.gcd_ediv_gcd_ediv_gcd_of_ne_zero_right (by omega)
  have c2 : Int.gcd (c / g c b) (b / g c b) = 1 := Int.gcd_ediv_gcd_ediv_gcd_of_ne_zero_right (by omega)
  obtain ⟨a', ea⟩ : g a d ∣ a := Int.gcd_dvd_left ..
  obtain ⟨d', ed⟩ : g a d ∣ d := Int.gcd_dvd_right ..
  obtain ⟨c', ec⟩ : g c b ∣ c := Int.gcd_dvd_left ..
  obtain ⟨b', eb⟩ : g c b ∣ b := Int.gcd_dvd_right ..
  have xa : a / g a d = a' := by
    conv => lhs; lhs; rw [ea]
    exact Int.mul_ediv_cancel_left _ (by omega)
  have xd : d / g a d = d' := by
    conv => lhs; lhs; rw [ed]
    exact Int.mul_ediv_cancel_left _ (by omega)
  have xc : c / g c b = c' := by
    conv => lhs; lhs; rw [ec]
    exact Int.mul_ediv_cancel_left _ (by omega)
  have xb : b / g c b = b' := by
    conv => lhs; lhs; rw [eb]
    exact Int.mul_ediv_cancel_left _ (by omega)
  unfold timesM
  rw [xa, xd] at c1
  rw [xc, xb] at c2
  rw [xa, xd, xc, xb]
  generalize g a d = f at *
  generalize g c b = z at *
  have hbp : 0 < b' := by
    rcases Int.lt_or_le 0 b' with q | q
    · exact q
    · have := Int.mul_nonpos_of_nonneg_of_nonpos (Int.le_of_lt p2) q
      omega
  have hdp : 0 < d' := by
    rcases Int.lt_or_le 0 d' with q | q
    · exact q
    · have := Int.mul_nonpos_of_nonneg_of_nonpos (Int.le_of_lt p1) q
      omega
  refine low_of ⟨Int.mul_pos hbp hdp, ?_⟩ (Int.mul_pos hb hd) ?_
  · refine cop_mul (cop_mul_left ?_ c2) (cop_mul_left c1 ?_)
    · exact cop_dvd h.cop ⟨f, by rw [Int.mul_comm]; exact ea⟩ ⟨z, by rw [Int.mul_comm]; exact eb⟩
    · exact cop_dvd k.cop ⟨z, by rw [Int.mul_comm]; exact ec⟩ ⟨f, by rw [Int.mul_comm]; exact ed⟩
  · calc a' * c' * (b * d) = a' * c' * ((z * b') * (f * d')) := by rw [← eb, ← ed]
      _ = (f * a') * (z * c') * (b' * d') := by simp only [Int.mul_assoc, Int.mul_left_comm, Int.mul_comm]
      _ = a * c * (b' * d') := by rw [← ea, ← ec]
/-- a fraction that is W over S -/
structure IsQ (p : Int × Int) (W S : Int) : Prop where
  lo : Low p.1 p.2
  eq : p.1 * S = W * p.2
theorem IsQ.low {p : Int × Int} {W S : Int} (h : IsQ p W S) (hs : 0 < S) : p = low W S := low_of h.lo hs h.eq
theorem IsQ.zero {S : Int} : IsQ (0, 1) 0 S := ⟨⟨by decide, by decide⟩, by simp⟩
theorem IsQ.plus {p q : Int × Int} {W V S : Int} (h : IsQ p W S) (k : IsQ q V S) : IsQ (plusM p.1 p.2 q.1 q.2) (W + V) S := by
  obtain ⟨l, e⟩ := plusM_Low h.lo k.lo
  refine ⟨l, ?_⟩
  generalize plusM p.1 p.2 q.1 q.2 = r at l e ⊢
  have hb := h.lo.pos
  have hd := k.lo.pos
  have e1 := h.eq
  have e2 := k.eq
  generalize p.1 = a at *
  generalize p.2 = b at *
  generalize q.1 = c at *
  generalize q.2 = d at *
  have e3 : (r.1 * S) * (b * d) = ((W + V) * r.2) * (b * d) := by
    calc (r.1 * S) * (b * d) = (r.1 * (b * d)) * S := by simp only [Int.mul_assoc, Int.mul_left_comm, Int.mul_comm]
      _ = ((a * d + c * b) * r.2) * S := by rw [e]
      _ = ((a * S) * d + (c * S) * b) * r.2 := by simp only [Int.mul_assoc, Int.mul_left_comm, Int.mul_comm, Int.mul_add, Int.add_mul]
      _ = ((W * b) * d + (V * d) * b) * r.2 := by rw [e1, e2]
      _ = ((W + V) * r.2) * (b * d) := by simp only [Int.mul_assoc, Int.mul_left_comm, Int.mul_comm, Int.mul_add, Int.add_mul]
  exact Int.eq_of_mul_eq_mul_right (by have := Int.mul_pos hb hd; omega) e3
theorem IsQ.times {p q : Int × Int} {W V S T : Int} (h : IsQ p W S) (k : IsQ q V T) (hS : 0 < S) (hT : 0 < T) : IsQ (timesM p.1 p.2 q.1 q.2) (W * V) (S * T) := by
  have e := timesM_low h.lo k.lo
  have l := low_Low (t := p.1 * q.1) (Int.mul_pos h.lo.pos k.lo.pos)
  have f := low_eq (t := p.1 * q.1) (b := p.2 * q.2)
  rw [← e] at l f
  refine ⟨l, ?_⟩
  generalize timesM p.1 p.2 q.1 q.2 = r at l f ⊢
  have hb := h.lo.pos
  have hd := k.lo.pos
  have e1 := h.eq
  have e2 := k.eq
  generalize p.1 = a at *
  generalize p.2 = b at *
  generalize q.1 = c at *
  generalize q.2 = d at *
  have e3 : (r.1 * (S * T)) * (b * d) = ((W * V) * r.2) * (b * d) := by
    calc (r.1 * (S * T)) * (b * d) = (r.1 * (b * d)) * (S * T) := by simp only [Int.mul_assoc, Int.mul_left_comm, Int.mul_comm]
      _ = (a * c * r.2) * (S * T) := by rw [f]
      _ = ((a * S) * (c * T)) * r.2 := by simp only [Int.mul_assoc, Int.mul_left_comm, Int.mul_comm]
      _ = ((W * b) * (V * d)) * r.2 := by rw [e1, e2]
      _ = ((W * V) * r.2) * (b * d) := by simp only [Int.mul_assoc, Int.mul_left_comm, Int.mul_comm]
  exact Int.eq_of_mul_eq_mul_right (by have := Int.mul_pos hb hd; omega) e3
end FW
namespace L2
open PySem PySem.Spec PyProof.Rows
/-- a def of the text as it stands behind the top, under its own name -/
structure FnAt (K : PySem.W.Frag) (mg : Str → Option Value) (x : Str) (st : Stmt) (ps : List Str) (f : Addr) (fd : FuncData) : Prop where
  F : Fun K x x st f fd
  b : Binds K fd ps []
  m : mg x = some (.ref f)
theorem Same.upd {H : Hp} {p : Addr} {o : HO} (h : H p = Option.none) : Same H (upd H p o) := fun b u e => by
  rw [upd_ne (ne_of_none e h)]
  exact e
theorem Same.updR {H H' : Hp} {p : Addr} {o : HO} (e : Same H H') (h : H' p = Option.none) : Same H (L2.upd H' p o) := e.trans (.upd h)
theorem Same.tup {K : PySem.W.Frag} {H H' : Hp} {a : Addr} {xs : List V} (e : Same H H') (h : SqT K H a xs) : SqT K H' a xs := by
  rcases h with (h | ⟨o, h⟩) | h
  · exact .inl (.inl (e _ _ h))
  · exact .inl (.inr ⟨o, e _ _ h⟩)
  · exact .inr h
theorem iteBB {c : Bool} {A B : Prop} (h1 : c = true → A) (h2 : c = false → B) : if c = true then A else B := by
  cases c with
  | true => exact iteT (h1 rfl)
  | false => exact iteF (h2 rfl)
theorem two_le : (2 : Nat) ≤ sizeLine := by decide
/-- an int of less than 2 ^ 2000 -/
def Sm (x : Int) : Prop := x.natAbs < 2 ^ 2000
theorem Sm.bits {x : Int} (h : Sm x) : Builtin.Int.intBits x ≤ 2000 := intBits_le h
theorem Sm.mul {x y : Int} (h : Sm x) (k : Sm y) : IntMulOk x y := mulOk_of_bits h.bits k.bits (by decide)
theorem log2_lt {n k : Nat} (h : n < 2 ^ k) (hk : 0 < k) : n.log2 < k := by
  rcases Nat.eq_zero_or_pos n with h0 | hp
  · subst h0
    simpa using hk
  · exact (Nat.log2_lt (by omega)).mpr h
theorem Sm.log {x : Int} (h : Sm x) : x.natAbs.log2 < 9000 := Nat.lt_of_lt_of_le (log2_lt h (by decide)) (by decide)
theorem Sm.le {x y : Int} (h : Sm y) (k : x.natAbs ≤ y.natAbs) : Sm x := Nat.lt_of_le_of_lt k h
end L2
namespace Att
open PySem PySem.W PySem.Calls PyProof.Rows
theorem weight_mem : ∀ {ns : List Int} {n : Int}, n ∈ ns → WData.weight (.int n) ≤ WData.weightAll (ns.map WData.int)
  | m :: r, n, h => by
    show WData.weight (.int n) ≤ WData.weight (.int m) + 1 + WData.weightAll (r.map WData.int)
    rcases List.mem_cons.mp h with e | e
    · subst e
      omega
    · have := weight_mem (ns := r) e
      omega
theorem bits_of_lay {ns : List Int} (h : WData.layableAll [WData.list (ns.map WData.int)] = true) : ∀ n ∈ ns, Builtin.Int.intBits n ≤ 2 ^ 20 := by
  intro n hn
  have h1 : (WData.list (ns.map WData.int)).layable = true := (layW_cons h).1
  have h2 : WData.weight (WData.list (ns.map WData.int)) ≤ 2 ^ 20 := of_decide_eq_true (Bool.and_eq_true_iff.mp h1).2
  have h3 : WData.weightAll (ns.map WData.int) ≤ 2 ^ 20 := by simpa only [WData.weight] using h2
  have h4 := weight_mem hn
  have h5 : WData.weight (.int n) ≤ 2 ^ 20 := Nat.le_trans h4 h3
  simpa only [WData.weight, Builtin.Int.intBits] using h5
/-- attach_call, with the bound of the script's ints -/
theorem attach_callB {l : OpenLaw} {n : Nat} {q : Program} {loose : List Str} {XP : (Str → Option Value) → Heap → Prop} {YP : World → Heap → Prop} {d : DefRec}
    (hn : l.most = some n) (hdf : d.params.defaults = [])
    (call : ∀ (w : World) (s₀ s₁ : Shared) (mg mb : Str → Option Value) (fa : Addr) (a : Addr) (vs : List Value) (ns : List Int),
      Ground q loose [] XP w s₀ mg mb s₁.heap → YP w s₁.heap → mg d.name = some (.ref fa) →
      s₁.heap.get? a = some { cls := .type "list", data := .seq vs.toArray } → IntsAre vs ns → ns.length ≤ n → (∀ x ∈ ns, Builtin.Int.intBits x ≤ 2 ^ 20) → s₁.gens = #[] →
      codeAny (model l.prog w) callerA (.call (.ref fa) ⟨[.ref a], []⟩) (fun r s' => r = .ok (.ret (.bool true)) ∧ OldK s₁.heap s'.heap ∧ s'.os = s₁.os ∧ AllBare s'.gens) s₁) :
    WalkO q loose XP YP l.row.toRowW d [] (fun f vs => PySem.call f vs) := by
  intro w s₀ s₁ mg mb G Y fa o pm cd doc dV kV ho hd hcd hD hmg hg args vals as hpre hlay hrd hwl hlo
  obtain rfl : dV = .none := Dflts.none hD hdf
  obtain rfl : kV = .none := Dflts.noKw hD
  obtain ⟨a, vs, ns, rfl, rfl, hobj, hints, hlen⟩ := script_of hn hpre hwl
  refine enter_call (codeAny_mono (call w s₀ s₁ mg mb fa a vs ns G Y hmg hobj hints hlen (bits_of_lay hlay) hg) fun r s' hq => ?_)
  obtain ⟨rfl, h2, h3, h4⟩ := hq
  exact ⟨.inl ⟨.bool true, .bool true, [], rfl, fun _ => rfl, .bool true, post_true l _, fun _ => ⟨List.Pairwise.nil, fun _ hm => (nomatch hm)⟩⟩, h2, h3, h4⟩
end Att
namespace L2
open PySem PySem.Spec PyProof.Rows
/-- a def by what the top has written -/
theorem fnAt_mk {K : PySem.W.Frag} {mg : Str → Option Value} {h : Heap} {x : Str} {st : Stmt} {ps : List Str} {f : Addr} {oc : Value} {od an : Option Addr} {osl : Array (Option Value)} {kV doc pm cdv ct : Value} (X : K.In h) (G : h.Ns mainGlobals mg)
    (a : PySem.W.nsIn K mainGlobals x = some (some (.ref f)))
    (l : K.lookup f = some ⟨oc, od, .func (PySem.W.fnOf x x (defArgs st) (defBody st) (defScope st) .none kV doc pm an cdv ct), osl⟩)
    (c : PySem.W.codeIn K cdv x = true) (k : PySem.W.keepIn K (.ref f) = true)
    (b : ∀ (kV doc pm : Value) (an : Option Addr) (cdv ct : Value) (us : List Value), us.length = ps.length → bindArgs (PySem.W.fnOf x x (defArgs st) (defBody st) (defScope st) .none kV doc pm an cdv ct) ⟨us, []⟩ = pure (ps.zip us)) :
    FnAt K mg x st ps f (PySem.W.fnOf x x (defArgs st) (defBody st) (defScope st) .none kV doc pm an cdv ct) :=
  ⟨fun_mk l c k, (fun_mk l c k).binds b, PySem.W.mg_of X G a⟩
end L2
namespace L2
open PySem PySem.Spec PyProof.Rows
section
variable {X : Cx}
theorem op_mulB : OpR X (binaryOp .Mult) (rI IntMulOk fun i j => .int (i * j)) := opI fun _ _ _ _ _ _ _ hc q => mul_int q hc
def CDivP (_ j : Int) : Prop := 0 < j ∧ j.natAbs.log2 < 9000
theorem op_fdivP : OpR X (binaryOp .FloorDiv) (rI CDivP fun i j => .int (i / j)) := opI fun i j _ _ _ _ _ hc q => by
  have h0 : (0 : Int) < j := hc.1
  refine floordiv_int (by omega) ?_ (.inl (PyProof.noPylong_of_log2 hc.2))
  rw [Int.fdiv_eq_ediv_of_nonneg _ (Int.le_of_lt h0)]
  exact q
def CDivB (_ j : Int) : Prop := j ≠ 0 ∧ j.natAbs.log2 < 9000
def rIsi (K : PySem.W.Frag) : List V → Hp → VK → Prop := fun xs H Q => ∃ x n t b, xs = [x, .ty n] ∧ TyOf K H x t ∧ PySem.W.kitOne K t (.type n) = some b ∧ Q (.bl b) H
theorem call_isi : CallR X (.builtin "isinstance") (rIsi X.K) := by
  intro pins s σ H xs us Q I r h
  obtain ⟨x, n, t, b, rfl, ty, e, q⟩ := h
  obtain ⟨u, w', rfl, r1, r2⟩ := vals2 r
  cases (show w' = Value.type n from r2)
  exact isinst_ok I r1 ty e fun tk => ⟨.bl b, H, I.tok tk, rfl, q⟩
def rIsiC (K : PySem.W.Frag) : List V → Hp → VK → Prop := fun xs H Q => ∃ x C t b, xs = [x, .ref C] ∧ TyOf K H x t ∧ PySem.W.kitOne K t (.ref C) = some b ∧ Q (.bl b) H
def rEqT (K : PySem.W.Frag) : R2 := fun x y H Q => ∃ (a b : Addr) (ns ms : List Int), x = .ref a ∧ y = .ref b ∧ SqT K H a (ns.map V.int) ∧ SqT K H b (ms.map V.int) ∧ Q (.bl (decide (ns = ms))) H
end
def cCx (X : Cx) (scope : Scope) (cl : List (Str × Addr)) (C : Addr) (Nc : List Str) (s : Shared) (H : Hp) (fp : List Addr) : Cx where
  prog := X.prog
  w := X.w
  K := X.K
  mg := X.mg
  base := X.base
  A := X.A
  N := Nc
  s₀ := s
  H₀ := H
  env := compEnvC scope cl C X.env
  outer := X.stack
  stack := X.stack
  ex := fp
  fn := fun _ => false
  calm := X.calm
  pn := []
  xe := fun _ _ => False
/-- the tests of a clause -/
def PTs (X : Cx) (ifs : List Expr) (t : TT) : Prop :=
  ∀ (pins : List (Addr × Obj)) (s : Shared) (σ : St) (H : Hp) (Q : Bool → Hp → Prop), Inv X pins σ H s → t σ H Q →
    wpAny (model X.prog X.w) X.A (forIn ifs true fun c r => if r = true then do let ok ← isTrue c X.env (eval c X.env); pure (ForInStep.yield ok) else pure (ForInStep.yield r)) (TP X pins σ Q) X.xe s
def tTrue : TT := fun _ H Q => Q true H
theorem pts_nil {X : Cx} : PTs X [] tTrue := fun _ _ _ H _ I h => wpAny_tests_nil ⟨H, I, h⟩
theorem pts_one {X : Cx} {c : Expr} {t : TT} (h : PT X c t) : PTs X [c] t := fun pins s σ H Q I q => wpAny_tests_one (h pins s σ H Q I q)
theorem comp_loop0 {prog : Program} {w : World} {A : Around} {R : Result → Shared → Prop} {s : Shared} {elt target iter : Expr} {ifs : List Expr} {scope : Scope} {pos : Pos} {it acc : Value} {env : Env} (I : Nat → Shared → Prop)
    (turn : ∀ n s, I n s → wpAny (model prog w) A (pyNext it) (fun r s₁ => match r with
      | none => R (.ok .next) s₁
      | some v => wpAny (model prog w) A (letOwnedTupleGo target it v) (fun _ s₂ => wpAny (model prog w) A (assign target env v) (fun _ s₃ =>
          wpAny (model prog w) A (forIn ifs true fun c r => if r = true then do let ok ← isTrue c env (eval c env); pure (ForInStep.yield ok) else pure (ForInStep.yield r)) (fun ok s₄ =>
            if ok = true then wpAny (model prog w) A (eval elt env) (fun x s₅ =>
              wpAny (model prog w) A (call (.builtin "list.append") [acc, x]) (fun _ s₆ => ∃ m, m < n ∧ I m s₆) (fun _ _ => False) s₅) (fun _ _ => False) s₄
            else ∃ m, m < n ∧ I m s₄) (fun _ _ => False) s₃) (fun _ _ => False) s₂) (fun _ _ => False) s₁) (fun _ _ => False) s)
    (n : Nat) (h : I n s) :
    codeAny (model prog w) A (.compLoop (.ListComp elt [⟨target, iter, ifs, 0⟩] scope pos) 0 it acc env) R s := by
  refine codeAny_loop rfl I (fun n s hI => ?_) n h
  show wpAny _ A ((compTurn (.ListComp elt [⟨target, iter, ifs, 0⟩] scope pos) 0 it acc env).onRaise (fun x => do noteFrame x env; theTreesLotGoes x)) _ _ s
  refine wpAny_noted ?_
  rw [compTurn_list]
  refine wpAny_bind (wpAny_standAt (wpAny_bind (wpAny_mono (turn n s hI) (fun r s₁ h₁ => ?_) fun _ _ h' => h'.elim)))
  cases r with
  | none => exact wpAny_pure h₁
  | some v =>
    refine wpAny_bind (wpAny_mono h₁ (fun _ s₂ h₂ => wpAny_bind (wpAny_mono h₂ (fun _ s₃ h₃ => wpAny_bind (wpAny_mono h₃ (fun ok s₄ h₄ => ?_) fun _ _ h' => h'.elim)) fun _ _ h' => h'.elim)) fun _ _ h' => h'.elim)
    cases ok with
    | false => exact wpAny_pure ⟨rfl, h₄⟩
    | true =>
      exact wpAny_bind (wpAny_bind (wpAny_mono h₄ (fun x s₅ h₅ => wpAny_bind (wpAny_mono h₅ (fun _ s₆ h₆ => wpAny_pure (wpAny_pure ⟨rfl, h₆⟩)) fun _ _ h' => h'.elim)) fun _ _ h' => h'.elim))
/-- the reading: W, the invariant by turn, measure, the block's slots, the list so far, heap -/
def CompW (J : It) (g : TG) (tt : TT) (te : TE) (σ0 : St) (Q : VK) (D : Addr) (H1 : Hp) : Prop :=
  ∃ W : Nat → Nat → St → List V → Hp → Prop, (∃ m, W 0 m σ0 [] H1) ∧ ∀ i m σ2 ys H2, W i m σ2 ys H2 → H2 D = some (.lst ys) ∧ ys.length < sizeLine ∧
    ((J.stop i H2 ∧ Q (.ref D) H2) ∨ (J.go i H2 ∧ ∀ x H3, J.yld i H2 x H3 → g x σ2 H3 fun σ4 H4 => tt σ4 H4 fun b H5 =>
      if b = true then te σ4 H5 fun v H6 => H6 D = some (.lst ys) ∧ ∃ m', m' < m ∧ W (i + 1) m' σ4 (ys ++ [v]) (upd H6 D (.lst (ys ++ [v])))
      else ∃ m', m' < m ∧ W (i + 1) m' σ4 ys H5))
def tComp (wi : TI) (g : TG) (tt : TT) (te : TE) (σc : St → St) : TE := fun σ H Q => wi σ H fun J H1 => ∀ D, H1 D = none → CompW J g tt te (σc σ) Q D (upd H1 D (.lst []))
/-- what the block takes from the frame around -/
structure Caps (X : Cx) (scope : Scope) (cl : List (Str × Addr)) (Nc : List Str) (σc : St → St) : Prop where
  clos : closureFor scope X.env = pure cl
  kind : scope.kind = .function
  nocell : ∀ y ∈ scope.names, y.2 ≠ .cell
  names : ∀ y ∈ scope.names, y.2 = .local → scope.names.lookup y.1 = some .local
  cells : ∀ x c, cl.lookup x = some c → X.env.cells.lookup x = some c
  has : ∀ x, ((relabel scope X.env).names.lookup x = some .cell ∨ (relabel scope X.env).names.lookup x = some .free) → ∃ c, cl.lookup x = some c
  len : ∀ σ, (σc σ).length = Nc.length
  cap : ∀ σ (i : Nat) x v, Nc[i]? = some x → (σc σ)[i]? = some (some v) → Vis (relabel scope X.env) x →
    ((relabel scope X.env).names.lookup x = some .cell ∨ (relabel scope X.env).names.lookup x = some .free) ∧
    (X.env.kindOf x = some .cell ∨ X.env.kindOf x = some .free) ∧ ∃ j : Nat, X.N[j]? = some x ∧ σ[j]? = some (some v) ∧ Vis X.env.scope x
section
variable {X : Cx} {tg iter elt : Expr} {ifs : List Expr} {scope : Scope} {cl : List (Str × Addr)} {Nc : List Str} {σc : St → St} {pos : Pos} {wi : TI} {g : TG} {tt : TT} {te : TE}
theorem cCx_ok {pins : List (Addr × Obj)} {σ : St} {H : Hp} {s : Shared} {fp : List Addr} {C : Addr} (I : Inv X pins σ H s) (c : Caps X scope cl Nc σc) (hC : s.heap.objs.size ≤ C) (hf : ∀ b ∈ fp, FpOk X pins H b) (hlt : ∀ b ∈ fp, b < s.heap.objs.size) :
    (cCx X scope cl C Nc s H fp).Ok where
  mod := I.ok.mod
  kind := c.kind
  glob := I.ok.glob
  blt := I.ok.blt
  above := hC
  inj := fun x y a h1 h2 => I.ok.inj x y a (c.cells x a h1) (c.cells y a h2)
  has := c.has
  cab := fun _ _ h _ => absurd (show false = true from h) Bool.false_ne_true
  hd := I.ok.hd
  frames := I.ok.frames
  stk := .inl rfl
  exf := fun b hb => ⟨fun z => absurd (Nat.lt_of_lt_of_le (hlt b hb) hC) (by
      have z' : b = C := z
      rw [z']
      exact Nat.lt_irrefl _), fun x a h z => (hf b hb).2.2.2.2.1 x a (c.cells x a h) z⟩
  bs := I.bs
  bsz := Nat.le_trans I.ok.bsz I.sz
  noex := fun b o e hb => by
    rcases (hf b hb).2.2.2.1 with z | z
    · exact I.ok.noex b o e z
    · exact absurd (Nat.lt_of_lt_of_le (Heap.lt_size e) (Nat.le_trans I.ok.bsz z)) (Nat.lt_irrefl _)
  exfs := fun b hb z => by
    rcases List.mem_cons.mp (I.stkSub b z) with q | q
    · exact (hf b hb).2.1 q
    · exact (hf b hb).2.2.1 q
  funs := I.stack
  frf := I.stkFree
theorem cCx_inv {pins : List (Addr × Obj)} {σ : St} {H : Hp} {s : Shared} {fp : List Addr} {C : Addr} {h' : Heap} {t' : Nat} {m : Str → Option Value} (I : Inv X pins σ H s) (c : Caps X scope cl Nc σc) (hC : s.heap.objs.size ≤ C)
    (hf : ∀ b ∈ fp, FpOk X pins H b) (hlt : ∀ b ∈ fp, b < s.heap.objs.size) (hk : ∀ b o, s.heap.get? b = some o → h'.get? b = some o) (hn : h'.Ns C m) :
    Inv (cCx X scope cl C Nc s H fp) [] (σc σ) H { s with heap := h', toks := t' } := by
  refine ⟨cCx_ok I c hC hf hlt, rfl, I.bare, Un.kept hk, ⟨m, hn, fun i x v e1 e2 e3 => ?_⟩, fun x a h => ?_, I.hok.fresh hC, fun x a h => I.freeC x a (c.cells x a h), fun p hp => absurd (show p ∈ ([] : List (Addr × Obj)) from hp) (by simp), I.hok.kept hk, c.len σ⟩
  · obtain ⟨k1, k2, j, n1, n2, n3⟩ := c.cap σ i x v e1 e2 e3
    obtain ⟨m0, _, hl⟩ := I.loc
    obtain ⟨u, ru, lk⟩ := hl j x v n1 n2 n3
    refine ⟨u, ru, .inr ⟨k1, ?_⟩⟩
    rcases lk with ⟨z, _⟩ | ⟨_, a, ha, hcell⟩
    · rcases k2 with k2 | k2 <;> rw [k2] at z <;> cases z
    · obtain ⟨a', ha'⟩ := c.has x k1
      have e := c.cells x a' ha'
      rw [ha] at e
      cases e
      obtain ⟨o, ho, hd⟩ := hcell
      exact ⟨a, ha', ⟨o, hk _ _ ho, hd⟩⟩
  · obtain ⟨v, o, ho, hd⟩ := I.cell x a (c.cells x a h)
    exact ⟨v, o, hk _ _ ho, hd⟩
/-- the block runs -/
theorem comp_block {pins : List (Addr × Obj)} {σ : St} {H : Hp} {s : Shared} {Q : VK} {J : It} {fp : List Addr} {it : Addr} {tn : Nat → Heap → Prop} {RR : Value → Addr → Result → Shared → Prop} {E : Value → Shared → Prop}
    (hc : X.calm = true) (c : Caps X scope cl Nc σc)
    (hg : ∀ C s H fp, PG (cCx X scope cl C Nc s H fp) tg g) (ht : ∀ C s H fp, PTs (cCx X scope cl C Nc s H fp) ifs tt) (he : ∀ C s H fp, PE (cCx X scope cl C Nc s H fp) elt te)
    (I : Inv X pins σ H s) (T : Turn X.prog X.w X.K tg J fp it tn) (st : tn 0 s.heap) (hf : ∀ b ∈ fp, FpOk X pins H b)
    (h : ∀ D, H D = none → CompW J g tt te (σc σ) Q D (upd H D (.lst [])))
    (hRR : ∀ D C H' s' m, Inv X pins σ H' s' → H' C = none → s.heap.objs.size ≤ C → s'.heap.Ns C m → Q (.ref D) H' → RR (.ref D) C (.ok .next) s') :
    wpAny (model X.prog X.w) X.A (newList []) (fun acc s₃ => wpAny (model X.prog X.w) X.A (newFunctionEnv scope X.env.globals cl [] X.env.qual none .none (some X.env)) (fun cenv s₄ =>
      codeAny (model X.prog X.w) X.A (.compStart (.ListComp elt [⟨tg, iter, ifs, 0⟩] scope pos) 0 (.ref it) acc { cenv with scope := relabel scope X.env }) (RR acc cenv.locals) s₄) E s₃) E s := by
  have fit : ∀ b ∈ fp, b < s.heap.objs.size := fun b hb => by
    obtain ⟨o, e, _⟩ := T.obj _ _ st b hb
    exact Heap.lt_size e
  obtain ⟨W, ⟨m0, w0⟩, turn⟩ := h s.heap.objs.size (I.hok.fresh (Nat.le_refl _))
  refine wpAny_newObj_type (wpAny_newFunctionEnv c.nocell (by intro y hy; simp at hy) (fun h₁ hns₁ hsb₁ => ?_) c.kind)
  dsimp only at hns₁ hsb₁ ⊢
  have I1 : Inv X pins σ (upd H s.heap.objs.size (.lst [])) { s with heap := s.heap.push { cls := .type "list", dict := none, data := .seq ([] : List Value).toArray } } :=
    I.laid (t' := s.toks) (fun b u e => Heap.get?_push_of_some _ e) (Nat.le_refl _) ⟨Nat.zero_le _, [], 0, .nil, Heap.get?_push_size _ rfl⟩
  generalize hH2 : s.heap.push { cls := .type "list", dict := none, data := .seq ([] : List Value).toArray } = G at hns₁ hsb₁ I1 ⊢
  have hG : G.objs.size = s.heap.objs.size + 1 := by rw [← hH2, Heap.size_push]
  have old : ∀ b o, G.get? b = some o → h₁.get? b = some o := fun b o e => hsb₁.extBut b o (Nat.ne_of_lt (Heap.lt_size e)) (Heap.get?_push_of_some _ e)
  have hf1 : ∀ b ∈ fp, FpOk X pins (upd H s.heap.objs.size (.lst [])) b := fun b hb =>
    ⟨by rw [upd_ne (Nat.ne_of_lt (fit b hb))]; exact (hf b hb).1, (hf b hb).2⟩
  have hlt1 : ∀ b ∈ fp, b < G.objs.size := fun b hb => Nat.lt_of_lt_of_le (fit b hb) (by rw [hG]; exact Nat.le_succ _)
  have I2 := cCx_inv (C := G.objs.size) (t' := s.toks + ([] : List (Str × Value)).length) I1 c (Nat.le_refl _) hf1 hlt1 old hns₁
  have st1 : tn 0 h₁ := T.keep _ _ _ st fun b hb o e => old b o (by rw [← hH2]; exact Heap.get?_push_of_some _ e)
  -- the iterator's own objects, seen from the block
  have fpB : ∀ {H' : Hp}, (∀ b ∈ fp, H' b = none) → ∀ b ∈ fp, FpOk (cCx X scope cl G.objs.size Nc { s with heap := G } (upd H s.heap.objs.size (.lst [])) fp) [] H' b := fun {H'} hn b hb => by
    have ok := cCx_ok (C := G.objs.size) I1 c (Nat.le_refl _) hf1 hlt1
    obtain ⟨e1, e2⟩ := ok.exf b hb
    exact ⟨hn b hb, e1, ok.exfs b hb, .inl hb, e2, fun p hp => absurd (show p ∈ ([] : List (Addr × Obj)) from hp) (by simp)⟩
  have loop : ∀ s₃ : Shared, s₃ = { s with heap := h₁, toks := s.toks + ([] : List (Str × Value)).length } →
      codeAny (model X.prog X.w) X.A (.compLoop (.ListComp elt [⟨tg, iter, ifs, 0⟩] scope pos) 0 (.ref it) (.ref s.heap.objs.size) (compEnvC scope cl G.objs.size X.env))
        (RR (.ref s.heap.objs.size) G.objs.size) s₃ := by
    rintro s₃ rfl
    refine comp_loop0 (fun n s' => ∃ i σ' ys H', Inv (cCx X scope cl G.objs.size Nc { s with heap := G } (upd H s.heap.objs.size (.lst [])) fp) [] σ' H' s' ∧ tn i s'.heap ∧ (∀ b ∈ fp, H' b = none) ∧ W i n σ' ys H') ?_ m0
      ⟨0, σc σ, [], _, I2, st1, fun b hb => (hf1 b hb).1, w0⟩
    rintro n s5 ⟨i, σ5, ys, H5, I5, st5, fr5, w5⟩
    obtain ⟨hD, hsz, alt⟩ := turn i n σ5 ys H5 w5
    rcases alt with ⟨stop, q⟩ | ⟨go, step⟩
    · refine thn (T.done (cCx X scope cl G.objs.size Nc { s with heap := G } (upd H s.heap.objs.size (.lst [])) fp) rfl rfl rfl hc i [] s5 σ5 H5 _ I5 (fpB fr5) st5 stop) fun r s6 ⟨hr, I6⟩ => ?_
      subst hr
      obtain ⟨m6, n6, _⟩ := I6.loc
      have I7 : Inv X pins σ H5 s6 := I1.call' I6.os I6.base I6.hok I6.bare fun b hb => ⟨(hf1 b hb).2.2.2.1, (hf1 b hb).2.1, (hf1 b hb).2.2.2.2.1, (hf1 b hb).2.2.2.2.2⟩
      exact hRR _ _ H5 s6 m6 I7 I6.free (by rw [hG]; exact Nat.le_succ _) n6 q
    · refine thn (T.item (cCx X scope cl G.objs.size Nc { s with heap := G } (upd H s.heap.objs.size (.lst [])) fp) rfl rfl rfl hc i [] s5 σ5 H5 _ I5 (fpB fr5) st5 go) fun r s6 ⟨u, hr, h6⟩ => ?_
      subst hr
      refine thn h6 fun _ s7 ⟨x, H7, I7, r7, y7, st7, fr7⟩ => ?_
      have I7' := I7.pinned (fpB fr7) (T.obj _ _ st7)
      refine thn (hg _ _ _ _ _ s7 σ5 H7 x u _ I7' r7 (step x H7 y7)) fun _ s8 ⟨σ8, H8, I8, q8⟩ => ?_
      refine thn (ht _ _ _ _ _ s8 σ8 H8 _ I8 q8) fun ok s9 ⟨H9, I9, q9⟩ => ?_
      have again : ∀ {σ' : St} {H' : Hp} {s' : Shared} {ys' : List V} {m' : Nat}, Inv (cCx X scope cl G.objs.size Nc { s with heap := G } (upd H s.heap.objs.size (.lst [])) fp) ([] ++ pinsAt fp s7.heap) σ' H' s' → m' < n → W (i + 1) m' σ' ys' H' →
          ∃ m, m < n ∧ ∃ i σ' ys H', Inv (cCx X scope cl G.objs.size Nc { s with heap := G } (upd H s.heap.objs.size (.lst [])) fp) [] σ' H' s' ∧ tn i s'.heap ∧ (∀ b ∈ fp, H' b = none) ∧ W i m σ' ys H' := fun {σ' H' s' ys' m'} J7 hm hw => by
        refine ⟨m', hm, i + 1, σ', ys', H', J7.unpinned, T.keep _ _ _ st7 fun b hb o e => (J7.pin (b, o) (List.mem_append_right _ (List.mem_append_right _ (mem_pinsAt hb e)))).1, fun b hb => ?_, hw⟩
        obtain ⟨o, e, d⟩ := T.obj _ _ st7 b hb
        exact (J7.pin (b, o) (List.mem_append_right _ (List.mem_append_right _ (mem_pinsAt hb e)))).2.1
      cases ok with
      | false =>
        rw [if_neg Bool.false_ne_true] at q9 ⊢
        obtain ⟨m', hm, hw⟩ := q9
        exact again I9 hm hw
      | true =>
        rw [if_pos rfl] at q9 ⊢
        refine thn (he _ _ _ _ _ s9 σ8 H9 _ I9 q9) fun v s10 ⟨y, H10, I10, r10, hD10, m', hm, hw⟩ => ?_
        refine thn (mt_append _ s10 σ8 H10 (.ref s.heap.objs.size) [y] (.ref s.heap.objs.size) [v] (fun _ H' => H' = upd H10 s.heap.objs.size (.lst (ys ++ [y]))) I10 rfl (.cons r10 .nil) ⟨_, ys, y, rfl, rfl, hD10, hsz, rfl⟩) fun _ s11 ⟨z, H11, I11, _, e11⟩ => ?_
        subst e11
        exact again I11 hm hw
  exact codeAny_compStart_list (loop _ rfl) (T.self _ 0 _ _ _ st1 (loop _ rfl))
/-- [elt for tg in iter if ..], as a value -/
theorem pe_comp (hc : X.calm = true) (c : Caps X scope cl Nc σc) (hi : PI X tg iter wi)
    (hg : ∀ C s H fp, PG (cCx X scope cl C Nc s H fp) tg g) (ht : ∀ C s H fp, PTs (cCx X scope cl C Nc s H fp) ifs tt) (he : ∀ C s H fp, PE (cCx X scope cl C Nc s H fp) elt te)
    (hs : ∀ x, foldedSetIterable iter X.env x = pure x := by intro _; rfl) : PE X (.ListComp elt [⟨tg, iter, ifs, 0⟩] scope pos) (tComp wi g tt te σc) := by
  intro pins s σ H Q I h
  rw [eval_ListComp]
  refine wpAny_comprehension_free (use := none) rfl hs c.clos c.kind c.names (thn (hi pins s σ H _ I h) fun v s1 h1 => thn h1 fun itv s2 h2 => ?_)
  obtain ⟨it, fp, tn, J, H2, rfl, I2, T, st2, f2, W⟩ := h2
  refine comp_block (Q := Q) hc c hg ht he I2 T st2 f2 W ?_
  intro D C H' s' m I' hC hCs hn q
  refine ⟨m, hn, fun h' sb => ⟨.ref D, H', ?_, rfl, q⟩⟩
  have nl : C ≠ X.env.locals := Nat.ne_of_gt (Nat.lt_of_lt_of_le I2.lt hCs)
  refine I'.turned (t' := s'.toks) (it := C) (fun b o hb e => sb.extBut b o hb e) hC nl (.inr (Nat.le_trans I2.sz hCs)) (fun x a e z => ?_) (fun p hp z => ?_)
  · obtain ⟨v, q⟩ := I2.cell x a e
    exact absurd (Nat.lt_of_lt_of_le q.lt hCs) (by rw [z]; exact Nat.lt_irrefl _)
  · exact absurd (Nat.lt_of_lt_of_le (Heap.lt_size (I2.pin p hp).1) hCs) (by rw [z]; exact Nat.lt_irrefl _)
/-- y = [elt for tg in iter if ..], the store ahead of the block's end -/
theorem ps_comp {i : Nat} {y : Str} {py spos : Pos} (hc : X.calm = true) (hN : X.N.Nodup) (hiy : X.N[i]? = some y) (hy : Loc X.env.scope y) (c : Caps X scope cl Nc σc) (hi : PI X tg iter wi)
    (hg : ∀ C s H fp, PG (cCx X scope cl C Nc s H fp) tg g) (ht : ∀ C s H fp, PTs (cCx X scope cl C Nc s H fp) ifs tt) (he : ∀ C s H fp, PE (cCx X scope cl C Nc s H fp) elt te)
    (hsw : swapsWith (.ListComp elt [⟨tg, iter, ifs, 0⟩] scope pos) (some (.Name y py)) spos.line X.env = pure true := by rfl)
    (hs : ∀ x, foldedSetIterable iter X.env x = pure x := by intro _; rfl) (hf : X.fn y = true ∨ X.env.scope.names.lookup y = some .local := by first | exact .inl rfl | exact .inr rfl | assumption) :
    PS X (.Assign [.Name y py] (.ListComp elt [⟨tg, iter, ifs, 0⟩] scope pos) spos) (tAsg (tComp wi g tt te σc) (gName i)) := by
  intro pins s σ H D I h
  rw [exec_Assign_Name_used _ _ _ _ hsw]
  refine wpAny_bind (wpAny_standAt (wpAny_bind ?_))
  show wpAny _ X.A (do let _ ← comprehension (.ListComp elt [⟨tg, iter, ifs, 0⟩] scope pos) scope X.env _ (newList []) false (eval iter X.env) (some (assign (.Name y py) X.env))) _ _ s
  refine wpAny_bind (wpAny_mono (wpAny_comprehension_free (use := some (assign (.Name y py) X.env)) (Q := fun _ s' => SP X pins D .next s') rfl hs c.clos c.kind c.names
    (thn (hi pins s σ H _ I h) fun v s1 h1 => thn h1 fun itv s2 h2 => ?_)) (fun _ s' hq => wpAny_pure (wpAny_pure hq)) fun _ _ e => e)
  obtain ⟨it, fp, tn, J, H2, rfl, I2, T, st2, f2, W⟩ := h2
  refine comp_block (Q := fun v H' => D.nx (σ.set i (some v)) H') hc c hg ht he I2 T st2 f2 W ?_
  intro L C H' s' m I' hC hCs hn q
  have nl : C ≠ X.env.locals := Nat.ne_of_gt (Nat.lt_of_lt_of_le I2.lt hCs)
  have nfs : C ∉ X.fs := I2.nofs hCs
  obtain ⟨oC, es, ep, hoC, hdC, hrC⟩ := id hn
  have ncell : ∀ v, oC.data ≠ .cell v := fun v z => by rw [hdC] at z; cases z
  have I'' : Inv X (pins ++ [(C, oC)]) σ H' s' := I'.pins_of fun p hp => by
    rcases List.mem_append.mp hp with z | z
    · exact I'.pin p (List.mem_append_right _ z)
    · have e : p = (C, oC) := by simpa using z
      subst e
      exact ⟨hoC, hC, nl, nfs, ncell⟩
  show wpAny _ X.A (assign (.Name y py) X.env (.ref L)) _ _ _
  refine wpAny_assign_Name (store_ok I'' hN hiy hy (v := .ref L) rfl (fun s3 I3 => ?_) hf)
  have hn3 : s3.heap.Ns C m := ⟨oC, es, ep, (I3.pin (C, oC) (by simp)).1, hdC, hrC⟩
  refine ⟨m, hn3, fun h' sb => ⟨σ.set i (some (.ref L)), H', ?_, q⟩⟩
  refine I3.unpinned.turned (t' := s3.toks) (it := C) (fun b o hb e => sb.extBut b o hb e) hC nl (.inr (Nat.le_trans I2.sz hCs)) (fun x a e z => ?_) (fun p hp z => ?_)
  · obtain ⟨v, q⟩ := I2.cell x a e
    exact absurd (Nat.lt_of_lt_of_le q.lt hCs) (by rw [z]; exact Nat.lt_irrefl _)
  · exact absurd (Nat.lt_of_lt_of_le (Heap.lt_size (I2.pin p hp).1) hCs) (by rw [z]; exact Nat.lt_irrefl _)
/-- no name of the frame around is taken -/
theorem caps0 (hk : scope.kind = .function) (hfree : ∀ x ∈ scope.names, x.2 ≠ .free) (hcell : ∀ x ∈ scope.names, x.2 ≠ .cell) (hnames : ∀ y ∈ scope.names, y.2 = .local → scope.names.lookup y.1 = some .local) :
    Caps X scope [] Nc (fun _ => List.replicate Nc.length none) where
  clos := closureFor_none hfree
  kind := hk
  nocell := hcell
  names := hnames
  cells := fun x c e => by cases e
  has := fun x h => by
    have hm : (relabel scope X.env).names = scope.names := by
      unfold relabel
      refine map_eq_self fun y hy => ?_
      obtain ⟨n, k⟩ := y
      have : (k == NameKind.free) = false := by simpa using hfree _ hy
      simp [this]
    rw [hm] at h
    rcases h with h | h
    · exact absurd rfl (hcell _ (PySem.mem_of_lookup h))
    · exact absurd rfl (hfree _ (PySem.mem_of_lookup h))
  len := fun _ => by simp
  cap := fun σ i x v _ e _ => by
    rw [List.getElem?_replicate] at e
    split at e <;> cases e
end
end L2
namespace L2
open PySem PySem.Spec PyProof.Rows
/-- the pairs of the lists at a and b -/
def Itz (K : PySem.W.Frag) (a b : Addr) : It :=
  ⟨fun i H => ∃ xs ys x y, SqL K H a xs ∧ SqL K H b ys ∧ xs[i]? = some x ∧ ys[i]? = some y,
   fun i H v H' => ∃ p, v = .ref p ∧ H p = none ∧ ∀ xs ys x y, SqL K H a xs → SqL K H b ys → xs[i]? = some x → ys[i]? = some y → H' = upd H p (.tup [x, y]),
   fun i H => ∃ xs ys, SqL K H a xs ∧ SqL K H b ys ∧ (xs.length ≤ i ∨ ys.length ≤ i)⟩
section
variable {X : Cx} {pins : List (Addr × Obj)} {σ : St} {H : Hp} {s : Shared} {h' : Heap}
/-- some untracked records of ours have turned, a new object is laid -/
theorem Inv.turnedLaid {t' : Nat} {ch : List Addr} {p : Addr} {o : HO} (I : Inv X pins σ H s) (k : ∀ b u, b ∉ ch → s.heap.get? b = some u → h'.get? b = some u) (hf : ∀ b ∈ ch, FpOk X pins H b)
    (hp : s.heap.objs.size ≤ p) (new : ObjOk X.prog X.w (upd H p o) h' p o) : Inv X pins σ (upd H p o) { s with heap := h', toks := t' } := by
  have hn := I.hok.fresh hp
  have nch : ∀ b u, H b = some u → b ∉ ch := fun b u e z => by rw [(hf b z).1] at e; cases e
  refine I.call (g' := s.gens) (d' := s.drawn) (ch := ch) ⟨fun b u e _ _ hc => k b u hc e, fun b u e _ _ hc => ⟨u.slots, k b u hc e⟩, fun b u e n _ => ?_, fun b u e hc => ⟨u, k b u hc e⟩, fun b xs e => ?_, fun b u xs e => ?_, fun b ps e => ?_⟩ (fun b u e => ?_) I.bare
    fun b hb => ⟨(hf b hb).2.2.2.1, (hf b hb).2.1, (hf b hb).2.2.2.2.1, (hf b hb).2.2.2.2.2⟩
  · rw [upd_ne (Nat.ne_of_lt (Nat.lt_of_lt_of_le (Heap.lt_size e) hp))]
    exact n
  · rw [upd_ne (ne_of_none e hn)]
    exact e
  · rw [upd_ne (ne_of_none e hn)]
    exact e
  · exact ⟨#[], by rw [upd_ne (ne_of_none e hn), e]; simp⟩
  · by_cases hb : b = p
    · subst hb
      rw [upd_same] at e
      cases e
      exact new
    · rw [upd_ne hb] at e
      refine (I.hok b u e).stay (fun c v hc q => k c v ?_ q) (fun c q => by rw [upd_ne (ne_of_none q hn)]; exact q) fun c xs q => by rw [upd_ne (ne_of_none q hn)]; exact q
      rcases hc with z | z
      · rw [z]
        exact nch b u e
      · exact nch c _ z
/-- .. nothing laid -/
theorem Inv.turnedAll {t' : Nat} {ch : List Addr} (I : Inv X pins σ H s) (k : ∀ b u, b ∉ ch → s.heap.get? b = some u → h'.get? b = some u) (hf : ∀ b ∈ ch, FpOk X pins H b) : Inv X pins σ H { s with heap := h', toks := t' } := by
  have nch : ∀ b u, H b = some u → b ∉ ch := fun b u e z => by rw [(hf b z).1] at e; cases e
  refine I.call (g' := s.gens) (d' := s.drawn) (ch := ch) ⟨fun b u e _ _ hc => k b u hc e, fun b u e _ _ hc => ⟨u.slots, k b u hc e⟩, fun b u e n _ => n, fun b u e hc => ⟨u, k b u hc e⟩, fun b xs e => e, fun b u xs e => e, fun b ps e => ⟨#[], by rw [e]; simp⟩⟩ (fun b u e => ?_) I.bare
    fun b hb => ⟨(hf b hb).2.2.2.1, (hf b hb).2.1, (hf b hb).2.2.2.2.1, (hf b hb).2.2.2.2.2⟩
  refine (I.hok b u e).stay (fun c v hc q => k c v ?_ q) (fun c q => q) fun c xs q => q
  rcases hc with z | z
  · rw [z]
    exact nch b u e
  · exact nch c _ z
end
theorem turn_zip {P : Program} {w : World} {K : PySem.W.Frag} {elts : List Expr} {kk : Nat} {pos : Pos} (a b z TI TO i1 i2 : Addr) (D : ZipApart z TI TO i1 i2 a b) :
    Turn P w K (.Tuple elts kk pos) (Itz K a b) [z, TI, TO, i1, i2] z (fun i h => IsZip h z TI TO .none ∧ IsPair h TI (.ref i1) (.ref i2) ∧ (∃ x y, IsPair h TO x y) ∧ h.IsListIter i1 a i ∧ h.IsListIter i2 b i) where
  mem := by simp
  obj := fun i h st c hc => by
    obtain ⟨hz, hTI, ⟨x, y, hTO⟩, ⟨o1, e1, c1, d1⟩, ⟨o2, e2, c2, d2⟩⟩ := st
    have hc' : c = z ∨ c = TI ∨ c = TO ∨ c = i1 ∨ c = i2 := by simpa using hc
    rcases hc' with rfl | rfl | rfl | rfl | rfl
    · exact ⟨_, hz, fun v q => by have q' : Data.fields _ = Data.cell v := q; cases q'⟩
    · exact ⟨_, hTI, fun v q => by have q' : Data.seq _ _ = Data.cell v := q; cases q'⟩
    · exact ⟨_, hTO, fun v q => by have q' : Data.seq _ _ = Data.cell v := q; cases q'⟩
    · exact ⟨_, e1, fun v q => by rw [d1] at q; cases q⟩
    · exact ⟨_, e2, fun v q => by rw [d2] at q; cases q⟩
  keep := fun i h h' st k => by
    obtain ⟨hz, hTI, ⟨x, y, hTO⟩, h1, h2⟩ := st
    exact ⟨k z (by simp) _ hz, k TI (by simp) _ hTI, ⟨x, y, k TO (by simp) _ hTO⟩, h1.at fun o e => k i1 (by simp) o e, h2.at fun o e => k i2 (by simp) o e⟩
  item := by
    intro X hP hw hK hc i pins s σ H E I hf st hg
    subst hP hw hK
    obtain ⟨xs, ys, x, y, hq1, hq2, hx, hy⟩ := hg
    obtain ⟨its, rv, p1, hz1⟩ := I.list hq1
    obtain ⟨its2, rv2, p2, hz2⟩ := I.list hq2
    obtain ⟨u, hu, ru⟩ := rv.get hx
    obtain ⟨v, hv, rvv⟩ := rv2.get hy
    obtain ⟨hz, hTI, ⟨ta, tb, hTO⟩, h1, h2⟩ := st
    refine wpAny_pyNext_zip_item D hz hTI hTO h1 h2 p1.isList p2.isList (x := u) (y := v) (by simpa using hu) (by simpa using hv) fun h' a1 a2 a3 a4 a5 a6 hk => ?_
    refine ⟨_, rfl, wpAny_letOwnedTupleGo_zip a1 fun h'' hz'' sb => ?_⟩
    have nz : s.heap.objs.size ≠ z := Nat.ne_of_gt (Heap.lt_size hz)
    have hk2 : ∀ c o, c ∉ [z, TI, TO, i1, i2] → s.heap.get? c = some o → h''.get? c = some o := fun c o hc e => by
      simp only [List.mem_cons, List.not_mem_nil, or_false, not_or] at hc
      exact sb.extBut c o hc.1 (hk c o hc.1 hc.2.2.1 hc.2.2.2.1 hc.2.2.2.2 e)
    refine ⟨.ref s.heap.objs.size, upd H s.heap.objs.size (.tup [x, y]), I.turnedLaid (t' := s.toks) hk2 hf (Nat.le_refl _) ⟨two_le, [u, v], .cons ru (.cons rvv .nil), ⟨_, sb.extBut _ _ nz a5, rfl, _, rfl⟩⟩, rfl,
      ⟨_, rfl, I.hok.fresh (Nat.le_refl _), fun xs' ys' x' y' e1 e2 e3 e4 => ?_⟩, ⟨hz'', sb.extBut _ _ D.TIz (hk _ _ D.TIz D.TITO D.TIi1 D.TIi2 hTI), ⟨_, _, sb.extBut _ _ D.TOz a2⟩, a3.extBut sb.extBut D.i1z, a4.extBut sb.extBut D.i2z⟩, fun c hc => ?_⟩
    · rw [I.list_inj e1 hq1, hx] at e3
      rw [I.list_inj e2 hq2, hy] at e4
      cases e3
      cases e4
      rfl
    · obtain ⟨o, e, _⟩ : ∃ o, s.heap.get? c = some o ∧ True := by
        have hc' : c = z ∨ c = TI ∨ c = TO ∨ c = i1 ∨ c = i2 := by simpa using hc
        obtain ⟨o1, e1, _⟩ := h1
        obtain ⟨o2, e2, _⟩ := h2
        rcases hc' with rfl | rfl | rfl | rfl | rfl
        · exact ⟨_, hz, trivial⟩
        · exact ⟨_, hTI, trivial⟩
        · exact ⟨_, hTO, trivial⟩
        · exact ⟨_, e1, trivial⟩
        · exact ⟨_, e2, trivial⟩
      rw [upd_ne (Nat.ne_of_lt (Heap.lt_size e))]
      exact (hf c hc).1
  done := by
    intro X hP hw hK hc i pins s σ H E I hf st hg
    subst hP hw hK
    obtain ⟨xs, ys, hq1, hq2, hend⟩ := hg
    obtain ⟨its, rv, p1, hz1⟩ := I.list hq1
    obtain ⟨its2, rv2, p2, hz2⟩ := I.list hq2
    obtain ⟨hz, hTI, ⟨ta, tb, hTO⟩, h1, h2⟩ := st
    have l1 := rv.length
    have l2 := rv2.length
    refine wpAny_pyNext_zip_end (I.ok.hd hc) D hz hTI hTO h1 h2 p1.isList p2.isList ?_ fun h' hk => ⟨rfl, I.turnedAll (t' := s.toks) (ch := [z, TI, TO, i1, i2]) (fun c o hc e => ?_) hf⟩
    · rcases hend with q | q
      · exact .inl (by simp; omega)
      · exact .inr (by simp; omega)
    · simp only [List.mem_cons, List.not_mem_nil, or_false, not_or] at hc
      exact hk c o hc.1 hc.2.2.1 hc.2.2.2.1 hc.2.2.2.2 e
  self := fun _ _ _ _ _ st h => wpAny_pyIter_zip st.1 h
section
variable {X : Cx} {elts : List Expr} {kk : Nat} {tpos : Pos}
def iZip (K : PySem.W.Frag) (ta : TA) : TI := fun σ H R => ta σ H fun vs H1 => ∃ a b, vs = [.ref a, .ref b] ∧ (∃ xs, SqL K H1 a xs) ∧ (∃ ys, SqL K H1 b ys) ∧ R (Itz K a b) H1
theorem pi_zip {e1 e2 : Expr} {ta : TA} {p pos : Pos} (hg : Gl X "zip") (hm : X.mg "zip" = none) (ha : PA X [e1, e2] ta)
    (hs : starEach [e1, e2] X.env = [(false, eval e1 X.env), (false, eval e2 X.env)] := by rfl) (hs2 : starEach [e2] X.env = [(false, eval e2 X.env)] := by rfl) : PI X (.Tuple elts kk tpos) (.Call (.Name "zip" p) [e1, e2] [] pos) (iZip X.K ta) := by
  intro pins s σ H R I h
  refine Call_ (ld_blt I hg hm Boot.«zip» (PyProof.Rows.callWith_type1 (thn (ha pos pins s σ H _ I h) fun us s1 ⟨vs, H1, I1, r1, q1⟩ => ?_) (by rw [hs, hs2]) (by rw [hs2]; rfl)))
  obtain ⟨a, b, e, ⟨xs, hx⟩, ⟨ys, hy⟩, q⟩ := q1
  subst e
  cases r1 with
  | cons r rr =>
    cases rr with
    | cons r' rr =>
      cases rr
      cases r
      cases r'
      obtain ⟨its, rv, p1, hz1⟩ := I1.list hx
      obtain ⟨its2, rv2, p2, hz2⟩ := I1.list hy
      have l1 : a < s1.heap.objs.size := by obtain ⟨_, e, _⟩ := p1.isList; exact Heap.lt_size e
      have l2 : b < s1.heap.objs.size := by obtain ⟨_, e, _⟩ := p2.isList; exact Heap.lt_size e
      refine call_zip_2 p1.isList p2.isList fun h' hz hTI hTO hi1 hi2 hsz hk => ?_
      refine wpAny_pyIter_zip hz ?_
      refine ⟨s1.heap.objs.size + 4, [s1.heap.objs.size + 4, s1.heap.objs.size + 2, s1.heap.objs.size + 3, s1.heap.objs.size, s1.heap.objs.size + 1], _, _, H1, rfl, I1.kept (t' := s1.toks) hk, turn_zip a b _ _ _ _ _ (zipApart_new l1 l2), ⟨hz, hTI, ⟨_, _, hTO⟩, hi1, hi2⟩, fun c hc => ?_, q⟩
      have hc' : s1.heap.objs.size ≤ c := by
        simp only [List.mem_cons, List.not_mem_nil, or_false] at hc
        rcases hc with e | e | e | e | e <;> rw [e] <;> first | exact Nat.le_refl _ | exact Nat.le_add_right _ _
      exact I1.fpOk hc' (I1.hok.fresh hc')
end
/-- over the pairs of two lists that the body leaves as they are -/
theorem for_zip {K : PySem.W.Frag} {a b : Addr} {xs ys : List V} {g : TG} {tb : TS} {D : Ends} {σ : St} {H : Hp} (Pv : Nat → St → Hp → Prop) (h0 : Pv 0 σ H) (hl : ∀ i σ H, i ≤ min xs.length ys.length → Pv i σ H → SqL K H a xs ∧ SqL K H b ys)
    (hs : ∀ i x y σ H p, xs[i]? = some x → ys[i]? = some y → Pv i σ H → H p = none → g (.ref p) σ (upd H p (.tup [x, y])) fun σ2 H2 => tb { D with nx := Pv (i + 1), ct := Pv (i + 1), bk := D.nx } σ2 H2)
    (hd : ∀ σ H, Pv (min xs.length ys.length) σ H → D.nx σ H) :
    ∃ W : Nat → Nat → St → Hp → Prop, (∃ m, W 0 m σ H) ∧ ∀ i m σ H, W i m σ H →
      ((Itz K a b).stop i H ∧ D.nx σ H) ∨ ((Itz K a b).go i H ∧ ∃ N : St → Hp → Prop, (∀ σ' H', N σ' H' → ∃ m', m' < m ∧ W (i + 1) m' σ' H') ∧ ∀ x H', (Itz K a b).yld i H x H' → g x σ H' fun σ2 H2 => tb { D with nx := N, ct := N, bk := D.nx } σ2 H2) := by
  refine ⟨fun i m σ H => m = min xs.length ys.length - i ∧ i ≤ min xs.length ys.length ∧ Pv i σ H, ⟨min xs.length ys.length, by simp, Nat.zero_le _, h0⟩, ?_⟩
  rintro i m σ H ⟨rfl, hi, p⟩
  obtain ⟨q1, q2⟩ := hl i σ H hi p
  by_cases hlt : i < min xs.length ys.length
  · have h1 : i < xs.length := by omega
    have h2 : i < ys.length := by omega
    refine .inr ⟨⟨xs, ys, xs[i], ys[i], q1, q2, by simp [h1], by simp [h2]⟩, Pv (i + 1), fun σ' H' p' => ⟨min xs.length ys.length - (i + 1), by omega, rfl, hlt, p'⟩, fun v H' y => ?_⟩
    obtain ⟨t, rfl, ht, y⟩ := y
    have e := y xs ys xs[i] ys[i] q1 q2 (by simp [h1]) (by simp [h2])
    subst e
    exact hs i xs[i] ys[i] σ H t (by simp [h1]) (by simp [h2]) p ht
  · have e : i = min xs.length ys.length := by omega
    subst e
    exact .inl ⟨⟨xs, ys, q1, q2, by omega⟩, hd σ H p⟩
end L2
namespace L2
open PySem PySem.Spec PyProof.Rows
theorem ObjOk.there {P : Program} {w : World} {H : Hp} {h : Heap} {a : Addr} {o : HO} (x : ObjOk P w H h a o) : ∃ ob, h.get? a = some ob := by
  cases o with
  | lst xs => obtain ⟨_, _, _, _, e⟩ := x; exact ⟨_, e⟩
  | tup xs => obtain ⟨_, _, _, _, e, _⟩ := x; exact ⟨_, e⟩
  | dK kvs => obtain ⟨_, _, _, _, o, _, _, e, _⟩ := x; exact ⟨_, e⟩
  | dT kvs => obtain ⟨_, _, _, _, o, _, _, e, _⟩ := x; exact ⟨_, e⟩
  | set S n => obtain ⟨o, _, _, _, e, _⟩ := x; exact ⟨_, e⟩
  | ins C dx fs => obtain ⟨_, _, _, e, _⟩ := x; exact ⟨_, e⟩
  | own y => exact x
  | xd fs => obtain ⟨_, ⟨_, _, _, e, _⟩, _⟩ := x; exact ⟨_, e⟩
  | rng lo hi => obtain ⟨_, _, _, e⟩ := x; exact ⟨_, e⟩
  | frz ob u => obtain ⟨e, _⟩ := x; exact ⟨_, e⟩
  | tbl ps => exact ⟨_, (show h.get? a = some _ from x)⟩
  | met f y => exact ⟨_, (show h.get? a = some _ from x)⟩
  | ext φ => obtain ⟨_, e, _⟩ := x; exact e
theorem HOk.there {P : Program} {w : World} {H : Hp} {h : Heap} {a : Addr} {o : HO} (x : HOk P w H h) (e : H a = some o) : ∃ ob, h.get? a = some ob := (x a o e).there
theorem HOk.untracked {P : Program} {w : World} {H : Hp} {h : Heap} {a : Addr} (x : HOk P w H h) (e : h.get? a = none) : H a = none := by
  cases q : H a with
  | none => rfl
  | some u =>
    obtain ⟨ob, z⟩ := x.there q
    rw [e] at z
    cases z
/-- an own error class of the text, under ValueError -/
structure ExcCls (K : PySem.W.Frag) (mg : Str → Option Value) (x : Str) (C : Addr) : Prop where
  m : mg x = some (.ref C)
  ex : PySem.W.excIn K C [.type "ValueError", .type "Exception", .type "BaseException", .type "object"] "ValueError.__new__" = true
/-- how an exception lies behind a call: B is what of the state stands as it stood -/
def CXe (P : Program) (w : World) : CXT := fun outer H s E e s' => ∃ (ea : Addr) (cls a0 : Value) (H' : Hp) (B : Heap),
  e = .ref ea ∧ s'.os = s.os ∧ AllBare s'.gens ∧ Un (frs outer) [] H H' s.heap s'.heap ∧ HOk P w H' s'.heap ∧ Heap.FlyingW B outer ea cls a0 s'.heap ∧
  (∀ b o, s'.heap.get? b = some o → b ∉ frs outer → (H' b ≠ none ∨ s.heap.get? b ≠ none) → B.get? b = some o) ∧ H' ea = none ∧ s.heap.get? ea = none ∧ E cls none H'
/-- an exception made here reaches what is wanted of it -/
def Throws (X : Cx) (C : Addr) (R : Hp → Prop) : Prop :=
  ∀ (pins : List (Addr × Obj)) (σ : St) (H : Hp) (s : Shared) (h' : Heap) (ea : Addr) (vs : List Value), Inv X pins σ H s → Heap.MadeExcOf s.heap h' ea (.ref C) vs → R H → X.xe (.ref ea) { s with heap := h' }
theorem exc_obj {K : PySem.W.Frag} {h : Heap} {C : Addr} {bmB : List Value} {newId : String} (X : K.In h) (q : PySem.W.excIn K C bmB newId = true) :
    ∃ bm N nm q bs hdct sn sub ab col dd k0 k1 k2 k3 k5 mN, h.get? C = some (excClassObj nm q C N bs bm hdct sn sub ab col dd k0 k1 k2 k3 k5 newId) ∧ h.Ns N mN ∧ mN "__init__" = none ∧ OwnTail h bmB bm := by
  unfold PySem.W.excIn at q
  split at q
  · rename_i dd cd sl ho
    split at q
    · rename_i C' bm k0 k1 k2 k3 n k5 hm hs
      simp only [Bool.and_eq_true, beq_iff_eq, Bool.not_eq_true'] at q
      obtain ⟨⟨⟨⟨⟨rfl, rfl⟩, hdel⟩, ht⟩, hok⟩, hni⟩ := q
      obtain ⟨nm, bs, mro, ns, qn, hd, sn, sub, ab, col, del⟩ := cd
      dsimp only at hm hdel hok hni
      subst hm hdel
      have hsl : sl = #[k0, k1, k2, k3, some (.builtin n), k5] := by
        obtain ⟨l⟩ := sl
        simp only at hs
        rw [hs]
      subst hsl
      exact ⟨bm, ns, nm, qn, bs, hd, sn, sub, ab, col, dd, k0, k1, k2, k3, k5, _, X _ _ ho, .of_isNs (PySem.W.isNs_of_in X hok), PySem.W.nsMap_none_of_in X hok hni, PySem.W.tail_of_in X ht⟩
    · cases q
  · cases q
section
variable {X : Cx}
def tRaise (te : TE) (R : Hp → Prop) : TS := fun _ σ H => te σ H fun v H1 => ([v] : List V).length = 1 ∧ R H1
/-- raise C(e) -/
theorem ps_raise {x : Str} {C : Addr} {R : Hp → Prop} {e : Expr} {te : TE} {np cpos pos : Pos} (c : ExcCls X.K X.mg x C) (hg : Gl X x) (hcalm : X.calm = true) (he : PE X e te) (ht : Throws X C R)
    (hs : starEach [e] X.env = [(false, eval e X.env)] := by rfl) (hdb : (x == ("__debug__" : Str)) = false := by decide) :
    PS X (.Raise (some (.Call (.Name x np) [e] [] cpos)) none pos) (tRaise te R) := by
  intro pins s σ H D I h
  obtain ⟨bm, N, nm, q, bs, hdct, sn, sub, ab, col, dd, k0, k1, k2, k3, k5, mN, hC, hN, hni, T⟩ := exc_obj I.ok.mod.kin c.ex
  refine wpAny_Raise_call_subT (C := C) (nm := nm) (q := q) (N := N) (bs := bs) (bm := bm) (hdct := hdct) (sn := sn) (sub := sub) (ab := ab) (col := col) (dd := dd) (k0 := k0) (k1 := k1) (k2 := k2) (k3 := k3) (k5 := k5)
    PySem.F.excBase_ValueError (mN := mN) (T.hasType PySem.F.excBase_ValueError.hasBase) (I.ok.hd hcalm) (by rw [hs]; rfl) hni (ld_glob I hg c.m ⟨rfl, ?_⟩ hdb)
  have hA : PA X [e] (tCons te tNil) := pa_cons he pa_nil hs
  have h1 := hA cpos pins s σ H (fun vs H1 => vs.length = 1 ∧ R H1) I h
  rw [hs] at h1 ⊢
  refine Calls.evalArgs_plain (wpAny_mono h1 (fun vs s2 h2 => ?_) fun _ _ y => y)
  obtain ⟨ws, H1, I1, rv, hl, q1⟩ := h2
  refine ⟨rfl, ?_, I1.bk _ _ hC, hN.keeps I1.bk, T.keeps I1.bk, fun h' ea hm => ht pins σ H1 s2 h' ea vs I1 hm q1⟩
  show vs.length ≤ sizeLine
  rw [← rv.length, hl]
  decide
end
/-- the body of a def: its exceptions lie as CXe says -/
theorem throws_of {P : Program} {w : World} {K : PySem.W.Frag} {mg : Str → Option Value} {base : Heap} {N : List Str} {qual : Str} {scope : Scope} {f : Addr} {cdv : Value} {A : Around} {outer : List Env} {s : Shared} {H : Hp} {E : XK} {C : Addr} :
    Throws (cxOf (CXe P w) P w K mg base N qual scope f cdv A outer s H E) C (fun H1 => E (.ref C) none H1) := by
  intro pins σ H1 s2 h' ea vs I hm he
  have fr : (A.deeper (envOfC qual scope s.heap.objs.size f cdv)).frames = some (envOfC qual scope s.heap.objs.size f cdv :: outer) := I.ok.frames
  have hin : ∀ env ∈ (envOfC qual scope s.heap.objs.size f cdv :: outer), ∀ b, env.frame = some b → b ∈ frs (envOfC qual scope s.heap.objs.size f cdv :: outer) := fun env he b hb => List.mem_filterMap.mpr ⟨env, he, hb⟩
  have hfs : ∀ b, b ∈ frs (envOfC qual scope s.heap.objs.size f cdv :: outer) → b = s.heap.objs.size ∨ b ∈ frs outer := fun b hb => by
    obtain ⟨env, he, hf⟩ := List.mem_filterMap.mp hb
    rcases List.mem_cons.mp he with rfl | he
    · exact .inl (Option.some.inj hf).symm
    · exact .inr (List.mem_filterMap.mpr ⟨env, he, hf⟩)
  -- what is not a frame stands in B
  have inB : ∀ b o, s2.heap.get? b = some o → b ∉ frs outer → b ≠ s.heap.objs.size → (PySem.W.hideAll s2.heap (frs (envOfC qual scope s.heap.objs.size f cdv :: outer))).get? b = some o := fun b o e n1 n2 =>
    PySem.W.hideAll_get _ e fun z => (hfs b z).elim n2 n1
  have old : ∀ b o, s.heap.get? b = some o → b ≠ s.heap.objs.size := fun b o e => Nat.ne_of_lt (Heap.lt_size e)
  show wpAny _ _ (leaving _ _) _ _ _
  refine wpAny_leaves_madeW fr rfl (base := PySem.W.hideAll s2.heap (frs (envOfC qual scope s.heap.objs.size f cdv :: outer))) (fun b o q => PySem.W.of_hideAll _ q) (PySem.W.funFrames_hide I.stack hin) hm fun h'' t fl _ _ sm => ?_
  have k2 : ∀ b o, s2.heap.get? b = some o → b ∉ frs outer → b ≠ s.heap.objs.size → h''.get? b = some o := fun b o e n1 n2 => fl.1 b o (inB b o e n1 n2)
  have ksl : ∀ b o, s2.heap.get? b = some o → b ∈ frs outer → ∃ sl, h''.get? b = some { o with slots := sl } := fun b o e hb => by
    obtain ⟨_, o', ho', hd⟩ := I.funs.mem hb
    rw [e] at ho'
    cases ho'
    exact sm b o (hm.keeps b o e) hd
  have trk : ∀ b u, H1 b = some u → b ∉ frs outer ∧ b ≠ s.heap.objs.size := fun b u e => by
    refine ⟨fun z => ?_, fun z => ?_⟩
    · have := I.stkFree b (List.mem_filterMap.mpr (by
        obtain ⟨env, he, hf⟩ := List.mem_filterMap.mp z
        exact ⟨env, List.mem_cons_of_mem _ he, hf⟩))
      rw [this] at e
      cases e
    · have z' : H1 s.heap.objs.size = none := I.free
      rw [z, z'] at e
      cases e
  have nx : ∀ b, b ∉ ([] : List Addr) := fun b => by simp
  refine ⟨ea, .ref C, .ref t, H1, PySem.W.hideAll s2.heap (frs (envOfC qual scope s.heap.objs.size f cdv :: outer)), rfl, I.os, I.bare, ⟨fun b o e n hb _ => ?_, fun b o e n hb _ => ?_, fun b o e n hx => I.base.free b o e n hx, fun b o e hx => ?_, I.base.tups, I.base.frzs, I.base.tbls⟩, fun b u e => ?_, fl, fun b o e nb hh => ?_, I.hok.untracked hm.new, ?_, he⟩
  · exact k2 b o (I.base.keep b o e n hb (nx b)) hb (old b o e)
  · obtain ⟨sl, e1⟩ := I.base.slot b o e n hb (nx b)
    obtain ⟨sl', e2⟩ := ksl b _ e1 hb
    exact ⟨sl', e2⟩
  · obtain ⟨o', e1⟩ := I.base.there b o e hx
    by_cases hb : b ∈ frs outer
    · obtain ⟨sl, e2⟩ := ksl b o' e1 hb
      exact ⟨_, e2⟩
    · exact ⟨o', k2 b o' e1 hb (old b o e)⟩
  · refine (I.hok b u e).stay (fun c v hc q => ?_) (fun _ q => q) fun _ _ q => q
    rcases hc with z | z
    · subst z
      exact k2 c v q (trk c u e).1 (trk c u e).2
    · exact k2 c v q (trk c _ z).1 (trk c _ z).2
  · have e2 : (∃ o2, s2.heap.get? b = some o2) ∧ b ≠ s.heap.objs.size := by
      rcases hh with z | z
      · cases q : H1 b with
        | none => exact absurd q z
        | some u => exact ⟨I.hok.there q, (trk b u q).2⟩
      · cases q : s.heap.get? b with
        | none => exact absurd q z
        | some o1 => exact ⟨I.base.there b o1 q (nx b), old b o1 q⟩
    obtain ⟨⟨o2, e2⟩, nL⟩ := e2
    have e3 := k2 b o2 e2 nb nL
    rw [e] at e3
    cases e3
    exact inB b _ e2 nb nL
  · cases q : s.heap.get? ea with
    | none => rfl
    | some o =>
      obtain ⟨o', e1⟩ := I.base.there ea o q (nx ea)
      rw [hm.new] at e1
      cases e1
end L2
namespace L2
open PySem PySem.Spec PyProof.Rows
/-- within the suite of an except -/
abbrev Cx.marked (X : Cx) (ea : Addr) : Cx := { X with A := X.A.mark (some (.ref ea)), calm := false, xe := fun _ _ => False }
section
variable {X : Cx} {pins : List (Addr × Obj)} {σ : St} {H : Hp} {s : Shared} {ea : Addr}
theorem Inv.marked (I : Inv X pins σ H s) (ea : Addr) : Inv (X.marked ea) pins σ H s :=
  ⟨⟨I.ok.mod, I.ok.kind, I.ok.glob, I.ok.blt, I.ok.above, I.ok.inj, I.ok.has, I.ok.cab, fun h => absurd (show false = true from h) Bool.false_ne_true, I.ok.frames, I.ok.stk, I.ok.exf, I.ok.bs, I.ok.bsz, I.ok.noex, I.ok.exfs, I.ok.funs, I.ok.frf⟩,
    I.os, I.bare, I.base, I.loc, I.cell, I.free, I.freeC, I.pin, I.hok, I.len⟩
theorem Inv.unmarked (I : Inv (X.marked ea) pins σ H s) (hd : X.calm = true → X.A.handled = none) : Inv X pins σ H s :=
  ⟨⟨I.ok.mod, I.ok.kind, I.ok.glob, I.ok.blt, I.ok.above, I.ok.inj, I.ok.has, I.ok.cab, hd, I.ok.frames, I.ok.stk, I.ok.exf, I.ok.bs, I.ok.bsz, I.ok.noex, I.ok.exfs, I.ok.funs, I.ok.frf⟩,
    I.os, I.bare, I.base, I.loc, I.cell, I.free, I.freeC, I.pin, I.hok, I.len⟩
/-- the state behind the landing of an exception that a callee raised -/
theorem cxe_back {H1 H2 : Hp} {s1 s' : Shared} {cls a0 : Value} {B h5 : Heap} (I1 : Inv X pins σ H1 s1) (os : s'.os = s1.os) (bare : AllBare s'.gens) (un : Un (frs X.stack) [] H1 H2 s1.heap s'.heap) (hok : HOk X.prog X.w H2 s'.heap)
    (fl : Heap.FlyingW B X.stack ea cls a0 h5) (cov : ∀ b o, s'.heap.get? b = some o → b ∉ frs X.stack → (H2 b ≠ none ∨ s1.heap.get? b ≠ none) → B.get? b = some o) (sm : s'.heap.UpToSlots h5) : Inv X pins σ H2 { s' with heap := h5 } := by
  have nx : ∀ b, b ∉ ([] : List Addr) := fun b => by simp
  have k5 : ∀ b o, s'.heap.get? b = some o → b ∉ frs X.stack → (H2 b ≠ none ∨ s1.heap.get? b ≠ none) → h5.get? b = some o := fun b o e n1 n2 => fl.1 b o (cov b o e n1 n2)
  have slt : ∀ b o, s1.heap.get? b = some o → b ∈ frs X.stack → ∃ sl, h5.get? b = some { o with slots := sl } := fun b o e hb => by
    obtain ⟨_, o', ho', hd⟩ := I1.stack.mem hb
    rw [e] at ho'
    cases ho'
    obtain ⟨sl, e1⟩ := un.slot b o e (I1.stkFree b hb) hb (nx b)
    obtain ⟨sl', e2⟩ := sm b _ e1 hd
    exact ⟨sl', e2⟩
  have fr2 : ∀ b u, H2 b = some u → b ∉ frs X.stack := fun b u e hb => by
    obtain ⟨_, o', ho', hd⟩ := I1.stack.mem hb
    rw [un.free b o' ho' (I1.stkFree b hb) (nx b)] at e
    cases e
  refine I1.call' (s' := { s' with heap := h5 }) (ch := []) os ⟨fun b o e n hb _ => ?_, fun b o e n hb _ => slt b o e hb, un.free, fun b o e hx => ?_, un.tups, un.frzs, un.tbls⟩ (fun b u e => ?_) bare fun b hb => absurd hb (nx b)
  · exact k5 b o (un.keep b o e n hb (nx b)) hb (.inr (by rw [e]; simp))
  · by_cases hb : b ∈ frs X.stack
    · obtain ⟨sl, z⟩ := slt b o e hb
      exact ⟨_, z⟩
    · obtain ⟨o', e1⟩ := un.there b o e hx
      exact ⟨o', k5 b o' e1 hb (.inr (by rw [e]; simp))⟩
  · refine (hok b u e).stay (fun c v hc q => ?_) (fun _ q => q) fun _ _ q => q
    rcases hc with z | z
    · subst z
      exact k5 c v q (fr2 c u e) (.inl (by rw [e]; simp))
    · exact k5 c v q (fr2 c _ z) (.inl (by rw [z]; simp))
/-- an exception of the class cls stands there -/
def ExcAt (p : Addr) (cls : Value) (h : Heap) : Prop := ∃ o, h.get? p = some o ∧ o.cls = cls
end
end L2
namespace L2
open PySem PySem.Spec PySem.W PySem.Calls PyProof.Rows
/-- what isinstance asks of an own error class -/
structure ExcKit (K : Frag) (C : Addr) : Prop where
  ga : findIn K (.ref C) "__getattribute__" = some (some (.builtin "BaseException.__getattribute__"))
  gx : findIn K (.ref C) "__getattr__" = some none
  cl : findIn K (.ref C) "__class__" = some (some (.builtin "object.__class__"))
  mo : mroIn K C (.type "object") = some true
  mb : mroIn K C (.type "BaseException") = some true
section
variable {prog : Program} {w : World} {A : Around} {E : Value → Shared → Prop} {h : Heap} {g : Array GenState} {d : Drawn} {t : Nat} {os : OsState} {a C : Addr} {o : Obj} {K : Frag}
open Builtin Builtin.ObjectAttr Builtin.Getset_descriptor in
end
section
variable {X : Cx}
/-- isinstance of an exception that was caught -/
def rIsiX (K : Frag) : List V → Hp → VK → Prop := fun xs H Q => ∃ p c cv C b, xs = [.ref p, c] ∧ RelV c cv ∧ H p = some (.ext (ExcAt p (.ref C))) ∧ ExcKit K C ∧ kitOne K (.ref C) cv = some b ∧ Q (.bl b) H
end
end L2
namespace L2
open PySem PySem.Spec PyProof.Rows
/-- try: f(..) / except C as n: suite; what the suite leaves, without n -/
def tTry (K : PySem.W.Frag) (Ch : Value) (i : Nat) (sp : Sp) (t : TA) (ts : TS) : TS := fun D σ H => t σ H fun vs H1 => sp vs H1 (fun _ H2 => D.nx σ H2)
  (fun cls _ H2 => (∃ C, cls = .ref C) ∧ PySem.W.exmOne K cls Ch = some true ∧ ∀ ea, H2 ea = none → ts { nx := fun σ' H' => D.nx (σ'.set i none) H', rt := fun _ _ => False } (σ.set i (some (.ref ea))) (upd H2 ea (.ext (ExcAt ea cls))))
section
variable {X : Cx} {k : Nat} {f : Addr} {fd : FuncData} {ps : List Str} {sp : Sp} {x c n : Str} {p cpos epos np hpos pos : Pos} {e : Expr} {es : List Expr} {t : TA} {b₀ : Stmt} {suite : List Stmt} {ts : TS} {i : Nat} {Ch : Value}
end
/-- THE RULE for a def that may raise -/
theorem Fun.okE {P : Program} {w : World} {K : PySem.W.Frag} {mg : Str → Option Value} {base : Heap} {x qual : Str} {st : Stmt} {f : Addr} {fd : FuncData} {N ps : List Str} {k : Nat} {sp : Sp} (F : Fun K x qual st f fd) (S : FnScope N ps (defScope st)) (len : ∀ vs H Q E, sp vs H Q E → vs.length = ps.length)
    (hbody : ∀ (cdv : Value) (A : Around) (outer : List Env) (s : Shared) (H : Hp) (vs : List V) (Q : VK) (E : XK), Room k (A.deeper (envOfC qual (defScope st) s.heap.objs.size f cdv)) → sp vs H Q E →
      ∃ t, PSs (cxOf (CXe P w) P w K mg base N qual (defScope st) f cdv A outer s H E) (defBody st) t ∧ t { nx := fun _ H' => Q .non H', rt := Q } (start N vs) H) : FnOk P w K mg base (CXe P w) (k + 1) f fd ps sp := by
  obtain ⟨oc, od, kV, doc, pm, an, cdv, ct, osl, rfl, lk, hcd⟩ := F.ex
  exact fn_of lk hcd S len fun A outer s H vs Q E hr hsp => hbody cdv A outer s H vs Q E hr hsp
end L2
namespace L2
open PySem PySem.Spec PyProof.Rows
section
variable {X : Cx}
theorem ints_get {its : List Value} {ns : List Int} (i : IntsAre its ns) : ∀ (j : Nat) v, its[j]? = some v → ∃ t, v = Value.int (ns.getD j 0) t := by
  induction i with
  | nil => intro j v h; simp at h
  | cons n t i ih =>
    intro j v h
    cases j with
    | zero => simp at h; exact ⟨t, h.symm⟩
    | succ j =>
      obtain ⟨t', e⟩ := ih j v (by simpa using h)
      exact ⟨t', by simpa using e⟩
/-- sum(xs), xs a list of numbers -/
theorem call_sum (hc : X.calm = true) : CallR X (.builtin "sum") (fun xs H Q => ∃ (p : Addr) (ns : List Int), xs = [.ref p] ∧ SqL X.K H p (ns.map V.int) ∧ Q (.int ns.sum) H) := by
  intro pins s σ H xs us Q I r h
  obtain ⟨p, ns, rfl, hp, q⟩ := h
  obtain ⟨u, rfl, ru⟩ := vals1 r
  cases ru
  obtain ⟨its, rv, pl, _⟩ := I.list hp
  have i1 : IntsAre its ns := intsAre_of rv
  have lp : p < s.heap.objs.size := by obtain ⟨_, e, _⟩ := pl.isList; exact Heap.lt_size e
  refine call_sum_walkG (wpAny_pyIter_list pl.isList ?_)
  refine ⟨s.heap.objs.size, _, _, _, _, _, fun j => ns.getD j 0, rfl, Walks.list (A := X.A.in1) (I.ok.hd hc) s.heap.objs.size p (Nat.ne_of_lt lp) its.toArray, ⟨⟨_, Heap.get?_push_size _ rfl, rfl, rfl⟩, pl.isList.at fun o e => Heap.get?_push_of_some _ e⟩, fun b hb => ?_, fun j v hj => ints_get i1 j v (by simpa using hj), fun h' tk t' kk => ?_⟩
  · have hb' : b = s.heap.objs.size ∨ b = p := by simpa using hb
    rcases hb' with rfl | rfl
    · rw [Heap.size_push]; exact Nat.lt_succ_self _
    · rw [Heap.size_push]; exact Nat.lt_succ_of_lt lp
  · refine ⟨.int ns.sum, H, I.kept (t' := tk) fun b o e => kk b o (fun z => ?_) (Heap.get?_push_of_some _ e), ⟨t', ?_⟩, q⟩
    · have z' : b = s.heap.objs.size := by simpa using z
      exact absurd (Heap.lt_size e) (by rw [z']; exact Nat.lt_irrefl _)
    · have l1 : its.toArray.size = ns.length := by rw [List.size_toArray]; exact i1.length
      rw [preSum_getD, l1, List.take_of_length_le (Nat.le_refl _)]
end
/-- a callee that raises nothing here -/
theorem passE {P : Program} {w : World} {X : Cx} : Passes (CXe P w) X E0 := fun _ _ _ _ _ _ _ h => by
  obtain ⟨_, _, _, _, _, _, _, _, _, _, _, _, _, _, z⟩ := h
  exact z.elim
end L2
namespace L2
open PySem PySem.Spec PyProof.Rows
section
variable {X : Cx}
def rLeS : R2 := fun x y H Q => ∃ i j, x = .str i ∧ y = .str j ∧ Q (.bl (!decide (j.cps.toList < i.cps.toList))) H
/-- z[i:j] of a text -/
def rSlS : V → Option Int → Option Int → Hp → VK → Prop := fun x lo hi H Q => ∃ z i j, x = .str z ∧ lo = some i ∧ hi = some j ∧ z.length ≤ sizeLine ∧ Q (.str (Txt.slice z (some i) (some j))) H
end
def MonE (t : TE) : Prop := ∀ σ H Q Q', (∀ v H1, Q v H1 → Q' v H1) → t σ H Q → t σ H Q'
def MonT (t : TT) : Prop := ∀ σ H Q Q', (∀ b H1, Q b H1 → Q' b H1) → t σ H Q → t σ H Q'
def MonA (t : TA) : Prop := ∀ σ H Q Q', (∀ v H1, Q v H1 → Q' v H1) → t σ H Q → t σ H Q'
def MonR (r : R2) : Prop := ∀ x y H Q Q', (∀ v H1, Q v H1 → Q' v H1) → r x y H Q → r x y H Q'
def MonS (sp : Sp) : Prop := ∀ vs H Q Q' E, (∀ v H1, Q v H1 → Q' v H1) → sp vs H Q E → sp vs H Q' E
def MonB (r : List V → Hp → VK → Prop) : Prop := ∀ xs H Q Q', (∀ v H1, Q v H1 → Q' v H1) → r xs H Q → r xs H Q'
end L2
namespace L2
open PySem PySem.Spec PyProof.Rows
inductive Dt where
  | non | int (i : Int) | str (x : Str) | tup (ds : List Dt)
mutual
def Dt.beq : Dt → Dt → Bool
  | .non, .non => true
  | .int i, .int j => i == j
  | .str x, .str y => x == y
  | .tup a, .tup b => Dt.beqs a b
  | _, _ => false
def Dt.beqs : List Dt → List Dt → Bool
  | [], [] => true
  | x :: xs, y :: ys => Dt.beq x y && Dt.beqs xs ys
  | _, _ => false
end
mutual
def Dt.hgt : Dt → Nat
  | .tup ds => Dt.hgts ds + 1
  | _ => 0
def Dt.hgts : List Dt → Nat
  | [] => 0
  | d :: r => max (Dt.hgt d) (Dt.hgts r)
end
mutual
def DatAt (K : PySem.W.Frag) (H : Hp) : V → Dt → Prop
  | v, .non => v = .non
  | v, .int i => v = .int i
  | v, .str x => v = .str x
  | v, .tup ds => ∃ r vs, v = .ref r ∧ SqT K H r vs ∧ DatsAt K H vs ds
def DatsAt (K : PySem.W.Frag) (H : Hp) : List V → List Dt → Prop
  | [], [] => True
  | v :: vs, d :: ds => DatAt K H v d ∧ DatsAt K H vs ds
  | _, _ => False
end
mutual
theorem Dt.beq_iff : ∀ (x y : Dt), Dt.beq x y = true ↔ x = y
  | .non, y => by cases y <;> simp [Dt.beq]
  | .int i, y => by cases y <;> simp [Dt.beq]
  | .str i, y => by cases y <;> simp [Dt.beq]
  | .tup a, y => by
    cases y with
    | tup b =>
      have := Dt.beqs_iff a b
      simp [Dt.beq, this]
    | _ => simp [Dt.beq]
theorem Dt.beqs_iff : ∀ (x y : List Dt), Dt.beqs x y = true ↔ x = y
  | [], y => by cases y <;> simp [Dt.beqs]
  | a :: r, y => by
    cases y with
    | nil => simp [Dt.beqs]
    | cons b t =>
      have h1 := Dt.beq_iff a b
      have h2 := Dt.beqs_iff r t
      simp [Dt.beqs, h1, h2]
end
theorem Dt.beq_self (x : Dt) : Dt.beq x x = true := (Dt.beq_iff x x).mpr rfl
theorem Dt.beq_ne {x y : Dt} (h : x ≠ y) : Dt.beq x y = false := by
  cases e : Dt.beq x y with
  | false => rfl
  | true => exact absurd ((Dt.beq_iff x y).mp e) h
theorem Dt.beqs_ne {x y : List Dt} (h : x ≠ y) : Dt.beqs x y = false := by
  cases e : Dt.beqs x y with
  | false => rfl
  | true => exact absurd ((Dt.beqs_iff x y).mp e) h
theorem Dt.hgt_mem : ∀ {ds : List Dt} {d : Dt}, d ∈ ds → d.hgt ≤ Dt.hgts ds
  | e :: r, d, h => by
    have e1 : Dt.hgts (e :: r) = max (Dt.hgt e) (Dt.hgts r) := by simp [Dt.hgts]
    rw [e1]
    rcases List.mem_cons.mp h with z | z
    · rw [z]; omega
    · have := Dt.hgt_mem z
      omega
section
variable {K : PySem.W.Frag} {H H' : Hp}
theorem DatAt.non : DatAt K H .non .non := by simp [DatAt]
theorem DatAt.int (i : Int) : DatAt K H (.int i) (.int i) := by simp [DatAt]
theorem DatAt.str (i : Str) : DatAt K H (.str i) (.str i) := by simp [DatAt]
theorem DatAt.tup {r : Addr} {vs : List V} {ds : List Dt} (h : SqT K H r vs) (k : DatsAt K H vs ds) : DatAt K H (.ref r) (.tup ds) := by
  simp only [DatAt]
  exact ⟨r, vs, rfl, h, k⟩
theorem DatsAt.nil : DatsAt K H [] [] := by simp [DatsAt]
theorem DatsAt.cons {v : V} {d : Dt} {vs : List V} {ds : List Dt} (h : DatAt K H v d) (k : DatsAt K H vs ds) : DatsAt K H (v :: vs) (d :: ds) := by
  simp only [DatsAt]
  exact ⟨h, k⟩
theorem DatAt.un {v : V} {ds : List Dt} (h : DatAt K H v (.tup ds)) : ∃ r vs, v = .ref r ∧ SqT K H r vs ∧ DatsAt K H vs ds := by
  simp only [DatAt] at h
  exact h
theorem DatsAt.un {vs : List V} {d : Dt} {ds : List Dt} (h : DatsAt K H vs (d :: ds)) : ∃ v r, vs = v :: r ∧ DatAt K H v d ∧ DatsAt K H r ds := by
  cases vs with
  | nil => simp [DatsAt] at h
  | cons v r =>
    simp only [DatsAt] at h
    exact ⟨v, r, rfl, h.1, h.2⟩
theorem DatsAt.un0 {vs : List V} (h : DatsAt K H vs []) : vs = [] := by
  cases vs with
  | nil => rfl
  | cons v r => simp [DatsAt] at h
mutual
theorem DatAt.same (e : Same H H') : ∀ {v : V} {d : Dt}, DatAt K H v d → DatAt K H' v d
  | v, .non, h => by simpa [DatAt] using h
  | v, .int i, h => by simpa [DatAt] using h
  | v, .str i, h => by simpa [DatAt] using h
  | v, .tup ds, h => by
    obtain ⟨r, vs, rfl, h1, h2⟩ := h.un
    exact .tup (e.tup h1) (DatsAt.same e h2)
theorem DatsAt.same (e : Same H H') : ∀ {vs : List V} {ds : List Dt}, DatsAt K H vs ds → DatsAt K H' vs ds
  | vs, [], h => by
    rw [h.un0]
    exact .nil
  | vs, d :: ds, h => by
    obtain ⟨v, r, rfl, h1, h2⟩ := h.un
    exact .cons (DatAt.same e h1) (DatsAt.same e h2)
end
theorem DatsAt.length : ∀ {vs : List V} {ds : List Dt}, DatsAt K H vs ds → vs.length = ds.length
  | vs, [], h => by rw [h.un0]; rfl
  | vs, d :: ds, h => by
    obtain ⟨v, r, rfl, _, h2⟩ := h.un
    simp [DatsAt.length h2]
theorem DatsAt.get : ∀ {vs : List V} {ds : List Dt} {i : Nat} {d : Dt}, DatsAt K H vs ds → ds[i]? = some d → ∃ v, vs[i]? = some v ∧ DatAt K H v d
  | vs, [], i, d, h, e => by simp at e
  | vs, c :: ds, i, d, h, e => by
    obtain ⟨v, r, rfl, h1, h2⟩ := h.un
    cases i with
    | zero =>
      have e' : c = d := by simpa using e
      subst e'
      exact ⟨v, rfl, h1⟩
    | succ i =>
      obtain ⟨u, e1, e2⟩ := DatsAt.get (i := i) (d := d) h2 (by simpa using e)
      exact ⟨u, by simpa using e1, e2⟩
theorem DatsAt.get' {vs : List V} {ds : List Dt} {i : Nat} {v : V} (h : DatsAt K H vs ds) (e : vs[i]? = some v) : ∃ d, ds[i]? = some d ∧ DatAt K H v d := by
  have hl := h.length
  have hi : i < ds.length := by
    have := (List.getElem?_eq_some_iff.mp e).1
    omega
  obtain ⟨u, e1, e2⟩ := h.get (List.getElem?_eq_getElem hi)
  rw [e] at e1
  cases e1
  exact ⟨_, List.getElem?_eq_getElem hi, e2⟩
theorem DatsAt.append : ∀ {vs ws : List V} {ds es : List Dt}, DatsAt K H vs ds → DatsAt K H ws es → DatsAt K H (vs ++ ws) (ds ++ es)
  | vs, ws, [], es, h, k => by
    rw [h.un0]
    exact k
  | vs, ws, d :: ds, es, h, k => by
    obtain ⟨v, r, rfl, h1, h2⟩ := h.un
    exact .cons h1 (DatsAt.append h2 k)
theorem DatsAt.take : ∀ {vs : List V} {ds : List Dt} (n : Nat), DatsAt K H vs ds → DatsAt K H (vs.take n) (ds.take n)
  | vs, ds, 0, _ => .nil
  | vs, [], n + 1, h => by
    rw [h.un0]
    exact .nil
  | vs, d :: ds, n + 1, h => by
    obtain ⟨v, r, rfl, h1, h2⟩ := h.un
    exact .cons h1 (DatsAt.take n h2)
theorem DatsAt.drop : ∀ {vs : List V} {ds : List Dt} (n : Nat), DatsAt K H vs ds → DatsAt K H (vs.drop n) (ds.drop n)
  | vs, ds, 0, h => h
  | vs, [], n + 1, h => by
    rw [h.un0]
    exact .nil
  | vs, d :: ds, n + 1, h => by
    obtain ⟨v, r, rfl, h1, h2⟩ := h.un
    exact DatsAt.drop n h2
end
theorem Dt.all_beqs : ∀ (a b : List Dt), ((List.range (min a.length b.length)).all (fun j => Dt.beq (a.getD j .non) (b.getD j .non)) && a.length == b.length) = Dt.beqs a b
  | [], [] => by simp [Dt.beqs]
  | [], _ :: _ => by simp [Dt.beqs]
  | _ :: _, [] => by simp [Dt.beqs]
  | x :: a, y :: b => by
    have ih := Dt.all_beqs a b
    have e : min (x :: a).length (y :: b).length = min a.length b.length + 1 := by simp
    rw [e, List.range_succ_eq_map]
    simp only [List.all_cons, List.all_map, Dt.beqs, List.length_cons]
    rw [← ih, Bool.and_assoc]
    congr 1
    congr 1
    rw [Bool.eq_iff_iff]
    simp
section
variable {X : Cx} {pins : List (Addr × Obj)} {σ : St} {H : Hp} {s : Shared}
mutual
theorem DatAt.inj (I : Inv X pins σ H s) : ∀ {v : V} {d e : Dt}, DatAt X.K H v d → DatAt X.K H v e → d = e
  | v, .non, e, h, k => by
    have h' : v = .non := by simpa [DatAt] using h
    subst h'
    cases e <;> simp [DatAt] at k ⊢
  | v, .int i, e, h, k => by
    have h' : v = .int i := by simpa [DatAt] using h
    subst h'
    cases e <;> simp [DatAt] at k ⊢
    exact k
  | v, .str i, e, h, k => by
    have h' : v = .str i := by simpa [DatAt] using h
    subst h'
    cases e <;> simp [DatAt] at k ⊢
    exact k
  | v, .tup ds, e, h, k => by
    obtain ⟨r, vs, rfl, h1, h2⟩ := h.un
    cases e with
    | tup es =>
      obtain ⟨r', ws, e', k1, k2⟩ := k.un
      cases e'
      have := I.tuple_inj h1 k1
      subst this
      rw [DatsAt.inj I h2 k2]
    | _ => simp [DatAt] at k
theorem DatsAt.inj (I : Inv X pins σ H s) : ∀ {vs : List V} {ds es : List Dt}, DatsAt X.K H vs ds → DatsAt X.K H vs es → ds = es
  | vs, [], es, h, k => by
    have := h.un0
    subst this
    cases es with
    | nil => rfl
    | cons _ _ => simp [DatsAt] at k
  | vs, d :: ds, es, h, k => by
    obtain ⟨v, r, rfl, h1, h2⟩ := h.un
    cases es with
    | nil => simp [DatsAt] at k
    | cons e es =>
      simp only [DatsAt] at k
      rw [DatAt.inj I h1 k.1, DatsAt.inj I h2 k.2]
end
theorem getD_of {α : Type} {xs : List α} {i : Nat} {x d : α} (h : xs[i]? = some x) : xs.getD i d = x := by
  rw [List.getD_eq_getElem?_getD, h]
  rfl
/-- what is told of the items -/
theorem items_eq {A : Around} {vs ws : List V} {ds es : List Dt} {its its2 : List Value} (h : DatsAt X.K H vs ds) (k : DatsAt X.K H ws es) (r1 : Vals vs its) (r2 : Vals ws its2)
    (ih : ∀ (d e : Dt) (x y : V) (u v : Value), d ∈ ds → DatAt X.K H x d → DatAt X.K H y e → RelV x u → RelV y v → SeqAt.EqAt A s u v (Dt.beq d e)) (j : Nat) (h1 : j < its.toArray.size) (h2 : j < its2.toArray.size) :
    SeqAt.EqAt A s its.toArray[j] its2.toArray[j] (Dt.beq (ds.getD j .non) (es.getD j .non)) := by
  have l1 := r1.length
  have l2 := r2.length
  have m1 := h.length
  have m2 := k.length
  rw [List.size_toArray] at h1 h2
  have g1 : ds[j]? = some ds[j] := List.getElem?_eq_getElem (by omega)
  have g2 : es[j]? = some es[j] := List.getElem?_eq_getElem (by omega)
  obtain ⟨x, ex, hx⟩ := h.get g1
  obtain ⟨y, ey, hy⟩ := k.get g2
  obtain ⟨u, eu, ru⟩ := r1.get ex
  obtain ⟨v, ev, rv⟩ := r2.get ey
  have f1 : its.toArray[j] = u := by
    have := (List.getElem?_eq_some_iff.mp eu).2
    simpa using this
  have f2 : its2.toArray[j] = v := by
    have := (List.getElem?_eq_some_iff.mp ev).2
    simpa using this
  rw [f1, f2, getD_of g1, getD_of g2]
  exact ih _ _ x y u v (List.getElem_mem _) hx hy ru rv
theorem tuple_all {vs ws : List V} {ds es : List Dt} {its its2 : List Value} (h : DatsAt X.K H vs ds) (k : DatsAt X.K H ws es) (r1 : Vals vs its) (r2 : Vals ws its2) :
    ((List.range (min its.toArray.size its2.toArray.size)).all (fun j => Dt.beq (ds.getD j .non) (es.getD j .non)) && its.toArray.size == its2.toArray.size) = Dt.beqs ds es := by
  have l1 := r1.length
  have l2 := r2.length
  have m1 := h.length
  have m2 := k.length
  rw [← Dt.all_beqs, List.size_toArray, List.size_toArray, ← l1, ← l2, m1, m2]
theorem eqAt_dat (I : Inv X pins σ H s) : ∀ (n : Nat) (A : Around) (d e : Dt) (x y : V) (u v : Value), d.hgt ≤ n → A.units + n < cLine → DatAt X.K H x d → DatAt X.K H y e → RelV x u → RelV y v → SeqAt.EqAt A s u v (Dt.beq d e) := by
  intro n
  induction n with
  | zero => 
    intro A d e x y u v hd hu hx hy ru rv
    have hu' : A.units < cLine := by omega
    cases d with
    | non =>
      have hx' : x = .non := by simpa [DatAt] using hx
      subst hx'
      cases (show u = Value.none from ru)
      cases e with
      | non =>
        have hy' : y = .non := by simpa [DatAt] using hy
        subst hy'
        cases (show v = Value.none from rv)
        exact SeqAt.EqAt.same _
      | int j =>
        have hy' : y = .int j := by simpa [DatAt] using hy
        subst hy'
        obtain ⟨t, rfl⟩ := (show ∃ t, v = Value.int j t from rv)
        exact SeqAt.EqAt.none_int _ _
      | str j =>
        have hy' : y = .str j := by simpa [DatAt] using hy
        subst hy'
        obtain ⟨t, rfl⟩ := (show ∃ t, v = Value.str j t from rv)
        exact SeqAt.EqAt.none_str _ _
      | tup es =>
        obtain ⟨r, ws, rfl, k1, k2⟩ := hy.un
        cases (show v = Value.ref r from rv)
        obtain ⟨its, _, p, _⟩ := I.tuple k1
        exact SeqAt.EqAt.none_tuple p hu'
    | int i =>
      have hx' : x = .int i := by simpa [DatAt] using hx
      subst hx'
      obtain ⟨t, rfl⟩ := (show ∃ t, u = Value.int i t from ru)
      cases e with
      | non =>
        have hy' : y = .non := by simpa [DatAt] using hy
        subst hy'
        cases (show v = Value.none from rv)
        exact SeqAt.EqAt.int_none _ _
      | int j =>
        have hy' : y = .int j := by simpa [DatAt] using hy
        subst hy'
        obtain ⟨t, rfl⟩ := (show ∃ t, v = Value.int j t from rv)
        exact SeqAt.EqAt.int_int _ _ _ _
      | str j =>
        have hy' : y = .str j := by simpa [DatAt] using hy
        subst hy'
        obtain ⟨t, rfl⟩ := (show ∃ t, v = Value.str j t from rv)
        exact SeqAt.EqAt.int_str _ _ _ _
      | tup es =>
        obtain ⟨r, ws, rfl, k1, k2⟩ := hy.un
        cases (show v = Value.ref r from rv)
        obtain ⟨its, _, p, _⟩ := I.tuple k1
        exact SeqAt.EqAt.int_tuple _ _ p hu'
    | str i =>
      have hx' : x = .str i := by simpa [DatAt] using hx
      subst hx'
      obtain ⟨t, rfl⟩ := (show ∃ t, u = Value.str i t from ru)
      cases e with
      | non =>
        have hy' : y = .non := by simpa [DatAt] using hy
        subst hy'
        cases (show v = Value.none from rv)
        exact SeqAt.EqAt.str_none _ _
      | int j =>
        have hy' : y = .int j := by simpa [DatAt] using hy
        subst hy'
        obtain ⟨t, rfl⟩ := (show ∃ t, v = Value.int j t from rv)
        exact SeqAt.EqAt.str_int _ _ _ _
      | str j =>
        have hy' : y = .str j := by simpa [DatAt] using hy
        subst hy'
        obtain ⟨t, rfl⟩ := (show ∃ t, v = Value.str j t from rv)
        exact SeqAt.EqAt.str_str _ _ _ _
      | tup es =>
        obtain ⟨r, ws, rfl, k1, k2⟩ := hy.un
        cases (show v = Value.ref r from rv)
        obtain ⟨its, _, p, _⟩ := I.tuple k1
        exact SeqAt.EqAt.str_tuple _ _ p hu'
    | tup ds => simp [Dt.hgt] at hd
  | succ n ih =>
    intro A d e x y u v hd hu hx hy ru rv
    have hu' : A.units < cLine := by omega
    by_cases hflat : d.hgt ≤ n
    · exact ih A d e x y u v hflat (by omega) hx hy ru rv
    · cases d with
      | tup ds =>
        have hds : Dt.hgts ds ≤ n := by simpa [Dt.hgt] using hd
        obtain ⟨a, vs, rfl, h1, h2⟩ := hx.un
        cases (show u = Value.ref a from ru)
        obtain ⟨its, r1, p1, _⟩ := I.tuple h1
        cases e with
        | non =>
          have hy' : y = .non := by simpa [DatAt] using hy
          subst hy'
          cases (show v = Value.none from rv)
          exact SeqAt.EqAt.tuple_none p1 hu'
        | int j =>
          have hy' : y = .int j := by simpa [DatAt] using hy
          subst hy'
          obtain ⟨t, rfl⟩ := (show ∃ t, v = Value.int j t from rv)
          exact SeqAt.EqAt.tuple_int _ _ p1 hu'
        | str j =>
          have hy' : y = .str j := by simpa [DatAt] using hy
          subst hy'
          obtain ⟨t, rfl⟩ := (show ∃ t, v = Value.str j t from rv)
          exact SeqAt.EqAt.tuple_str _ _ p1 hu'
        | tup es =>
          obtain ⟨b, ws, rfl, k1, k2⟩ := hy.un
          cases (show v = Value.ref b from rv)
          obtain ⟨its2, r2, p2, _⟩ := I.tuple k1
          by_cases hab : a = b
          · subst hab
            have e1 : Dt.tup ds = Dt.tup es := DatAt.inj I hx hy
            rw [e1, Dt.beq_self]
            exact SeqAt.EqAt.same _
          · have e2 : Dt.beq (.tup ds) (.tup es) = Dt.beqs ds es := by simp [Dt.beq]
            rw [e2, ← tuple_all h2 k2 r1 r2]
            refine SeqAt.EqAt.of_refs hab (SeqAt.RcAt.tuples p1 p2 hu' fun j j1 j2 => items_eq h2 k2 r1 r2 (fun d e x y u v hm q1 q2 q3 q4 => ?_) j j1 j2)
            exact ih A.in1 d e x y u v (Nat.le_trans (Dt.hgt_mem hm) hds) (by show A.units + 1 + n < cLine; omega) q1 q2 q3 q4
      | _ => exact absurd (Nat.zero_le n) (by simpa [Dt.hgt] using hflat)
/-- the rule of a comparison of data, at the top -/
def rEqD (K : PySem.W.Frag) : R2 := fun x y H Q => ∃ d e, DatAt K H x d ∧ DatAt K H y e ∧ d.hgt ≤ 30 ∧ Q (.bl (Dt.beq d e)) H
def rNeD (K : PySem.W.Frag) : R2 := fun x y H Q => ∃ d e, DatAt K H x d ∧ DatAt K H y e ∧ d.hgt ≤ 30 ∧ Q (.bl (!Dt.beq d e)) H
theorem op_eqD (hu : X.A.units + 64 < cLine) : OpR X (compareOp .Eq) (rEqD X.K) := by
  intro pins s σ H x y u v Q I ru rv h
  obtain ⟨d, e, hx, hy, hd, q⟩ := h
  have hu' : X.A.units < cLine := by omega
  have fin : ∀ {k : Bool}, SeqAt.RcAt X.A s u v k → k = Dt.beq d e → wpAny (model X.prog X.w) X.A (compareOp .Eq u v) (EP X pins σ Q) X.xe s := fun {k} r ek => by
    subst ek
    exact r _ _ _ _ (fin_bl I q rfl)
  cases d with
  | non =>
    have hx' : x = .non := by simpa [DatAt] using hx
    subst hx'
    cases (show u = Value.none from ru)
    cases e with
    | non =>
      have hy' : y = .non := by simpa [DatAt] using hy
      subst hy'
      cases (show v = Value.none from rv)
      exact fin SeqAt.RcAt.none_none rfl
    | int j =>
      have hy' : y = .int j := by simpa [DatAt] using hy
      subst hy'
      obtain ⟨t, rfl⟩ := (show ∃ t, v = Value.int j t from rv)
      exact fin (SeqAt.RcAt.none_int _ _) rfl
    | str j =>
      have hy' : y = .str j := by simpa [DatAt] using hy
      subst hy'
      obtain ⟨t, rfl⟩ := (show ∃ t, v = Value.str j t from rv)
      exact fin (SeqAt.RcAt.none_str _ _) rfl
    | tup es =>
      obtain ⟨r, ws, rfl, k1, k2⟩ := hy.un
      cases (show v = Value.ref r from rv)
      obtain ⟨its, _, p, _⟩ := I.tuple k1
      exact fin (SeqAt.RcAt.none_tuple p hu') rfl
  | int i =>
    have hx' : x = .int i := by simpa [DatAt] using hx
    subst hx'
    obtain ⟨t, rfl⟩ := (show ∃ t, u = Value.int i t from ru)
    cases e with
    | non =>
      have hy' : y = .non := by simpa [DatAt] using hy
      subst hy'
      cases (show v = Value.none from rv)
      exact fin (SeqAt.RcAt.int_none _ _) rfl
    | int j =>
      have hy' : y = .int j := by simpa [DatAt] using hy
      subst hy'
      obtain ⟨t, rfl⟩ := (show ∃ t, v = Value.int j t from rv)
      exact fin (SeqAt.RcAt.int_int _ _ _ _) rfl
    | str j =>
      have hy' : y = .str j := by simpa [DatAt] using hy
      subst hy'
      obtain ⟨t, rfl⟩ := (show ∃ t, v = Value.str j t from rv)
      exact fin (SeqAt.RcAt.int_str _ _ _ _) rfl
    | tup es =>
      obtain ⟨r, ws, rfl, k1, k2⟩ := hy.un
      cases (show v = Value.ref r from rv)
      obtain ⟨its, _, p, _⟩ := I.tuple k1
      exact fin (SeqAt.RcAt.int_tuple _ _ p hu') rfl
  | str i =>
    have hx' : x = .str i := by simpa [DatAt] using hx
    subst hx'
    obtain ⟨t, rfl⟩ := (show ∃ t, u = Value.str i t from ru)
    cases e with
    | non =>
      have hy' : y = .non := by simpa [DatAt] using hy
      subst hy'
      cases (show v = Value.none from rv)
      exact fin (SeqAt.RcAt.str_none _ _) rfl
    | int j =>
      have hy' : y = .int j := by simpa [DatAt] using hy
      subst hy'
      obtain ⟨t, rfl⟩ := (show ∃ t, v = Value.int j t from rv)
      exact fin (SeqAt.RcAt.str_int _ _ _ _) rfl
    | str j =>
      have hy' : y = .str j := by simpa [DatAt] using hy
      subst hy'
      obtain ⟨t, rfl⟩ := (show ∃ t, v = Value.str j t from rv)
      exact fin (SeqAt.RcAt.str_str _ _ _ _) rfl
    | tup es =>
      obtain ⟨r, ws, rfl, k1, k2⟩ := hy.un
      cases (show v = Value.ref r from rv)
      obtain ⟨its, _, p, _⟩ := I.tuple k1
      exact fin (SeqAt.RcAt.str_tuple _ _ p hu') rfl
  | tup ds =>
    obtain ⟨a, vs, rfl, h1, h2⟩ := hx.un
    cases (show u = Value.ref a from ru)
    obtain ⟨its, r1, p1, _⟩ := I.tuple h1
    cases e with
    | non =>
      have hy' : y = .non := by simpa [DatAt] using hy
      subst hy'
      cases (show v = Value.none from rv)
      exact fin (SeqAt.RcAt.tuple_none p1 hu') rfl
    | int j =>
      have hy' : y = .int j := by simpa [DatAt] using hy
      subst hy'
      obtain ⟨t, rfl⟩ := (show ∃ t, v = Value.int j t from rv)
      exact fin (SeqAt.RcAt.tuple_int _ _ p1 hu') rfl
    | str j =>
      have hy' : y = .str j := by simpa [DatAt] using hy
      subst hy'
      obtain ⟨t, rfl⟩ := (show ∃ t, v = Value.str j t from rv)
      exact fin (SeqAt.RcAt.tuple_str _ _ p1 hu') rfl
    | tup es =>
      obtain ⟨b, ws, rfl, k1, k2⟩ := hy.un
      cases (show v = Value.ref b from rv)
      obtain ⟨its2, r2, p2, _⟩ := I.tuple k1
      refine fin (SeqAt.RcAt.tuples p1 p2 hu' fun j j1 j2 => items_eq h2 k2 r1 r2 (fun d e x y u v hm q1 q2 q3 q4 => ?_) j j1 j2) ((tuple_all h2 k2 r1 r2).trans (by simp [Dt.beq]))
      exact eqAt_dat I 30 X.A.in1 d e x y u v (Nat.le_trans (Dt.hgt_mem hm) (by simp [Dt.hgt] at hd; omega)) (by show X.A.units + 1 + 30 < cLine; omega) q1 q2 q3 q4
theorem op_neD (hu : X.A.units + 64 < cLine) : OpR X (compareOp .NotEq) (rNeD X.K) := by
  intro pins s σ H x y u v Q I ru rv h
  obtain ⟨d, e, hx, hy, hd, q⟩ := h
  have hu' : X.A.units < cLine := by omega
  have fin : ∀ {k : Bool}, SeqAt.RcNeAt X.A s u v k → k = !Dt.beq d e → wpAny (model X.prog X.w) X.A (compareOp .NotEq u v) (EP X pins σ Q) X.xe s := fun {k} r ek => by
    subst ek
    exact r _ _ _ _ (fin_bl I q rfl)
  cases d with
  | non =>
    have hx' : x = .non := by simpa [DatAt] using hx
    subst hx'
    cases (show u = Value.none from ru)
    cases e with
    | non =>
      have hy' : y = .non := by simpa [DatAt] using hy
      subst hy'
      cases (show v = Value.none from rv)
      exact fin SeqAt.RcNeAt.none_none rfl
    | int j =>
      have hy' : y = .int j := by simpa [DatAt] using hy
      subst hy'
      obtain ⟨t, rfl⟩ := (show ∃ t, v = Value.int j t from rv)
      exact fin (SeqAt.RcNeAt.none_int _ _) rfl
    | str j =>
      have hy' : y = .str j := by simpa [DatAt] using hy
      subst hy'
      obtain ⟨t, rfl⟩ := (show ∃ t, v = Value.str j t from rv)
      exact fin (SeqAt.RcNeAt.none_str _ _) rfl
    | tup es =>
      obtain ⟨r, ws, rfl, k1, k2⟩ := hy.un
      cases (show v = Value.ref r from rv)
      obtain ⟨its, _, p, _⟩ := I.tuple k1
      exact fin (SeqAt.RcNeAt.none_tuple p hu') rfl
  | int i =>
    have hx' : x = .int i := by simpa [DatAt] using hx
    subst hx'
    obtain ⟨t, rfl⟩ := (show ∃ t, u = Value.int i t from ru)
    cases e with
    | non =>
      have hy' : y = .non := by simpa [DatAt] using hy
      subst hy'
      cases (show v = Value.none from rv)
      exact fin (SeqAt.RcNeAt.int_none _ _) rfl
    | int j =>
      have hy' : y = .int j := by simpa [DatAt] using hy
      subst hy'
      obtain ⟨t, rfl⟩ := (show ∃ t, v = Value.int j t from rv)
      exact fin (SeqAt.RcNeAt.int_int _ _ _ _) rfl
    | str j =>
      have hy' : y = .str j := by simpa [DatAt] using hy
      subst hy'
      obtain ⟨t, rfl⟩ := (show ∃ t, v = Value.str j t from rv)
      exact fin (SeqAt.RcNeAt.int_str _ _ _ _) rfl
    | tup es =>
      obtain ⟨r, ws, rfl, k1, k2⟩ := hy.un
      cases (show v = Value.ref r from rv)
      obtain ⟨its, _, p, _⟩ := I.tuple k1
      exact fin (SeqAt.RcNeAt.int_tuple _ _ p hu') rfl
  | str i =>
    have hx' : x = .str i := by simpa [DatAt] using hx
    subst hx'
    obtain ⟨t, rfl⟩ := (show ∃ t, u = Value.str i t from ru)
    cases e with
    | non =>
      have hy' : y = .non := by simpa [DatAt] using hy
      subst hy'
      cases (show v = Value.none from rv)
      exact fin (SeqAt.RcNeAt.str_none _ _) rfl
    | int j =>
      have hy' : y = .int j := by simpa [DatAt] using hy
      subst hy'
      obtain ⟨t, rfl⟩ := (show ∃ t, v = Value.int j t from rv)
      exact fin (SeqAt.RcNeAt.str_int _ _ _ _) rfl
    | str j =>
      have hy' : y = .str j := by simpa [DatAt] using hy
      subst hy'
      obtain ⟨t, rfl⟩ := (show ∃ t, v = Value.str j t from rv)
      exact fin (SeqAt.RcNeAt.str_str _ _ _ _) rfl
    | tup es =>
      obtain ⟨r, ws, rfl, k1, k2⟩ := hy.un
      cases (show v = Value.ref r from rv)
      obtain ⟨its, _, p, _⟩ := I.tuple k1
      exact fin (SeqAt.RcNeAt.str_tuple _ _ p hu') rfl
  | tup ds =>
    obtain ⟨a, vs, rfl, h1, h2⟩ := hx.un
    cases (show u = Value.ref a from ru)
    obtain ⟨its, r1, p1, _⟩ := I.tuple h1
    cases e with
    | non =>
      have hy' : y = .non := by simpa [DatAt] using hy
      subst hy'
      cases (show v = Value.none from rv)
      exact fin (SeqAt.RcNeAt.tuple_none p1 hu') rfl
    | int j =>
      have hy' : y = .int j := by simpa [DatAt] using hy
      subst hy'
      obtain ⟨t, rfl⟩ := (show ∃ t, v = Value.int j t from rv)
      exact fin (SeqAt.RcNeAt.tuple_int _ _ p1 hu') rfl
    | str j =>
      have hy' : y = .str j := by simpa [DatAt] using hy
      subst hy'
      obtain ⟨t, rfl⟩ := (show ∃ t, v = Value.str j t from rv)
      exact fin (SeqAt.RcNeAt.tuple_str _ _ p1 hu') rfl
    | tup es =>
      obtain ⟨b, ws, rfl, k1, k2⟩ := hy.un
      cases (show v = Value.ref b from rv)
      obtain ⟨its2, r2, p2, _⟩ := I.tuple k1
      refine fin (SeqAt.RcNeAt.tuples p1 p2 hu' fun j j1 j2 => items_eq h2 k2 r1 r2 (fun d e x y u v hm q1 q2 q3 q4 => ?_) j j1 j2) (congrArg not ((tuple_all h2 k2 r1 r2).trans (by simp [Dt.beq])))
      exact eqAt_dat I 30 X.A.in1 d e x y u v (Nat.le_trans (Dt.hgt_mem hm) (by simp [Dt.hgt] at hd; omega)) (by show X.A.units + 1 + 30 < cLine; omega) q1 q2 q3 q4
theorem list_all {vs ws : List V} {ds es : List Dt} {its its2 : List Value} (h : DatsAt X.K H vs ds) (k : DatsAt X.K H ws es) (r1 : Vals vs its) (r2 : Vals ws its2) (hsz : its.toArray.size = its2.toArray.size) :
    (List.range its.toArray.size).all (fun j => Dt.beq (ds.getD j .non) (es.getD j .non)) = Dt.beqs ds es := by
  have e := tuple_all h k r1 r2
  rw [hsz, Nat.min_self, beq_self_eq_true, Bool.and_true] at e
  rw [hsz]
  exact e
theorem list_len {vs ws : List V} {ds es : List Dt} {its its2 : List Value} (h : DatsAt X.K H vs ds) (k : DatsAt X.K H ws es) (r1 : Vals vs its) (r2 : Vals ws its2) (hsz : its.toArray.size ≠ its2.toArray.size) : Dt.beqs ds es = false := by
  refine Dt.beqs_ne fun z => hsz ?_
  have l1 := r1.length
  have l2 := r2.length
  have m1 := h.length
  have m2 := k.length
  rw [z] at m1
  rw [List.size_toArray, List.size_toArray]
  omega
/-- == and != of two lists of data -/
def rEqL (K : PySem.W.Frag) : R2 := fun x y H Q => ∃ a b vs ws ds es, x = .ref a ∧ y = .ref b ∧ SqL K H a vs ∧ SqL K H b ws ∧ DatsAt K H vs ds ∧ DatsAt K H ws es ∧ Dt.hgts ds ≤ 30 ∧ Q (.bl (Dt.beqs ds es)) H
def rNeL (K : PySem.W.Frag) : R2 := fun x y H Q => ∃ a b vs ws ds es, x = .ref a ∧ y = .ref b ∧ SqL K H a vs ∧ SqL K H b ws ∧ DatsAt K H vs ds ∧ DatsAt K H ws es ∧ Dt.hgts ds ≤ 30 ∧ Q (.bl (!Dt.beqs ds es)) H
theorem op_eqL (hu : X.A.units + 64 < cLine) : OpR X (compareOp .Eq) (rEqL X.K) := by
  intro pins s σ H x y u v Q I ru rv h
  obtain ⟨a, b, vs, ws, ds, es, rfl, rfl, ha, hb, h2, k2, hd, q⟩ := h
  have hu' : X.A.units < cLine := by omega
  cases (show u = Value.ref a from ru)
  cases (show v = Value.ref b from rv)
  obtain ⟨its, r1, p1, _⟩ := I.list ha
  obtain ⟨its2, r2, p2, _⟩ := I.list hb
  by_cases hsz : its.toArray.size = its2.toArray.size
  · have r := SeqAt.RcAt.lists p1.isList p2.isList hsz hu' fun j j1 j2 => items_eq h2 k2 r1 r2 (fun d e x y u v hm q1 q2 q3 q4 =>
      eqAt_dat I 30 X.A.in1 d e x y u v (Nat.le_trans (Dt.hgt_mem hm) hd) (by show X.A.units + 1 + 30 < cLine; omega) q1 q2 q3 q4) j j1 j2
    rw [list_all h2 k2 r1 r2 hsz] at r
    exact r _ _ _ _ (fin_bl I q rfl)
  · have r := SeqAt.RcAt.lists_lengths p1.isList p2.isList (by simpa using hsz) hu'
    rw [list_len h2 k2 r1 r2 hsz] at q
    exact r _ _ _ _ (fin_bl I q rfl)
/-- isinstance of a tuple, also of one that stands in the text -/
theorem call_isiT : CallR X (.builtin "isinstance") (fun xs H Q => ∃ a vs n b, xs = [.ref a, .ty n] ∧ SqT X.K H a vs ∧ PySem.W.kitOne X.K (.type "tuple") (.type n) = some b ∧ Q (.bl b) H) := by
  intro pins s σ H xs us Q I r h
  obtain ⟨a, vs, n, b, rfl, ht, e, q⟩ := h
  obtain ⟨u, w', rfl, r1, r2⟩ := vals2 r
  cases (show u = Value.ref a from r1)
  cases (show w' = Value.type n from r2)
  obtain ⟨its, _, ⟨o, h1, h2, _⟩, _⟩ := I.tuple ht
  exact PySem.W.kia_one PySem.W.kitx_tuple I.kIn ⟨o, h1, h2⟩ e (fun z => nomatch z) fun tk => ⟨.bl b, H, I.tok tk, rfl, q⟩
end
end L2
namespace L2
open PySem PySem.Spec PySem.W PyProof.Rows
/-- every question of the tree lies below N, every end of it satisfies P -/
def Tr {α : Type} (N : Nat) (P : α → Prop) : KasT α → Prop
  | .ret a => P a
  | .ask i j k => i < N ∧ j < N ∧ ∀ b, Tr N P (k b)
theorem Tr.bind {α β : Type} {N : Nat} {P : α → Prop} {R : β → Prop} {f : α → KasT β} : ∀ {t : KasT α}, Tr N P t → (∀ a, P a → Tr N R (f a)) → Tr N R (t.bind f)
  | .ret a, h, k => k a h
  | .ask _ _ _, h, k => ⟨h.1, h.2.1, fun b => Tr.bind (h.2.2 b) k⟩
theorem Tr.wp {α : Type} {N : Nat} {P : α → Prop} {cmp : Nat → Nat → (Bool → Shared → Prop) → Shared → Prop} {s : Shared} {Q : α → Shared → Prop} (lt : Nat → Nat → Bool)
    (hc : ∀ i j (C : Bool → Shared → Prop), i < N → j < N → C (lt i j) s → cmp i j C s) (hq : ∀ a, P a → Q a s) : ∀ {t : KasT α}, Tr N P t → t.kasWp cmp Q s
  | .ret a, h => hq a h
  | .ask i j _, h => hc i j _ h.1 h.2.1 (Tr.wp lt hc hq (h.2.2 _))
/-- a row of the places 0, 1, .. N - 1, each once -/
def Pl (N : Nat) (p : Array Nat) : Prop := p.Perm (List.range N).toArray
theorem Pl.below {N : Nat} {p : Array Nat} (hN : 0 < N) (h : Pl N p) (k : Nat) : p.getD k 0 < N := by
  by_cases hk : k < p.size
  · have e : p.getD k 0 = p[k] := by simp [Array.getD, hk]
    have m : p[k] ∈ (List.range N).toArray := h.mem_iff.mp (Array.getElem_mem hk)
    rw [e]
    simpa using m
  · have e : p.getD k 0 = 0 := by simp [Array.getD, hk]
    rw [e]
    exact hN
theorem Pl.rev {N : Nat} {p : Array Nat} (h : Pl N p) (i j : Nat) : Pl N (kas_rev p i j) := (mirror_perm p i j _).trans h
theorem Pl.bub {N : Nat} {p : Array Nat} (h : Pl N p) (i j : Nat) : Pl N (bubble p i j) := (bubble_perm p i j).trans h
section
variable {N : Nat} (hN : 0 < N)
include hN
theorem tr_asc {p : Array Nat} (h : Pl N p) : ∀ f n, Tr N (fun _ => True) (kas_asc p f n)
  | 0, _ => trivial
  | f + 1, n => ⟨h.below hN _, h.below hN _, fun b => by
    cases b with
    | true => exact trivial
    | false => exact tr_asc h f (n + 1)⟩
theorem tr_desc : ∀ f (p : Array Nat) n q, Pl N p → Tr N (fun r => Pl N r.1) (kas_desc f p n q)
  | 0, _, _, _, h => h
  | f + 1, p, n, q, h => ⟨h.below hN _, h.below hN _, fun b => by
    cases b with
    | true =>
      show Tr N _ (if q > 0 then _ else _)
      split
      · exact tr_desc f _ _ _ (h.rev _ _)
      · exact tr_desc f _ _ _ h
    | false =>
      refine ⟨h.below hN _, h.below hN _, fun b => ?_⟩
      cases b with
      | true => exact h
      | false => exact tr_desc f _ _ _ h⟩
theorem tr_tail {p : Array Nat} (h : Pl N p) (n m : Nat) : Tr N (fun r => Pl N r.2) (kas_tail3 n m p) := (tr_asc hN (h.rev _ _) _ _).bind fun _ _ => h.rev _ _
theorem tr_part {p : Array Nat} (h : Pl N p) (n m : Nat) : Tr N (fun r => Pl N r.2) (kas_descPart n m p) := (tr_desc hN _ _ _ _ h).bind fun r hr => by
  split
  · exact tr_tail hN (hr.rev _ _) _ _
  · exact tr_tail hN hr _ _
theorem tr_count {p : Array Nat} (h : Pl N p) (m : Nat) : Tr N (fun r => Pl N r.2) (kas_count m p) := (tr_asc hN h _ _).bind fun n _ => by
  split
  · exact h
  · split
    · refine ⟨h.below hN _, h.below hN _, fun b => ?_⟩
      cases b with
      | true => exact h
      | false => exact tr_part hN (h.rev _ _) _ _
    · exact tr_part hN h _ _
theorem tr_place {p : Array Nat} (h : Pl N p) (k : Nat) : ∀ f l r, Tr N (fun _ => True) (kas_place p k f l r)
  | 0, _, _ => trivial
  | f + 1, l, r => by
    show Tr N _ (if l ≥ r then _ else _)
    split
    · exact trivial
    · refine ⟨h.below hN _, h.below hN _, fun b => ?_⟩
      cases b with
      | true => exact tr_place h k f _ _
      | false => exact tr_place h k f _ _
theorem tr_bin : ∀ f (p : Array Nat) k, Pl N p → Tr N (Pl N) (kas_bin f p k)
  | 0, _, _, h => h
  | f + 1, p, k, h => (tr_place hN h k _ _ _).bind fun _ _ => tr_bin f _ _ (h.bub _ _)
theorem tr_sort : Tr N (Pl N) (kas_sort N) := (tr_count hN (show Pl N _ from Array.Perm.refl _) N).bind fun r hr => by
  split
  · exact tr_bin hN _ _ _ hr
  · exact hr
end
section
variable {prog : Program} {w : World} {A : Around} {E : Value → Shared → Prop} {s : Shared}
/-- the list at a is sorted where it stands; all else stays -/
theorem lsort {a : Addr} {us : List Value} {n : Nat} {R : PySem.Fin → Shared → Prop} (stands : s.heap.get? a = some (seqObj "list" us.toArray n)) (few : us.length < 64) (lt : Nat → Nat → Bool) (κ : SortKind)
    (kind : ∀ z : Shared, (∀ b o, b ≠ a → s.heap.get? b = some o → z.heap.get? b = some o) → 2 ≤ us.length → ∀ Q : SortKind → Shared → Prop, Q κ z → wpAny (model prog w) A (keyKind' us.toArray) Q (fun _ _ => False) z)
    (ask : ∀ z : Shared, (∀ b o, b ≠ a → s.heap.get? b = some o → z.heap.get? b = some o) → ∀ i j (C : Bool → Shared → Prop), i < us.length → j < us.length → C (lt i j) z → kas_ask prog w A κ us i j C z)
    (done : ∀ (p : Array Nat) (g : Heap) (c : Nat), Pl us.length p → (∀ b o, b ≠ a → s.heap.get? b = some o → g.get? b = some o) → g.get? a = some (seqObj "list" (p.toList.map fun i => us.getD i Value.none).toArray c) →
      R (.done (.ret .none)) { s with heap := g }) : wpAny (model prog w) A (Builtin.«list.sort» ⟨[.ref a], []⟩) R E s := by
  have lta : a < s.heap.objs.size := Heap.lt_size stands
  obtain ⟨c1, st1⟩ : ∃ c1, (s.heap.update a (Obj.mapSeq fun _ => (#[] : Array Value))).get? a = some (seqObj "list" #[] c1) := ⟨_, get?_update_seq stands fun _ => #[]⟩
  generalize hg : ((s.heap.update a (Obj.mapSeq fun _ => (#[] : Array Value))).push (seqObj "tuple" us.toArray 0)).push (seqObj "list" #[] 0) = g1
  have stays : ∀ b o, b ≠ a → s.heap.get? b = some o → g1.get? b = some o := fun b o hb e => by
    rw [← hg]
    exact Heap.get?_push_of_some _ (Heap.get?_push_of_some _ ((Heap.SameBut.update s.heap a _).2 b hb |>.trans e))
  have st2 : g1.get? a = some (seqObj "list" #[] c1) := by
    rw [← hg]
    exact Heap.get?_push_of_some _ (Heap.get?_push_of_some _ st1)
  have ends : ∀ (p : Array Nat), Pl us.length p → ∀ Q : Unit → Shared → Prop, (∀ g c, (∀ b o, b ≠ a → s.heap.get? b = some o → g.get? b = some o) → g.get? a = some (seqObj "list" (p.toList.map fun i => us.getD i Value.none).toArray c) → Q () { s with heap := g }) →
      wpAny (model prog w) A (Builtin.List.listUpdate (.ref a) fun _ => (p.toList.map fun i => us.getD i Value.none).toArray) Q E { s with heap := g1 } := fun p hp Q hQ => by
    refine listUpdate_at (s := { s with heap := g1 }) st2 rfl (hQ _ _ (fun b o hb e => ((Heap.SameBut.update g1 a _).2 b hb).trans (stays b o hb e)) (get?_update_seq st2 fun _ => _)) (Nat.zero_le _) ?_
    have hs : p.size = us.length := by simpa using hp.size_eq
    rw [List.size_toArray, List.length_map, Array.length_toList, hs, sizeLine_eq]
    omega
  rw [list_sort_plain]
  refine wpAny_bind (listItems_at stands rfl ?_)
  refine wpAny_bind (listUpdate_at stands rfl ?_ (by rw [List.size_toArray, sizeLine_eq]; omega) (Nat.zero_le _))
  refine wpAny_bind (seqEpoch_at st1 rfl (wpAny_bind (wpAny_newTuple (wpAny_bind (wpAny_newList ?_ (Nat.zero_le _))) (by show us.length ≤ _; rw [sizeLine_eq]; omega))))
  refine wpAny_holding ?_
  show wpAny (model prog w) A _ R E { s with heap := ((s.heap.update a (Obj.mapSeq fun _ => (#[] : Array Value))).push (seqObj "tuple" us.toArray 0)).push (seqObj "list" #[] 0) }
  rw [hg]
  dsimp only
  by_cases h2 : us.toArray.size < 2
  · rw [if_pos h2, if_pos h2]
    refine wpAny_bind (wpAny_pure ?_)
    rw [StateT.run_pure]
    refine wpAny_bind (wpAny_pure ?_)
    dsimp only
    refine wpAny_bind (seqEpoch_at st2 rfl ?_)
    have e1 : (arrOf (SortSt.mk' general' (us.toArray.zip us.toArray) #[] 7 none)).map (·.2) = ((List.range us.length).toArray.toList.map fun i => us.getD i Value.none).toArray := by
      show (us.toArray.zip us.toArray).map (·.2) = _
      apply Array.toList_inj.mp
      refine List.ext_getElem (by simp) fun i k1 k2 => ?_
      have k3 : i < us.length := by simpa using k1
      simp [List.getD_eq_getElem?_getD, k3]
    rw [e1]
    refine wpAny_bind (ends _ (Array.Perm.refl _) _ fun g c k1 k2 => ?_)
    simp only [bne_self_eq_false, Bool.false_eq_true, if_false]
    exact wpAny_pure (done _ g c (Array.Perm.refl _) k1 k2)
  · rw [if_neg h2, if_neg h2]
    have h2' : 2 ≤ us.length := by rw [List.size_toArray] at h2; omega
    refine wpAny_bind (wpAny_mono (kind { s with heap := g1 } stays h2' (fun k z => k = κ ∧ z = { s with heap := g1 }) ⟨rfl, rfl⟩) (fun k z hk => ?_) fun _ _ x => x.elim)
    obtain ⟨rfl, rfl⟩ := hk
    have tree : (kas_sort us.length).kasWp (kas_ask prog w A k us) (fun p z => Pl us.length p ∧ z = { s with heap := g1 }) { s with heap := g1 } :=
      (tr_sort (by omega)).wp lt (ask { s with heap := g1 } stays) fun p hp => ⟨hp, rfl⟩
    refine wpAny_bind (wpAny_mono (kat_run (E := E) (Q := fun st z => ∃ p : Array Nat, arrOf st = p.map (kas_item (us.toArray.zip us.toArray)) ∧ failedOf st = none ∧ Pl us.length p ∧ z = { s with heap := g1 }) rfl h2' few
      (fun p st z _ q1 q2 q3 => ⟨p, q1, q2, q3⟩) tree) ?_ fun _ _ x => x)
    rintro ⟨⟨⟩, st⟩ z ⟨p, q1, q2, q3, rfl⟩
    dsimp only
    refine wpAny_bind (seqEpoch_at st2 rfl ?_)
    rw [kat_snds rfl q1]
    refine wpAny_bind (ends p q3 _ fun g c k1 k2 => ?_)
    rw [q2]
    simp only [bne_self_eq_false, Bool.false_eq_true, if_false]
    exact wpAny_pure (done p g c q3 k1 k2)
/-- sorted(xs): a new list of the items, in another order -/
theorem sorted_wp {l : Addr} {us : List Value} {R : Value → Shared → Prop} (hl : s.heap.IsList l us.toArray) (few : us.length < 64) (lt : Nat → Nat → Bool) (κ : SortKind)
    (kind : ∀ z : Shared, (∀ b o, s.heap.get? b = some o → z.heap.get? b = some o) → 2 ≤ us.length → ∀ Q : SortKind → Shared → Prop, Q κ z → wpAny (model prog w) A.in1.in1 (keyKind' us.toArray) Q (fun _ _ => False) z)
    (ask : ∀ z : Shared, (∀ b o, s.heap.get? b = some o → z.heap.get? b = some o) → ∀ i j (C : Bool → Shared → Prop), i < us.length → j < us.length → C (lt i j) z → kas_ask prog w A.in1.in1 κ us i j C z)
    (done : ∀ (D : Addr) (p : Array Nat) (g : Heap) (c : Nat), s.heap.objs.size ≤ D → Pl us.length p → (∀ b o, s.heap.get? b = some o → g.get? b = some o) → g.get? D = some (seqObj "list" (p.toList.map fun i => us.getD i Value.none).toArray c) →
      R (.ref D) { s with heap := g }) : wpAny (model prog w) A (call (.builtin "sorted") [.ref l]) R E s := by
  have line : us.length ≤ sizeLine := by rw [sizeLine_eq]; omega
  refine Calls.call_function_entry kind_sorted plain_sorted entry_sorted (args_sorted1 _) ?_
  unfold Builtin.«sorted»
  refine wpAny_bind (m := checkCount "sorted" 1 1 _) (wpAny_pure (wpAny_bind (collect_list hl ?_ line)))
  refine wpAny_bind (wpAny_newList ?_ line)
  have sz1 : ((s.heap.push (seqObj "list" #[] 0)).update s.heap.objs.size (Obj.mapSeq (· ++ us.toArray))).objs.size = s.heap.objs.size + 1 := by
    rw [Heap.size_update]
    exact size_push' _ _
  generalize hg : (s.heap.push (seqObj "list" #[] 0)).update s.heap.objs.size (Obj.mapSeq (· ++ us.toArray)) = g0 at sz1
  have kept : ∀ b o, s.heap.get? b = some o → (g0.push (seqObj "list" us.toArray 0)).get? b = some o := fun b o e => by
    have hb : b < s.heap.objs.size := Heap.lt_size e
    refine Heap.get?_push_of_some _ ?_
    rw [← hg]
    exact ((Heap.SameBut.update _ s.heap.objs.size _).2 b (Nat.ne_of_lt hb)).trans (Heap.get?_push_of_some _ e)
  have stands : (g0.push (seqObj "list" us.toArray 0)).get? (s.heap.objs.size + 1) = some (seqObj "list" us.toArray 0) := by
    rw [← sz1]
    exact Heap.get?_push_size _ rfl
  have off : ∀ b o, s.heap.get? b = some o → b ≠ s.heap.objs.size + 1 := fun b o e => Nat.ne_of_lt (Nat.lt_succ_of_lt (Heap.lt_size e))
  show wpAny _ _ _ _ _ { s with heap := g0.push (seqObj "list" us.toArray 0) }
  rw [sz1]
  refine wpAny_bind (wpAny_holding (wpAny_call_entry slot_list_sort ⟨_, stands, rfl⟩ entry_list_sort ?body (args_list_sort _)))
  case body =>
    refine lsort (s := { s with heap := g0.push (seqObj "list" us.toArray 0) }) stands few lt κ (fun z hz h2 Q q => kind z (fun b o e => hz b o (off b o e) (kept b o e)) h2 Q q) (fun z hz => ask z fun b o e => hz b o (off b o e) (kept b o e)) fun p g c k1 k2 k3 => ?_
    exact ⟨_, rfl, wpAny_pure ⟨_, rfl, done _ p g c (Nat.le_succ _) k1 (fun b o e => k2 b o (off b o e) (kept b o e)) k3⟩⟩
end
end L2
namespace L2
open PySem PySem.Spec PySem.W PyProof.Rows
def pairD (f : Str × Int) : Dt := .tup [.str f.1, .int f.2]
def pairLt (f g : Str × Int) : Bool := if f.1 == g.1 then (if f.2 == g.2 then false else decide (f.2 < g.2)) else decide (f.1.cps.toList < g.1.cps.toList)
section
variable {X : Cx} {pins : List (Addr × Obj)} {σ : L2.St} {H : Hp} {s : Shared}
theorem pair_at (I : Inv X pins σ H s) {v : V} {u : Value} {f : Str × Int} (h : DatAt X.K H v (pairD f)) (r : RelV v u) :
    ∃ a t t' o n, u = Value.ref a ∧ s.heap.get? a = some o ∧ o.cls = .type "tuple" ∧ o.data = .seq #[Value.str f.1 t, Value.int f.2 t'] n := by
  obtain ⟨a, ws, rfl, h1, h2⟩ := h.un
  obtain ⟨v1, r1, rfl, q1, h3⟩ := h2.un
  obtain ⟨v2, r2, rfl, q2, h4⟩ := h3.un
  have e3 := h4.un0
  subst e3
  have e1 : v1 = .str f.1 := by simpa [DatAt] using q1
  have e2 : v2 = .int f.2 := by simpa [DatAt] using q2
  subst e1 e2
  obtain ⟨its, rv, ⟨o, e, c, n, d⟩, _⟩ := I.tuple h1
  cases (show u = Value.ref a from r)
  obtain ⟨x, y, rfl, rx, ry⟩ := vals2 rv
  obtain ⟨t, rfl⟩ := (show ∃ t, x = Value.str f.1 t from rx)
  obtain ⟨t', rfl⟩ := (show ∃ t, y = Value.int f.2 t from ry)
  exact ⟨a, t, t', o, n, rfl, e, c, d⟩
theorem pairs_tups (I : Inv X pins σ H s) {z : Heap} (kept : ∀ b o, s.heap.get? b = some o → z.get? b = some o) : ∀ (ps : List (Str × Int)) (vs : List V) (us : List Value), DatsAt X.K H vs (ps.map pairD) → Vals vs us →
    ∃ fs, KatTups z us fs ∧ fs.length = us.length ∧ ∀ f ∈ fs, ∃ x t, f = Value.str x t
  | [], vs, us, h, r => by
    have e := h.un0
    subst e
    cases r
    exact ⟨[], .nil, rfl, fun f hf => nomatch hf⟩
  | p :: ps, vs, us, h, r => by
    obtain ⟨v, w', rfl, h1, h2⟩ := DatsAt.un (d := pairD p) (ds := ps.map pairD) h
    cases r with
    | cons r1 r2 =>
      obtain ⟨a, t, t', o, n, rfl, e1, e2, e3⟩ := pair_at I h1 r1
      obtain ⟨fs, k1, k2, k3⟩ := pairs_tups I kept ps _ _ h2 r2
      refine ⟨Value.str p.1 t :: fs, .cons (kept _ _ e1) e2 e3 rfl k1, by simp [k2], fun f hf => ?_⟩
      rcases List.mem_cons.mp hf with q | q
      · exact ⟨_, _, q⟩
      · exact k3 f q
theorem call_sortedP : CallR X (.builtin "sorted") (fun xs H Q => ∃ a vs, ∃ ps : List (Str × Int), xs = [.ref a] ∧ SqL X.K H a vs ∧ DatsAt X.K H vs (ps.map pairD) ∧ vs.length < 64 ∧
    ∀ D (p : List Nat), p.Perm (List.range vs.length) → H D = none → Q (.ref D) (upd H D (.lst (p.map fun i => vs.getD i .non)))) := by
  intro pins s σ H xs us Q I r h
  obtain ⟨a, vs, ps, rfl, hl, hd, few, q⟩ := h
  obtain ⟨u, rfl, ru⟩ := vals1 r
  cases (show u = Value.ref a from ru)
  obtain ⟨its, rv, pl, hz⟩ := I.list hl
  have len1 := rv.length
  have len2 := hd.length
  rw [List.length_map] at len2
  refine sorted_wp (lt := fun i j => pairLt (ps.getD i ("", 0)) (ps.getD j ("", 0))) (κ := tuples' ((Value.type "str") != (Value.type "tuple"))) pl.isList (by omega) (fun z kept h2 Q' hq => ?_) (fun z kept i j C hi hj hC => ?_) fun D p g c hD hp kept at_ => ?_
  · obtain ⟨fs, k1, k2, k3⟩ := pairs_tups I kept ps vs its hd rv
    refine kat_kind (T := Value.type "str") k1 (by omega) (fun v hv => ?_) (by decide +kernel) hq
    obtain ⟨x, t, rfl⟩ := k3 v hv
    exact .now
  · have gi : ∀ {k : Nat}, k < its.length → ∃ a t t' o n, its.getD k Value.none = Value.ref a ∧ z.heap.get? a = some o ∧ o.data = .seq #[Value.str (ps.getD k ("", 0)).1 t, Value.int (ps.getD k ("", 0)).2 t'] n := fun {k} hk => by
      have e1 : (ps.map pairD)[k]? = some (pairD (ps.getD k ("", 0))) := by
        have hk' : k < ps.length := by omega
        simp [List.getD_eq_getElem?_getD, hk']
      obtain ⟨v, ev, hv⟩ := hd.get e1
      obtain ⟨u, eu, ru⟩ := rv.get ev
      obtain ⟨a, t, t', o, n, rfl, f1, _, f3⟩ := pair_at I hv ru
      exact ⟨a, t, t', o, n, getD_of eu, kept _ _ f1, f3⟩
    obtain ⟨a1, t1, t1', o1, n1, e1, g1, d1⟩ := gi hi
    obtain ⟨a2, t2, t2', o2, n2, e2, g2, d2⟩ := gi hj
    show wpAny _ _ (keyLt' _ (its.getD i Value.none) (its.getD j Value.none)) C _ z
    rw [e1, e2]
    generalize ps.getD i ("", 0) = f at d1 hC
    generalize ps.getD j ("", 0) = g at d2 hC
    refine kat_lt g1 d1 g2 d2 ?_
    show KatLex _ _ _ _ _ C [(Value.str f.1 t1, Value.str g.1 t2), (Value.int f.2 t1', Value.int g.2 t2')] 0 z
    refine kat_cons (SeqAt.EqAt.str_str _ _ _ _ _ _ _ _ (kat_go (fun b1 => kat_yes ?_) fun b1 => kat_no ?_))
    · refine kat_cons (SeqAt.EqAt.int_int _ _ _ _ _ _ _ _ (kat_go (fun b2 => kat_yes (kat_nil ?_)) fun b2 => kat_no ?_))
      · have e3 : pairLt f g = false := by
          unfold pairLt
          rw [if_pos b1, if_pos b2]
        rw [e3] at hC
        exact hC
      · have e3 : pairLt f g = decide (f.2 < g.2) := by
          unfold pairLt
          rw [if_pos b1, if_neg (by rw [b2]; exact Bool.false_ne_true)]
        rw [e3] at hC
        exact kat_one _ _ (lt_int hC)
    · have e3 : pairLt f g = decide (f.1.cps.toList < g.1.cps.toList) := by
        unfold pairLt
        rw [if_neg (by rw [b1]; exact Bool.false_ne_true)]
      rw [e3] at hC
      exact oneLt_str hC
  · have hp' : p.toList.Perm (List.range vs.length) := by
      have := Array.perm_iff_toList_perm.mp hp
      rw [len1]
      simpa using this
    refine ⟨.ref D, _, I.laid (t' := s.toks) (o := .lst (p.toList.map fun i => vs.getD i .non)) kept hD ?_, rfl, q D p.toList hp' (I.hok.fresh hD)⟩
    refine ⟨?_, _, c, ?_, at_⟩
    · rw [List.length_map, hp'.length_eq, List.length_range]
      exact hz
    · have all : ∀ i ∈ p.toList, i < vs.length := fun i hi => List.mem_range.mp (hp'.mem_iff.mp hi)
      generalize p.toList = l at all
      clear hp hp' at_
      induction l with
      | nil => exact .nil
      | cons i l ih =>
        have hi := all i (List.mem_cons_self ..)
        obtain ⟨u, eu, ru⟩ := rv.get (i := i) (x := vs[i]) (List.getElem?_eq_getElem hi)
        refine .cons ?_ (ih fun k hk => all k (List.mem_cons_of_mem _ hk))
        show RelV (vs.getD i .non) (its.getD i Value.none)
        rw [getD_of eu, getD_of (List.getElem?_eq_getElem hi)]
        exact ru
end
/-- the items of a list, in another order -/
theorem DatsAt.pick {K : PySem.W.Frag} {H : Hp} {vs : List V} {ds : List Dt} {d0 : Dt} (h : DatsAt K H vs ds) : ∀ (l : List Nat), (∀ i ∈ l, i < vs.length) → DatsAt K H (l.map fun i => vs.getD i .non) (l.map fun i => ds.getD i d0)
  | [], _ => .nil
  | i :: l, a => by
    have hi := a i (List.mem_cons_self ..)
    have hl := h.length
    obtain ⟨v, ev, hv⟩ := h.get (i := i) (d := ds[i]) (List.getElem?_eq_getElem (by omega))
    refine .cons ?_ (DatsAt.pick h l fun k hk => a k (List.mem_cons_of_mem _ hk))
    show DatAt K H (vs.getD i .non) (ds.getD i d0)
    rw [getD_of ev, getD_of (List.getElem?_eq_getElem (show i < ds.length by omega))]
    exact hv
end L2
namespace L2
open PySem PySem.Spec PyProof.Rows
/-- an iterator of its own at i, over what stands at l -/
structure Feed (i l : Addr) (P : Nat → Heap → Prop) (f : Nat → Option Value) : Prop where
  obj : ∀ k h, P k h → ∃ o, h.get? i = some o ∧ ∀ v, o.data ≠ .cell v
  keep : ∀ k (h g : Heap), P k h → (∀ b o, b = i ∨ b = l → h.get? b = some o → g.get? b = some o) → P k g
  item : ∀ {prog : Program} {w : World} {A : Around} {E : Value → Shared → Prop} {s : Shared} {k : Nat} {x : Value} {Q : Value → Shared → Prop}, P k s.heap → f k = some x →
    (∀ g, P (k + 1) g → Heap.SameBut i s.heap g → Q x { s with heap := g }) → wpAny (model prog w) A (Builtin.SmallTypes.nextOf (.ref i)) Q E s
  stop : ∀ {prog : Program} {w : World} {A : Around} {E : Value → Shared → Prop} {s : Shared} {k : Nat} {Q : Value → Shared → Prop}, A.handled = none → P k s.heap → f k = none →
    (∀ g e, Heap.ExtBut i s.heap g → (∃ o, g.get? e = some o ∧ o.cls = .type "StopIteration") → E (.ref e) { s with heap := g }) → wpAny (model prog w) A (Builtin.SmallTypes.nextOf (.ref i)) Q E s
section
variable {prog : Program} {w : World} {A : Around} {E : Value → Shared → Prop} {s : Shared}
/-- a tuple's own iterator is such a one -/
theorem feed_tuple {i l : Addr} (hil : l ≠ i) (xs : Array Value) : Feed i l (fun k h => h.IsTupleIter i l k ∧ h.IsTuple l xs) (fun k => xs[k]?) where
  obj := fun k h p => by
    obtain ⟨⟨o, e, _, d⟩, _⟩ := p
    exact ⟨o, e, fun v z => by rw [d] at z; cases z⟩
  keep := fun k h g p q => ⟨p.1.at fun o e => q i o (.inl rfl) e, by
    obtain ⟨o, e, r⟩ := p.2
    exact ⟨o, q l o (.inr rfl) e, r⟩⟩
  item := by
    intro prog w A E s k x Q p hx hQ
    obtain ⟨⟨oi, ei, ci, di⟩, ⟨ol, el, cl, nl, dl⟩⟩ := id p
    unfold Builtin.SmallTypes.nextOf
    refine wpAny_bind (wpAny_callSpecial?_slot (name := Str.ofString "__next__") p.1.typeIs PySem.F.slot_tuple_iterator_next (wpAny_call_entry PySem.F.slot_tuple_iterator_next p.1.typeIs PySem.F.entry_tuple_iterator_next ?_ (PySem.F.args_tuple_iterator_next_1 _)))
    show wpAny _ _ (field (.ref i) 0 >>= _) _ _ s
    refine wpAny_bind (wpAny_field ei di (x := .ref l) rfl ?_)
    show wpAny _ _ (if (Value.ref l == Value.none) = true then _ else _) _ _ s
    rw [if_neg (show ¬ ((Value.ref l == Value.none) = true) from Bool.false_ne_true)]
    show wpAny _ _ (field (.ref i) 1 >>= _) _ _ s
    refine wpAny_bind (wpAny_field ei di (x := .int k 0) rfl ?_)
    show wpAny _ _ (seqItems? (.ref l) >>= _) _ _ s
    refine wpAny_bind (wpAny_seqItems el dl ?_)
    have hx' : xs[k]? = some x := hx
    simp only [Int.toNat_natCast, hx']
    refine wpAny_bind (wpAny_setField ei di (by simp) (wpAny_pure ⟨x, rfl, wpAny_pure (hQ _ ⟨?_, ?_⟩ (Heap.SameBut.update ..))⟩))
    · exact ⟨_, Heap.get?_update_self _ ei (Obj.isFreed_of_fields (Obj.data_mapFields di _)), (Obj.cls_mapFields ..).trans ci, by rw [Obj.data_mapFields di]; simp [rawInt]⟩
    · exact ⟨ol, ((Heap.SameBut.update ..).2 l hil).trans el, cl, nl, dl⟩
  stop := by
    intro prog w A E s k Q hh p hx hE
    obtain ⟨⟨oi, ei, ci, di⟩, ⟨ol, el, cl, nl, dl⟩⟩ := id p
    unfold Builtin.SmallTypes.nextOf
    refine wpAny_bind (wpAny_callSpecial?_slot (name := Str.ofString "__next__") p.1.typeIs PySem.F.slot_tuple_iterator_next (wpAny_call_entry PySem.F.slot_tuple_iterator_next p.1.typeIs PySem.F.entry_tuple_iterator_next ?_ (PySem.F.args_tuple_iterator_next_1 _)))
    show wpAny _ _ (field (.ref i) 0 >>= _) _ _ s
    refine wpAny_bind (wpAny_field ei di (x := .ref l) rfl ?_)
    show wpAny _ _ (if (Value.ref l == Value.none) = true then _ else _) _ _ s
    rw [if_neg (show ¬ ((Value.ref l == Value.none) = true) from Bool.false_ne_true)]
    show wpAny _ _ (field (.ref i) 1 >>= _) _ _ s
    refine wpAny_bind (wpAny_field ei di (x := .int k 0) rfl ?_)
    show wpAny _ _ (seqItems? (.ref l) >>= _) _ _ s
    refine wpAny_bind (wpAny_seqItems el dl ?_)
    have hx' : xs[k]? = none := hx
    simp only [Int.toNat_natCast, hx']
    refine wpAny_bind (wpAny_rule (wpAny_bind (wpAny_setField ei di (by simp) ?_)))
    show wpAny _ _ (newExc (.type "StopIteration") [] >>= _) _ _ _
    refine wpAny_bind ?_
    simp only [newExc, newTuple]
    refine wpAny_bind (wpAny_newObj_type ?_ (by size_fits))
    refine wpAny_bind (m := firstArgMember _ _) (wpAny_of_eq (a := Value.none) (by first | rfl | (simp only [firstArgMember]; rfl)) (wpAny_newObj_type ?_ (by size_fits)))
    simp only [raiseNew]
    refine wpAny_bind (wpAny_handled ?_)
    first | rw [show A.in1.handled = none from hh] | rw [hh]
    refine wpAny_bind (wpAny_pure (wpAny_throw ?_))
    exact hE _ _ (((Heap.SameBut.update ..).extBut.push _).push _) ⟨_, Heap.get?_push_size _ rfl, rfl⟩
variable {z TI TO i1 i2 l1 l2 : Addr} {P1 P2 : Nat → Heap → Prop} {f1 f2 : Nat → Option Value} {k1 k2 : Nat} {x y a b : Value}
/-- one more pair of the two -/
theorem zipF_item {Q : Option Value → Shared → Prop} (F1 : Feed i1 l1 P1 f1) (F2 : Feed i2 l2 P2 f2) (D : ZipApart z TI TO i1 i2 l1 l2) (hz : IsZip s.heap z TI TO .none) (hI : IsPair s.heap TI (.ref i1) (.ref i2)) (hO : IsPair s.heap TO a b)
    (p1 : P1 k1 s.heap) (p2 : P2 k2 s.heap) (hx : f1 k1 = some x) (hy : f2 k2 = some y)
    (hQ : ∀ g, IsZip g z TI TO (rawInt s.heap.objs.size) → IsPair g TO x y → P1 (k1 + 1) g → P2 (k2 + 1) g → IsPair g s.heap.objs.size x y →
      (∀ c o, c ≠ z → c ≠ TO → c ≠ i1 → c ≠ i2 → s.heap.get? c = some o → g.get? c = some o) → Q (some (.ref s.heap.objs.size)) { s with heap := g }) :
    wpAny (model prog w) A (pyNext (.ref z)) Q E s := by
  have ty : s.TypeIs (.ref z) "zip" := ⟨_, hz, rfl⟩
  unfold pyNext
  refine wpAny_bind (wpAny_attempt (wpAny_callSpecial?_slot (name := Str.ofString "__next__") ty PySem.F.slot_zip_next (wpAny_call_entry PySem.F.slot_zip_next ty PySem.F.entry_zip_next ?_ (PySem.F.args_zip_next_1 _))))
  show wpAny _ _ (field (.ref z) 2 >>= _) _ _ _
  refine wpAny_bind (wpAny_field hz rfl (x := .bool false) rfl ?_)
  show wpAny _ _ (field (.ref z) 3 >>= _) _ _ _
  refine wpAny_bind (wpAny_field hz rfl (x := .ref TI) rfl (wpAny_bind (wpAny_seqItems hI rfl ?_)))
  show wpAny _ _ (Builtin.SmallTypes.ownedTupleIsFree (.ref z) >>= _) _ _ _
  refine wpAny_bind ?_
  unfold Builtin.SmallTypes.ownedTupleIsFree
  refine wpAny_bind (wpAny_field hz rfl (x := .none) rfl (wpAny_pure ?_))
  simp only [if_true]
  refine wpAny_bind (wpAny_rule (wpAny_bind (wpAny_field hz rfl (x := .ref TO) rfl ?_)))
  refine wpAny_bind (wpAny_setField_rec hz (by simp) fun g1 z1 b1 => ?_)
  replace z1 : IsZip g1 z TI TO .ellipsis := z1
  refine wpAny_bind ?_
  simp only [List.zipIdx_cons, List.zipIdx_nil, List.forIn_cons, List.forIn_nil]
  refine wpAny_bind (wpAny_bind (wpAny_onRaise ?_))
  show wpAny _ _ (Builtin.SmallTypes.nextOf (.ref i1) >>= _) _ _ _
  have q1 : P1 k1 g1 := F1.keep _ _ _ p1 fun c o hc e => b1.extBut _ _ (by rcases hc with rfl | rfl; exact D.i1z; exact D.l1z) e
  refine wpAny_bind (F1.item q1 hx fun g2 r1 b2 => wpAny_pure ?_)
  have O2 : IsPair g2 TO a b := b2.extBut _ _ D.TOi1 (b1.extBut _ _ D.TOz hO)
  refine wpAny_bind (wpAny_seqItems O2 rfl (wpAny_bind (wpAny_updateSeq_pair O2 fun g3 O3 b3 => ?_)))
  replace O3 : IsPair g3 TO x b := O3
  refine wpAny_bind (wpAny_letGo (wpAny_pure (wpAny_bind (wpAny_bind (wpAny_onRaise ?_)))))
  show wpAny _ _ (Builtin.SmallTypes.nextOf (.ref i2) >>= _) _ _ _
  have q2 : P2 k2 g3 := F2.keep _ _ _ p2 fun c o hc e => b3.extBut _ _ (by rcases hc with rfl | rfl; exact D.TOi2.symm; exact D.l2TO) (b2.extBut _ _ (by rcases hc with rfl | rfl; exact D.i12.symm; exact D.l2i1) (b1.extBut _ _ (by rcases hc with rfl | rfl; exact D.i2z; exact D.l2z) e))
  refine wpAny_bind (F2.item q2 hy fun g4 r2 b4 => wpAny_pure ?_)
  have O4 : IsPair g4 TO x b := b4.extBut _ _ D.TOi2 O3
  refine wpAny_bind (wpAny_seqItems O4 rfl (wpAny_bind (wpAny_updateSeq_pair O4 fun g5 O5 b5 => ?_)))
  replace O5 : IsPair g5 TO x y := O5
  refine wpAny_bind (wpAny_letGo (wpAny_pure (wpAny_pure (wpAny_bind (wpAny_seqItems O5 rfl (wpAny_bind (wpAny_newTuple ?_)))))))
  have sz : g5.objs.size = s.heap.objs.size := by rw [b5.1, b4.1, b3.1, b2.1, b1.1]
  have z5 : IsZip g5 z TI TO .ellipsis := b5.extBut _ _ D.TOz.symm (b4.extBut _ _ D.i2z.symm (b3.extBut _ _ D.TOz.symm (b2.extBut _ _ D.i1z.symm z1)))
  have all5 : ∀ c o, c ≠ z → c ≠ TO → c ≠ i1 → c ≠ i2 → s.heap.get? c = some o → g5.get? c = some o := fun c o n1 n2 n3 n4 e =>
    b5.extBut _ _ n2 (b4.extBut _ _ n4 (b3.extBut _ _ n2 (b2.extBut _ _ n3 (b1.extBut _ _ n1 e))))
  have s1 : P1 (k1 + 1) g5 := F1.keep _ _ _ r1 fun c o hc e => b5.extBut _ _ (by rcases hc with rfl | rfl; exact D.TOi1.symm; exact D.l1TO) (b4.extBut _ _ (by rcases hc with rfl | rfl; exact D.i12; exact D.l1i2) (b3.extBut _ _ (by rcases hc with rfl | rfl; exact D.TOi1.symm; exact D.l1TO) e))
  have s2 : P2 (k2 + 1) g5 := F2.keep _ _ _ r2 fun c o hc e => b5.extBut _ _ (by rcases hc with rfl | rfl; exact D.TOi2.symm; exact D.l2TO) e
  have ltz : z < g5.objs.size := Heap.lt_size z5
  show wpAny _ _ (Builtin.SmallTypes.ownedTupleHandOut (.ref z) (.ref g5.objs.size) >>= _) _ _ _
  refine wpAny_bind ?_
  unfold Builtin.SmallTypes.ownedTupleHandOut
  have z6 : IsZip (g5.push { cls := .type "tuple", data := .seq #[x, y] }) z TI TO .ellipsis := Heap.get?_push_of_some _ z5
  refine wpAny_bind (wpAny_setField_rec z6 (by simp) fun g7 z7 b7 => ?_)
  replace z7 : IsZip g7 z TI TO (rawInt g5.objs.size) := z7
  refine wpAny_setField_rec z7 (by simp) fun g8 z8 b8 => ?_
  replace z8 : IsZip g8 z TI TO (rawInt g5.objs.size) := z8
  have up : ∀ c o, c ≠ z → g5.get? c = some o → g8.get? c = some o := fun c o n e => b8.extBut _ _ n (b7.extBut _ _ n (Heap.get?_push_of_some _ e))
  have T8 : IsPair g8 g5.objs.size x y := b8.extBut _ _ (Nat.ne_of_gt ltz) (b7.extBut _ _ (Nat.ne_of_gt ltz) (Heap.get?_push_size _ rfl))
  rw [sz] at z8 T8
  refine wpAny_pure ⟨_, rfl, wpAny_pure ?_⟩
  show Q (some (.ref g5.objs.size)) _
  rw [sz]
  exact hQ g8 z8 (up _ _ D.TOz O5) (F1.keep _ _ _ s1 fun c o hc e => up c o (by rcases hc with rfl | rfl; exact D.i1z; exact D.l1z) e) (F2.keep _ _ _ s2 fun c o hc e => up c o (by rcases hc with rfl | rfl; exact D.i2z; exact D.l2z) e) T8
    fun c o n1 n2 n3 n4 e => up c o n1 (all5 c o n1 n2 n3 n4 e)
/-- one of the two is at its end -/
theorem zipF_end {Q : Option Value → Shared → Prop} (hh : A.handled = none) (F1 : Feed i1 l1 P1 f1) (F2 : Feed i2 l2 P2 f2) (D : ZipApart z TI TO i1 i2 l1 l2) (hz : IsZip s.heap z TI TO .none) (hI : IsPair s.heap TI (.ref i1) (.ref i2)) (hO : IsPair s.heap TO a b)
    (p1 : P1 k1 s.heap) (p2 : P2 k2 s.heap) (ends : f1 k1 = none ∨ f2 k2 = none)
    (hQ : ∀ g, (∀ c o, c ≠ z → c ≠ TO → c ≠ i1 → c ≠ i2 → s.heap.get? c = some o → g.get? c = some o) → Q none { s with heap := g }) : wpAny (model prog w) A (pyNext (.ref z)) Q E s := by
  have ty : s.TypeIs (.ref z) "zip" := ⟨_, hz, rfl⟩
  have last : ∀ (g : Heap) (e : Addr), (∀ c o, c ≠ z → c ≠ TO → c ≠ i1 → c ≠ i2 → s.heap.get? c = some o → g.get? c = some o) → (∃ o, g.get? e = some o ∧ o.cls = .type "StopIteration") →
      wpAny (model prog w) A (do let b ← isInstance (.ref e) (.type "StopIteration"); if b = true then pure none else throw (.ref e)) Q E { s with heap := g } := fun g e k1 k2 => by
    obtain ⟨o, ho, hc⟩ := k2
    refine wpAny_bind (wpAny_isInstance (T := "StopIteration") (b := true) ⟨o, ho, hc⟩ isSubtype_stop ?_)
    exact wpAny_pure (hQ g k1)
  unfold pyNext
  refine wpAny_bind (wpAny_attempt (wpAny_callSpecial?_slot (name := Str.ofString "__next__") ty PySem.F.slot_zip_next (wpAny_call_entry PySem.F.slot_zip_next ty PySem.F.entry_zip_next ?_ (PySem.F.args_zip_next_1 _))))
  show wpAny _ _ (field (.ref z) 2 >>= _) _ _ _
  refine wpAny_bind (wpAny_field hz rfl (x := .bool false) rfl ?_)
  show wpAny _ _ (field (.ref z) 3 >>= _) _ _ _
  refine wpAny_bind (wpAny_field hz rfl (x := .ref TI) rfl (wpAny_bind (wpAny_seqItems hI rfl ?_)))
  show wpAny _ _ (Builtin.SmallTypes.ownedTupleIsFree (.ref z) >>= _) _ _ _
  refine wpAny_bind ?_
  unfold Builtin.SmallTypes.ownedTupleIsFree
  refine wpAny_bind (wpAny_field hz rfl (x := .none) rfl (wpAny_pure ?_))
  simp only [if_true]
  refine wpAny_bind (wpAny_rule (wpAny_bind (wpAny_field hz rfl (x := .ref TO) rfl ?_)))
  refine wpAny_bind (wpAny_setField_rec hz (by simp) fun g1 z1 b1 => ?_)
  replace z1 : IsZip g1 z TI TO .ellipsis := z1
  refine wpAny_bind ?_
  simp only [List.zipIdx_cons, List.zipIdx_nil, List.forIn_cons, List.forIn_nil]
  refine wpAny_bind (wpAny_bind (wpAny_onRaise ?_))
  show wpAny _ _ (Builtin.SmallTypes.nextOf (.ref i1) >>= _) _ _ _
  have q1 : P1 k1 g1 := F1.keep _ _ _ p1 fun c o hc e => b1.extBut _ _ (by rcases hc with rfl | rfl; exact D.i1z; exact D.l1z) e
  cases hx : f1 k1 with
  | none =>
    refine wpAny_bind (F1.stop hh q1 hx fun g2 e b2 he => ?_)
    obtain ⟨oe, hoe, hce⟩ := he
    have z2 : IsZip g2 z TI TO .ellipsis := b2 _ _ D.i1z.symm z1
    have ez : e ≠ z := fun q => by subst q; rw [z2] at hoe; cases hoe; simp at hce
    exact wpAny_setField_rec z2 (by simp) fun g3 _ b3 => last g3 e (fun c o n1 _ n3 _ q => b3.extBut _ _ n1 (b2 _ _ n3 (b1.extBut _ _ n1 q))) ⟨oe, b3.extBut _ _ ez hoe, hce⟩
  | some x =>
    have hy : f2 k2 = none := by
      rcases ends with q | q
      · rw [hx] at q; cases q
      · exact q
    refine wpAny_bind (F1.item q1 hx fun g2 r1 b2 => wpAny_pure ?_)
    have O2 : IsPair g2 TO a b := b2.extBut _ _ D.TOi1 (b1.extBut _ _ D.TOz hO)
    refine wpAny_bind (wpAny_seqItems O2 rfl (wpAny_bind (wpAny_updateSeq_pair O2 fun g3 O3 b3 => ?_)))
    refine wpAny_bind (wpAny_letGo (wpAny_pure (wpAny_bind (wpAny_bind (wpAny_onRaise ?_)))))
    show wpAny _ _ (Builtin.SmallTypes.nextOf (.ref i2) >>= _) _ _ _
    have q2 : P2 k2 g3 := F2.keep _ _ _ p2 fun c o hc e => b3.extBut _ _ (by rcases hc with rfl | rfl; exact D.TOi2.symm; exact D.l2TO) (b2.extBut _ _ (by rcases hc with rfl | rfl; exact D.i12.symm; exact D.l2i1) (b1.extBut _ _ (by rcases hc with rfl | rfl; exact D.i2z; exact D.l2z) e))
    refine wpAny_bind (F2.stop hh q2 hy fun g4 e b4 he => ?_)
    obtain ⟨oe, hoe, hce⟩ := he
    have z4 : IsZip g4 z TI TO .ellipsis := b4 _ _ D.i2z.symm (b3.extBut _ _ D.TOz.symm (b2.extBut _ _ D.i1z.symm z1))
    have ez : e ≠ z := fun q => by subst q; rw [z4] at hoe; cases hoe; simp at hce
    exact wpAny_setField_rec z4 (by simp) fun g5 _ b5 => last g5 e (fun c o n1 n2 n3 n4 q => b5.extBut _ _ n1 (b4 _ _ n4 (b3.extBut _ _ n2 (b2.extBut _ _ n3 (b1.extBut _ _ n1 q))))) ⟨oe, b5.extBut _ _ ez hoe, hce⟩
end
end L2
namespace L2
open PySem PySem.Spec PyProof.Rows
abbrev zA (h : Heap) (l : Addr) : Heap := h.push { cls := .type "tuple_iterator", data := .fields #[.ref l, .int 0 0] }
abbrev zB (h : Heap) (l m : Addr) : Heap := zA (zA h l) m
abbrev zC (h : Heap) (l m : Addr) : Heap := (zB h l m).push { cls := .type "tuple", data := .seq #[.ref h.objs.size, .ref (zA h l).objs.size] }
abbrev zD (h : Heap) (l m : Addr) : Heap := (zC h l m).push { cls := .type "tuple", data := .seq #[.none, .none] }
abbrev zE (h : Heap) (l m : Addr) : Heap := (zD h l m).push { cls := .type "zip", data := .fields #[.none, .bool false, .bool false, .ref (zB h l m).objs.size, .ref (zC h l m).objs.size] }
theorem meets_zipT (l m : Addr) (xs ys : Array Value) :
    Meets (Builtin.«zip.__new__» ⟨[.type "zip", .ref l, .ref m], []⟩) (fun _ R s => s.heap.IsTuple l xs ∧ s.heap.IsTuple m ys ∧ R (.ok (.ret (.ref (zD s.heap l m).objs.size))) { s with heap := zE s.heap l m }) :=
  .of_wp fun prog w A R s h => by
    obtain ⟨hp, g, d, tk, os⟩ := s; obtain ⟨t1, t2, h⟩ := h
    have hsub := sub_zip
    have T1 : Heap.IsTuple (Shared.heap ⟨hp, g, d, tk, os⟩) l xs := t1
    have T2 : Heap.IsTuple (Shared.heap ⟨hp.push { cls := .type "tuple_iterator", data := .fields #[.ref l, .int 0 0] }, g, d, tk, os⟩) m ys := Heap.IsTuple.push t2 _
    wp_walk using wpAny_pyIter_tuple T1, wpAny_pyIter_tuple T2
    exact ⟨_, rfl, h⟩
theorem call_zipT {prog : Program} {w : World} {A : Around} {E : Value → Shared → Prop} {s : Shared} {l m : Addr} {xs ys : Array Value} {Q : Value → Shared → Prop} (t1 : s.heap.IsTuple l xs) (t2 : s.heap.IsTuple m ys)
    (h : ∀ g, IsZip g (s.heap.objs.size + 4) (s.heap.objs.size + 2) (s.heap.objs.size + 3) .none → IsPair g (s.heap.objs.size + 2) (.ref s.heap.objs.size) (.ref (s.heap.objs.size + 1)) →
      IsPair g (s.heap.objs.size + 3) .none .none → g.IsTupleIter s.heap.objs.size l 0 → g.IsTupleIter (s.heap.objs.size + 1) m 0 → (∀ c o, s.heap.get? c = some o → g.get? c = some o) → Q (.ref (s.heap.objs.size + 4)) { s with heap := g }) :
    wpAny (model prog w) A (call (.type "zip") [.ref l, .ref m]) Q E s := by
  refine callType_new PySem.F.called_zip (by decide) (PySem.F.typeCall_zip_2 _ _) (PySem.F.newCall_zip_2 _ _) (fun obj => PySem.F.args_object_init_3 obj _ _) PySem.F.entry_zip_new (meets_zipT l m xs ys) ⟨t1, t2, ?_⟩
  have n1 : (zA s.heap l).objs.size = s.heap.objs.size + 1 := Heap.size_push ..
  have n2 : (zB s.heap l m).objs.size = s.heap.objs.size + 2 := by rw [Heap.size_push, n1]
  have n3 : (zC s.heap l m).objs.size = s.heap.objs.size + 3 := by rw [Heap.size_push, n2]
  have n4 : (zD s.heap l m).objs.size = s.heap.objs.size + 4 := by rw [Heap.size_push, n3]
  have w5 : (zE s.heap l m).get? (zD s.heap l m).objs.size = some _ := Heap.get?_push_size _ rfl
  have w4 : (zE s.heap l m).get? (zC s.heap l m).objs.size = some _ := Heap.get?_push_of_some _ (Heap.get?_push_size _ rfl)
  have w3 : (zE s.heap l m).get? (zB s.heap l m).objs.size = some _ := Heap.get?_push_of_some _ (Heap.get?_push_of_some _ (Heap.get?_push_size _ rfl))
  have w2 : (zE s.heap l m).get? (zA s.heap l).objs.size = some _ := Heap.get?_push_of_some _ (Heap.get?_push_of_some _ (Heap.get?_push_of_some _ (Heap.get?_push_size _ rfl)))
  have w1 : (zE s.heap l m).get? s.heap.objs.size = some _ := Heap.get?_push_of_some _ (Heap.get?_push_of_some _ (Heap.get?_push_of_some _ (Heap.get?_push_of_some _ (Heap.get?_push_size _ rfl))))
  show _ ∧ _
  rw [n2, n3, n4] at w5
  rw [n1, n2] at w3
  rw [n3] at w4
  rw [n1] at w2
  rw [n4]
  exact ⟨⟨_, w5, rfl⟩, h _ w5 w3 w4 ⟨_, w1, rfl, rfl⟩ ⟨_, w2, rfl, rfl⟩ fun c o q =>
    Heap.get?_push_of_some _ (Heap.get?_push_of_some _ (Heap.get?_push_of_some _ (Heap.get?_push_of_some _ (Heap.get?_push_of_some _ q))))⟩
/-- the pairs of the tuples at a and b -/
def ItzT (K : PySem.W.Frag) (a b : Addr) : It :=
  ⟨fun i H => ∃ xs ys x y, SqT K H a xs ∧ SqT K H b ys ∧ xs[i]? = some x ∧ ys[i]? = some y,
   fun i H v H' => ∃ p, v = .ref p ∧ H p = none ∧ ∀ xs ys x y, SqT K H a xs → SqT K H b ys → xs[i]? = some x → ys[i]? = some y → H' = upd H p (.tup [x, y]),
   fun i H => ∃ xs ys, SqT K H a xs ∧ SqT K H b ys ∧ (xs.length ≤ i ∨ ys.length ≤ i)⟩
theorem turn_zipT {P : Program} {w : World} {K : PySem.W.Frag} {elts : List Expr} {kk : Nat} {pos : Pos} (a b z TI TO i1 i2 : Addr) (D : ZipApart z TI TO i1 i2 a b) :
    Turn P w K (.Tuple elts kk pos) (ItzT K a b) [z, TI, TO, i1, i2] z (fun i h => IsZip h z TI TO .none ∧ IsPair h TI (.ref i1) (.ref i2) ∧ (∃ x y, IsPair h TO x y) ∧ h.IsTupleIter i1 a i ∧ h.IsTupleIter i2 b i) where
  mem := by simp
  obj := fun i h st c hc => by
    obtain ⟨hz, hTI, ⟨x, y, hTO⟩, ⟨o1, e1, c1, d1⟩, ⟨o2, e2, c2, d2⟩⟩ := st
    have hc' : c = z ∨ c = TI ∨ c = TO ∨ c = i1 ∨ c = i2 := by simpa using hc
    rcases hc' with rfl | rfl | rfl | rfl | rfl
    · exact ⟨_, hz, fun v q => by have q' : Data.fields _ = Data.cell v := q; cases q'⟩
    · exact ⟨_, hTI, fun v q => by have q' : Data.seq _ _ = Data.cell v := q; cases q'⟩
    · exact ⟨_, hTO, fun v q => by have q' : Data.seq _ _ = Data.cell v := q; cases q'⟩
    · exact ⟨_, e1, fun v q => by rw [d1] at q; cases q⟩
    · exact ⟨_, e2, fun v q => by rw [d2] at q; cases q⟩
  keep := fun i h h' st k => by
    obtain ⟨hz, hTI, ⟨x, y, hTO⟩, h1, h2⟩ := st
    exact ⟨k z (by simp) _ hz, k TI (by simp) _ hTI, ⟨x, y, k TO (by simp) _ hTO⟩, h1.at fun o e => k i1 (by simp) o e, h2.at fun o e => k i2 (by simp) o e⟩
  item := by
    intro X hP hw hK hc i pins s σ H E I hf st hg
    subst hP hw hK
    obtain ⟨xs, ys, x, y, hq1, hq2, hx, hy⟩ := hg
    obtain ⟨its, rv, p1, hz1⟩ := I.tuple hq1
    obtain ⟨its2, rv2, p2, hz2⟩ := I.tuple hq2
    obtain ⟨u, hu, ru⟩ := rv.get hx
    obtain ⟨v, hv, rvv⟩ := rv2.get hy
    obtain ⟨hz, hTI, ⟨ta, tb, hTO⟩, h1, h2⟩ := st
    refine zipF_item (feed_tuple D.l1i1 its.toArray) (feed_tuple D.l2i2 its2.toArray) D hz hTI hTO ⟨h1, p1⟩ ⟨h2, p2⟩ (x := u) (y := v) (by simpa using hu) (by simpa using hv) fun h' a1 a2 a3 a4 a5 hk => ?_
    refine ⟨_, rfl, wpAny_letOwnedTupleGo_zip a1 fun h'' hz'' sb => ?_⟩
    have nz : s.heap.objs.size ≠ z := Nat.ne_of_gt (Heap.lt_size hz)
    have hk2 : ∀ c o, c ∉ [z, TI, TO, i1, i2] → s.heap.get? c = some o → h''.get? c = some o := fun c o hc e => by
      simp only [List.mem_cons, List.not_mem_nil, or_false, not_or] at hc
      exact sb.extBut c o hc.1 (hk c o hc.1 hc.2.2.1 hc.2.2.2.1 hc.2.2.2.2 e)
    refine ⟨.ref s.heap.objs.size, upd H s.heap.objs.size (.tup [x, y]), I.turnedLaid (t' := s.toks) hk2 hf (Nat.le_refl _) ⟨two_le, [u, v], .cons ru (.cons rvv .nil), ⟨_, sb.extBut _ _ nz a5, rfl, _, rfl⟩⟩, rfl,
      ⟨_, rfl, I.hok.fresh (Nat.le_refl _), fun xs' ys' x' y' e1 e2 e3 e4 => ?_⟩, ⟨hz'', sb.extBut _ _ D.TIz (hk _ _ D.TIz D.TITO D.TIi1 D.TIi2 hTI), ⟨_, _, sb.extBut _ _ D.TOz a2⟩, a3.1.extBut sb.extBut D.i1z, a4.1.extBut sb.extBut D.i2z⟩, fun c hc => ?_⟩
    · rw [I.tuple_inj e1 hq1, hx] at e3
      rw [I.tuple_inj e2 hq2, hy] at e4
      cases e3
      cases e4
      rfl
    · obtain ⟨o, e, _⟩ : ∃ o, s.heap.get? c = some o ∧ True := by
        have hc' : c = z ∨ c = TI ∨ c = TO ∨ c = i1 ∨ c = i2 := by simpa using hc
        obtain ⟨o1, e1, _⟩ := h1
        obtain ⟨o2, e2, _⟩ := h2
        rcases hc' with rfl | rfl | rfl | rfl | rfl
        · exact ⟨_, hz, trivial⟩
        · exact ⟨_, hTI, trivial⟩
        · exact ⟨_, hTO, trivial⟩
        · exact ⟨_, e1, trivial⟩
        · exact ⟨_, e2, trivial⟩
      rw [upd_ne (Nat.ne_of_lt (Heap.lt_size e))]
      exact (hf c hc).1
  done := by
    intro X hP hw hK hc i pins s σ H E I hf st hg
    subst hP hw hK
    obtain ⟨xs, ys, hq1, hq2, hend⟩ := hg
    obtain ⟨its, rv, p1, hz1⟩ := I.tuple hq1
    obtain ⟨its2, rv2, p2, hz2⟩ := I.tuple hq2
    obtain ⟨hz, hTI, ⟨ta, tb, hTO⟩, h1, h2⟩ := st
    have l1 := rv.length
    have l2 := rv2.length
    refine zipF_end (I.ok.hd hc) (feed_tuple D.l1i1 its.toArray) (feed_tuple D.l2i2 its2.toArray) D hz hTI hTO ⟨h1, p1⟩ ⟨h2, p2⟩ ?_ fun h' hk => ⟨rfl, I.turnedAll (t' := s.toks) (ch := [z, TI, TO, i1, i2]) (fun c o hc e => ?_) hf⟩
    · rcases hend with q | q
      · exact .inl (by simp; omega)
      · exact .inr (by simp; omega)
    · simp only [List.mem_cons, List.not_mem_nil, or_false, not_or] at hc
      exact hk c o hc.1 hc.2.2.1 hc.2.2.2.1 hc.2.2.2.2 e
  self := fun _ _ _ _ _ st h => wpAny_pyIter_zip st.1 h
section
variable {X : Cx} {elts : List Expr} {kk : Nat} {tpos : Pos}
def iZipT (K : PySem.W.Frag) (ta : TA) : TI := fun σ H R => ta σ H fun vs H1 => ∃ a b, vs = [.ref a, .ref b] ∧ (∃ xs, SqT K H1 a xs) ∧ (∃ ys, SqT K H1 b ys) ∧ R (ItzT K a b) H1
theorem pi_zipT {e1 e2 : Expr} {ta : TA} {p pos : Pos} (hg : Gl X "zip") (hm : X.mg "zip" = none) (ha : PA X [e1, e2] ta)
    (hs : starEach [e1, e2] X.env = [(false, eval e1 X.env), (false, eval e2 X.env)] := by rfl) (hs2 : starEach [e2] X.env = [(false, eval e2 X.env)] := by rfl) : PI X (.Tuple elts kk tpos) (.Call (.Name "zip" p) [e1, e2] [] pos) (iZipT X.K ta) := by
  intro pins s σ H R I h
  refine Call_ (ld_blt I hg hm Boot.«zip» (PyProof.Rows.callWith_type1 (thn (ha pos pins s σ H _ I h) fun us s1 ⟨vs, H1, I1, r1, q1⟩ => ?_) (by rw [hs, hs2]) (by rw [hs2]; rfl)))
  obtain ⟨a, b, e, ⟨xs, hx⟩, ⟨ys, hy⟩, q⟩ := q1
  subst e
  cases r1 with
  | cons r rr =>
    cases rr with
    | cons r' rr =>
      cases rr
      cases r
      cases r'
      obtain ⟨its, rv, p1, hz1⟩ := I1.tuple hx
      obtain ⟨its2, rv2, p2, hz2⟩ := I1.tuple hy
      have l1 : a < s1.heap.objs.size := by obtain ⟨_, e, _⟩ := p1; exact Heap.lt_size e
      have l2 : b < s1.heap.objs.size := by obtain ⟨_, e, _⟩ := p2; exact Heap.lt_size e
      refine call_zipT p1 p2 fun h' hz hTI hTO hi1 hi2 hk => ?_
      refine wpAny_pyIter_zip hz ?_
      refine ⟨s1.heap.objs.size + 4, [s1.heap.objs.size + 4, s1.heap.objs.size + 2, s1.heap.objs.size + 3, s1.heap.objs.size, s1.heap.objs.size + 1], _, _, H1, rfl, I1.kept (t' := s1.toks) hk, turn_zipT a b _ _ _ _ _ (zipApart_new l1 l2), ⟨hz, hTI, ⟨_, _, hTO⟩, hi1, hi2⟩, fun c hc => ?_, q⟩
      have hc' : s1.heap.objs.size ≤ c := by
        simp only [List.mem_cons, List.not_mem_nil, or_false] at hc
        rcases hc with e | e | e | e | e <;> rw [e] <;> first | exact Nat.le_refl _ | exact Nat.le_add_right _ _
      exact I1.fpOk hc' (I1.hok.fresh hc')
end
/-- over the pairs of two tuples that the body leaves as they are -/
theorem for_zipT {K : PySem.W.Frag} {a b : Addr} {xs ys : List V} {g : TG} {tb : TS} {D : Ends} {σ : L2.St} {H : Hp} (Pv : Nat → L2.St → Hp → Prop) (h0 : Pv 0 σ H) (hl : ∀ i σ H, i ≤ min xs.length ys.length → Pv i σ H → SqT K H a xs ∧ SqT K H b ys)
    (hs : ∀ i x y σ H p, xs[i]? = some x → ys[i]? = some y → Pv i σ H → H p = none → g (.ref p) σ (upd H p (.tup [x, y])) fun σ2 H2 => tb { D with nx := Pv (i + 1), ct := Pv (i + 1), bk := D.nx } σ2 H2)
    (hd : ∀ σ H, Pv (min xs.length ys.length) σ H → D.nx σ H) :
    ∃ W : Nat → Nat → L2.St → Hp → Prop, (∃ m, W 0 m σ H) ∧ ∀ i m σ H, W i m σ H →
      ((ItzT K a b).stop i H ∧ D.nx σ H) ∨ ((ItzT K a b).go i H ∧ ∃ N : L2.St → Hp → Prop, (∀ σ' H', N σ' H' → ∃ m', m' < m ∧ W (i + 1) m' σ' H') ∧ ∀ x H', (ItzT K a b).yld i H x H' → g x σ H' fun σ2 H2 => tb { D with nx := N, ct := N, bk := D.nx } σ2 H2) := by
  refine ⟨fun i m σ H => m = min xs.length ys.length - i ∧ i ≤ min xs.length ys.length ∧ Pv i σ H, ⟨min xs.length ys.length, by simp, Nat.zero_le _, h0⟩, ?_⟩
  rintro i m σ H ⟨rfl, hi, p⟩
  obtain ⟨q1, q2⟩ := hl i σ H hi p
  by_cases hlt : i < min xs.length ys.length
  · have h1 : i < xs.length := by omega
    have h2 : i < ys.length := by omega
    refine .inr ⟨⟨xs, ys, xs[i], ys[i], q1, q2, by simp [h1], by simp [h2]⟩, Pv (i + 1), fun σ' H' p' => ⟨min xs.length ys.length - (i + 1), by omega, rfl, hlt, p'⟩, fun v H' y => ?_⟩
    obtain ⟨t, rfl, ht, y⟩ := y
    have e := y xs ys xs[i] ys[i] q1 q2 (by simp [h1]) (by simp [h2])
    subst e
    exact hs i xs[i] ys[i] σ H t (by simp [h1]) (by simp [h2]) p ht
  · have e : i = min xs.length ys.length := by omega
    subst e
    exact .inl ⟨⟨xs, ys, q1, q2, by omega⟩, hd σ H p⟩
end L2
namespace L2
open PySem PySem.Spec PyProof.Rows
/-- over a list that stays -/
theorem comp_list {K : PySem.W.Frag} {a D : Addr} {xs : List V} {g : TG} {tt : TT} {te : TE} {Q : VK} {H : Hp} {σ0 : L2.St} (Pv : Nat → L2.St → List V → Hp → Prop) (p0 : Pv 0 σ0 [] H)
    (hl : ∀ i σ ys H', i ≤ xs.length → Pv i σ ys H' → SqL K H' a xs ∧ H' D = some (.lst ys) ∧ ys.length < sizeLine)
    (hs : ∀ i x σ ys H', xs[i]? = some x → Pv i σ ys H' → ∀ N : L2.St → List V → Hp → Prop, (∀ σ ys H, Pv (i + 1) σ ys H → N σ ys H) →
      g x σ H' fun σ4 H4 => tt σ4 H4 fun b H5 => if b = true then te σ4 H5 fun v H6 => H6 D = some (.lst ys) ∧ N σ4 (ys ++ [v]) (upd H6 D (.lst (ys ++ [v]))) else N σ4 ys H5)
    (hd : ∀ σ ys H', Pv xs.length σ ys H' → Q (.ref D) H') : CompW (Itl K a) g tt te σ0 Q D H := by
  refine ⟨fun i m σ ys H => m = xs.length - i ∧ i ≤ xs.length ∧ Pv i σ ys H, ⟨xs.length, by simp, Nat.zero_le _, p0⟩, ?_⟩
  rintro i m σ ys H2 ⟨rfl, hi, p⟩
  obtain ⟨q1, q2, q3⟩ := hl i σ ys H2 hi p
  refine ⟨q2, q3, ?_⟩
  by_cases hlt : i < xs.length
  · refine .inr ⟨⟨xs, xs[i], q1, by simp [hlt]⟩, fun x H3 y => ?_⟩
    obtain ⟨e, y⟩ := y
    subst e
    exact hs i x σ ys _ (y xs q1) p (fun σ ys H => ∃ m', m' < xs.length - i ∧ m' = xs.length - (i + 1) ∧ i + 1 ≤ xs.length ∧ Pv (i + 1) σ ys H) fun σ ys H z => ⟨_, by omega, rfl, hlt, z⟩
  · have e : i = xs.length := by omega
    subst e
    exact .inl ⟨⟨xs, q1, Nat.le_refl _⟩, hd σ ys H2 p⟩
/-- one cell of the frame around is taken -/
theorem caps1 {X : Cx} {scope : Scope} {Nc : List Str} {x : Str} {c : Addr} (i j : Nat) (ns : List (Str × NameKind)) (hrel : (relabel scope X.env).names = ns) (hclos : closureFor scope X.env = pure [(x, c)]) (hk : scope.kind = .function)
    (hnc : ∀ y ∈ scope.names, y.2 ≠ .cell) (hnm : ∀ y ∈ scope.names, y.2 = .local → scope.names.lookup y.1 = some .local) (hcell : X.env.cells.lookup x = some c)
    (honly : ∀ y ∈ ns, y.2 = .cell ∨ y.2 = .free → y.1 = x) (hin : ns.lookup x = some .cell) (hkind : X.env.kindOf x = some .cell) (hNc : Nc[i]? = some x) (hj : X.N[j]? = some x) :
    Caps X scope [(x, c)] Nc (fun σ => (List.replicate Nc.length none).set i (σ.getD j none)) where
  clos := hclos
  kind := hk
  nocell := hnc
  names := hnm
  cells := fun y d e => by
    rw [List.lookup_cons] at e
    split at e
    · rename_i q
      have q' : y = x := by simpa using q
      cases e
      rw [q']
      exact hcell
    · cases e
  has := fun y h => by
    rw [hrel] at h
    have e : y = x := by
      rcases h with h | h
      · exact honly _ (PySem.mem_of_lookup h) (.inl rfl)
      · exact honly _ (PySem.mem_of_lookup h) (.inr rfl)
    subst e
    exact ⟨c, by simp [List.lookup_cons]⟩
  len := fun σ => by simp
  cap := fun σ k y v e1 e2 _ => by
    have hki : k = i := by
      by_cases q : k = i
      · exact q
      · rw [List.getElem?_set_ne (Ne.symm q), List.getElem?_replicate] at e2
        split at e2 <;> cases e2
    subst hki
    rw [hNc] at e1
    cases e1
    have hlt : k < Nc.length := (List.getElem?_eq_some_iff.mp hNc).1
    rw [List.getElem?_set_self (by simpa using hlt)] at e2
    refine ⟨.inl (by rw [hrel]; exact hin), .inl hkind, j, hj, ?_, .inr (.inl hkind)⟩
    have e3 : σ.getD j none = some v := Option.some.inj e2
    rw [List.getD_eq_getElem?_getD] at e3
    cases q : σ[j]? with
    | none => rw [q] at e3; cases e3
    | some o =>
      rw [q] at e3
      have e4 : o = some v := e3
      rw [e4]
def LsM (K : PySem.W.Frag) (H : Hp) (a : Addr) (ds : List Dt) : Prop := ∃ vs, H a = some (.lst vs) ∧ DatsAt K H vs ds
theorem LsM.same {K : PySem.W.Frag} {H H' : Hp} {a : Addr} {ds : List Dt} (h : LsM K H a ds) (e : Same H H') : LsM K H' a ds := by
  obtain ⟨vs, h1, h2⟩ := h
  exact ⟨vs, e _ _ h1, h2.same e⟩
section
variable {K : PySem.W.Frag} {H : Hp} {a : Addr} {xs ys : List V}
/-- a list is written: what is a tuple stays -/
theorem sqT_upd {r : Addr} {vs : List V} (ha : H a = some (.lst xs)) (h : SqT K H r vs) : SqT K (upd H a (.lst ys)) r vs := by
  rcases h with (h | ⟨o, h⟩) | h
  · exact .inl (.inl (by rw [upd_ne (ne_of h ha (by intro z; cases z))]; exact h))
  · exact .inl (.inr ⟨o, by rw [upd_ne (ne_of h ha (by intro z; cases z))]; exact h⟩)
  · exact .inr h
mutual
theorem DatAt.updL (ha : H a = some (.lst xs)) : ∀ {v : V} {d : Dt}, DatAt K H v d → DatAt K (upd H a (.lst ys)) v d
  | v, .non, h => by simpa [DatAt] using h
  | v, .int i, h => by simpa [DatAt] using h
  | v, .str i, h => by simpa [DatAt] using h
  | v, .tup ds, h => by
    obtain ⟨r, vs, rfl, h1, h2⟩ := h.un
    exact .tup (sqT_upd ha h1) (DatsAt.updL ha h2)
theorem DatsAt.updL (ha : H a = some (.lst xs)) : ∀ {vs : List V} {ds : List Dt}, DatsAt K H vs ds → DatsAt K (upd H a (.lst ys)) vs ds
  | vs, [], h => by
    rw [h.un0]
    exact .nil
  | vs, d :: ds, h => by
    obtain ⟨v, r, rfl, h1, h2⟩ := h.un
    exact .cons (DatAt.updL ha h1) (DatsAt.updL ha h2)
end
end
end L2
namespace L2
open PySem PySem.Spec PyProof.Rows FW
def frD (p : Int × Int) : Dt := .tup [.int p.1, .int p.2]
def prD (p : Dt × Dt) : Dt := .tup [p.1, p.2]
def rowD (r : Dt × Int) : Dt := .tup [r.1, .int r.2]
def parD (S : Int) (r : Dt × Int) : Dt := prD (r.1, frD (low r.2 S))
/-- an outcome -/
inductive Oc : Dt → Prop
  | non : Oc .non
  | int (n : Int) : Oc (.int n)
  | recd (fs : List (Str × Int)) : Oc (.tup (fs.map pairD))
def tyD : Dt → String
  | .non => "NoneType"
  | .int _ => "int"
  | .str _ => "str"
  | .tup _ => "tuple"
theorem hgt_pairs : ∀ fs : List (Str × Int), Dt.hgts (fs.map pairD) ≤ 1
  | [] => by simp [Dt.hgts]
  | f :: fs => by
    have := hgt_pairs fs
    simp only [List.map_cons, Dt.hgts, pairD, Dt.hgt]
    omega
theorem Oc.hgt {d : Dt} (h : Oc d) : d.hgt ≤ 2 := by
  cases h with
  | non => simp [Dt.hgt]
  | int n => simp [Dt.hgt]
  | recd fs =>
    have := hgt_pairs fs
    simp only [Dt.hgt]
    omega
theorem hgt_frD (p : Int × Int) : (frD p).hgt ≤ 1 := by simp [frD, Dt.hgt, Dt.hgts]
theorem frD_inj {p q : Int × Int} (h : frD p = frD q) : p = q := by
  have h' : ([.int p.1, .int p.2] : List Dt) = [.int q.1, .int q.2] := Dt.tup.inj h
  simp at h'
  exact Prod.ext h'.1 h'.2
section
variable {K : PySem.W.Frag} {H : Hp}
theorem DatsAt.two {vs : List V} {d e : Dt} (h : DatsAt K H vs [d, e]) : ∃ v u, vs = [v, u] ∧ DatAt K H v d ∧ DatAt K H u e := by
  obtain ⟨v, r, rfl, h1, h2⟩ := h.un
  obtain ⟨u, r2, rfl, h3, h4⟩ := h2.un
  have := h4.un0
  subst this
  exact ⟨v, u, rfl, h1, h3⟩
theorem DatAt.int_eq {v : V} {n : Int} (h : DatAt K H v (.int n)) : v = .int n := by simpa [DatAt] using h
theorem DatAt.str_eq {v : V} {n : Str} (h : DatAt K H v (.str n)) : v = .str n := by simpa [DatAt] using h
theorem DatAt.non_eq {v : V} (h : DatAt K H v .non) : v = .non := by simpa [DatAt] using h
theorem DatAt.fr {v : V} {p : Int × Int} (h : DatAt K H v (frD p)) : ∃ r, v = .ref r ∧ SqT K H r [.int p.1, .int p.2] := by
  obtain ⟨r, vs, rfl, h1, h2⟩ := DatAt.un (ds := [.int p.1, .int p.2]) h
  obtain ⟨a, b, rfl, h3, h4⟩ := h2.two
  rw [h3.int_eq, h4.int_eq] at h1
  exact ⟨r, rfl, h1⟩
theorem datAt_fr {r : Addr} {p : Int × Int} (h : SqT K H r [.int p.1, .int p.2]) : DatAt K H (.ref r) (frD p) := .tup h (.cons (.int _) (.cons (.int _) .nil))
theorem DatAt.pr {v : V} {p : Dt × Dt} (h : DatAt K H v (prD p)) : ∃ r a b, v = .ref r ∧ SqT K H r [a, b] ∧ DatAt K H a p.1 ∧ DatAt K H b p.2 := by
  obtain ⟨r, vs, rfl, h1, h2⟩ := DatAt.un (ds := [p.1, p.2]) h
  obtain ⟨a, b, rfl, h3, h4⟩ := h2.two
  exact ⟨r, a, b, rfl, h1, h3, h4⟩
theorem datAt_pr {r : Addr} {a b : V} {p : Dt × Dt} (h : SqT K H r [a, b]) (h1 : DatAt K H a p.1) (h2 : DatAt K H b p.2) : DatAt K H (.ref r) (prD p) := .tup h (.cons h1 (.cons h2 .nil))
theorem DatAt.row {v : V} {p : Dt × Int} (h : DatAt K H v (rowD p)) : ∃ r a, v = .ref r ∧ SqT K H r [a, .int p.2] ∧ DatAt K H a p.1 := by
  obtain ⟨r, vs, rfl, h1, h2⟩ := DatAt.un (ds := [p.1, .int p.2]) h
  obtain ⟨a, b, rfl, h3, h4⟩ := h2.two
  rw [h4.int_eq] at h1
  exact ⟨r, a, rfl, h1, h3⟩
theorem datAt_row {r : Addr} {a : V} {p : Dt × Int} (h : SqT K H r [a, .int p.2]) (h1 : DatAt K H a p.1) : DatAt K H (.ref r) (rowD p) := .tup h (.cons h1 (.cons (.int _) .nil))
end
/-- isinstance of data -/
theorem call_isiD {X : Cx} : CallR X (.builtin "isinstance") (fun xs H Q => ∃ v d n b, xs = [v, .ty n] ∧ DatAt X.K H v d ∧ PySem.W.kitOne X.K (.type (tyD d)) (.type n) = some b ∧ Q (.bl b) H) := by
  intro pins s σ H xs us Q I r h
  obtain ⟨v, d, n, b, rfl, hv, e, q⟩ := h
  cases d with
  | non =>
    have := hv.non_eq
    subst this
    exact call_isi pins s σ H _ us Q I r ⟨_, _, _, _, rfl, .non, e, q⟩
  | int i =>
    have := hv.int_eq
    subst this
    exact call_isi pins s σ H _ us Q I r ⟨_, _, _, _, rfl, .int i, e, q⟩
  | str i =>
    have := hv.str_eq
    subst this
    exact call_isi pins s σ H _ us Q I r ⟨_, _, _, _, rfl, .str i, e, q⟩
  | tup ds =>
    obtain ⟨r', vs, rfl, h1, h2⟩ := hv.un
    exact call_isiT pins s σ H _ us Q I r ⟨r', vs, n, b, rfl, h1, e, q⟩
def sumW (rows : List (Dt × Int)) : Int := (rows.map (·.2)).sum
theorem sumW_nil : sumW [] = 0 := rfl
theorem sumW_cons (r : Dt × Int) (rows : List (Dt × Int)) : sumW (r :: rows) = r.2 + sumW rows := rfl
theorem sumW_append (a b : List (Dt × Int)) : sumW (a ++ b) = sumW a + sumW b := by
  unfold sumW
  rw [List.map_append, List.sum_append]
theorem sumW_snoc (rows : List (Dt × Int)) (r : Dt × Int) : sumW (rows ++ [r]) = sumW rows + r.2 := by
  rw [sumW_append]
  show _ + (r.2 + 0) = _
  omega
theorem sumW_nn : ∀ {rows : List (Dt × Int)}, (∀ r ∈ rows, 0 ≤ r.2) → 0 ≤ sumW rows
  | [], _ => Int.le_refl 0
  | r :: rows, h => by
    have h1 := h r (List.mem_cons_self ..)
    have h2 := sumW_nn fun q hq => h q (List.mem_cons_of_mem _ hq)
    rw [sumW_cons]
    omega
theorem sumW_take {rows : List (Dt × Int)} (h : ∀ r ∈ rows, 0 ≤ r.2) (i : Nat) : 0 ≤ sumW (rows.take i) ∧ sumW (rows.take i) ≤ sumW rows := by
  have e : sumW rows = sumW (rows.take i) + sumW (rows.drop i) := by
    rw [← sumW_append, List.take_append_drop]
  have h1 := sumW_nn (rows := rows.take i) fun r hr => h r (List.mem_of_mem_take hr)
  have h2 := sumW_nn (rows := rows.drop i) fun r hr => h r (List.mem_of_mem_drop hr)
  omega
theorem sumW_mem : ∀ {rows : List (Dt × Int)}, (∀ r ∈ rows, 0 ≤ r.2) → ∀ r ∈ rows, r.2 ≤ sumW rows
  | q :: rows, h, r, hr => by
    have h1 := h q (List.mem_cons_self ..)
    have h2 := sumW_nn fun q hq => h q (List.mem_cons_of_mem _ hq)
    rw [sumW_cons]
    rcases List.mem_cons.mp hr with z | z
    · rw [z]; omega
    · have := sumW_mem (fun q hq => h q (List.mem_cons_of_mem _ hq)) r z
      omega
/-- rows over the bottom S, none below 0, all of them small enough -/
structure Sc (S : Int) (rows : List (Dt × Int)) : Prop where
  pos : 0 < S
  big : S ≤ 10 ^ 160
  nn : ∀ r ∈ rows, 0 ≤ r.2
  top : sumW rows ≤ 10 ^ 160
theorem sm60 {x : Int} (h0 : 0 ≤ x) (h : x ≤ 10 ^ 160) : Sm x := by
  have e : x.natAbs ≤ 10 ^ 160 := by omega
  exact Nat.lt_of_le_of_lt e (by decide)
theorem isQ_low {W S : Int} (h : 0 < S) : IsQ (low W S) W S := ⟨low_Low h, low_eq⟩
theorem plus_low {W w S : Int} (h : 0 < S) : plusM (low W S).1 (low W S).2 (low w S).1 (low w S).2 = low (W + w) S := ((isQ_low h).plus (isQ_low h)).low h
theorem low_zero {S : Int} (h : 0 < S) : low 0 S = (0, 1) := ((IsQ.zero (S := S)).low h).symm
theorem low_one {S : Int} (h : 0 < S) : low S S = (1, 1) := by
  have l : Low 1 1 := ⟨by decide, by decide⟩
  exact (low_of l h (by rw [Int.mul_comm])).symm
theorem low_is_zero {W S : Int} (h : 0 < S) (e : low W S = (0, 1)) : W = 0 := by
  have q := low_eq (t := W) (b := S)
  rw [e] at q
  simpa using q.symm
theorem low_sm {W S : Int} (h0 : 0 ≤ W) (h : W ≤ 10 ^ 160) (p : 0 < S) (q : S ≤ 10 ^ 160) : Sm (low W S).1 ∧ Sm (low W S).2 :=
  ⟨(sm60 h0 h).le (low_abs W S).1, (sm60 (by omega) q).le (low_abs W S).2⟩
theorem low_nn {W S : Int} (h0 : 0 ≤ W) (p : 0 < S) : 0 ≤ (low W S).1 := by
  have l := low_Low (t := W) p
  have e := low_eq (t := W) (b := S)
  rcases Int.lt_or_le (low W S).1 0 with q | q
  · have h1 : (low W S).1 * S < 0 := Int.mul_neg_of_neg_of_pos q p
    have h2 : 0 ≤ W * (low W S).2 := Int.mul_nonneg h0 (Int.le_of_lt l.pos)
    omega
  · exact q
/-- a share by the sum of them -/
theorem over_low {w W S : Int} (hS : 0 < S) (hW : 0 < W) : low ((low w S).1 * (low W S).2) ((low w S).2 * (low W S).1) = low w W := by
  have l1 := low_Low (t := w) hS
  have l2 := low_Low (t := W) hS
  have e1 := low_eq (t := w) (b := S)
  have e2 := low_eq (t := W) (b := S)
  have l3 := low_Low (t := w) hW
  have e3 := low_eq (t := w) (b := W)
  have c0 : 0 < (low W S).1 := by
    have h := low_nn (Int.le_of_lt hW) hS
    rcases Int.lt_or_le 0 (low W S).1 with q | q
    · exact q
    · have z : (low W S).1 = 0 := by omega
      rw [z, Int.zero_mul] at e2
      have := Int.mul_pos hW l2.pos
      omega
  generalize (low w S).1 = a at *
  generalize (low w S).2 = b at *
  generalize (low W S).1 = c at *
  generalize (low W S).2 = d at *
  refine (low_of l3 (Int.mul_pos l1.pos c0) ?_).symm
  generalize (low w W).1 = x at *
  generalize (low w W).2 = y at *
  have k : (x * (b * c)) * (S * W) = ((a * d) * y) * (S * W) := by
    calc (x * (b * c)) * (S * W) = (x * W) * b * (c * S) := by simp only [Int.mul_assoc, Int.mul_left_comm, Int.mul_comm]
      _ = (w * y) * b * (W * d) := by rw [e3, e2]
      _ = (w * b) * d * y * W := by simp only [Int.mul_assoc, Int.mul_left_comm, Int.mul_comm]
      _ = (a * S) * d * y * W := by rw [e1]
      _ = ((a * d) * y) * (S * W) := by simp only [Int.mul_assoc, Int.mul_left_comm, Int.mul_comm]
  exact Int.eq_of_mul_eq_mul_right (by have := Int.mul_pos hS hW; omega) k
theorem low_top_pos {W S : Int} (hS : 0 < S) (hW : 0 < W) : 0 < (low W S).1 := by
  have h := low_nn (Int.le_of_lt hW) hS
  have e2 := low_eq (t := W) (b := S)
  have l2 := low_Low (t := W) hS
  rcases Int.lt_or_le 0 (low W S).1 with q | q
  · exact q
  · have z : (low W S).1 = 0 := by omega
    rw [z, Int.zero_mul] at e2
    have := Int.mul_pos hW l2.pos
    omega
/-- the rows of the law -/
structure Rw (rows : List (Dt × Int)) : Prop where
  oc : ∀ r ∈ rows, Oc r.1
  pos : ∀ r ∈ rows, 0 < r.2
theorem take_snoc' {α : Type} {xs : List α} {i : Nat} {x : α} (h : xs[i]? = some x) : xs.take (i + 1) = xs.take i ++ [x] := by
  rw [List.take_add_one, h]
  rfl
theorem map_get {α β : Type} {f : α → β} {xs : List α} {i : Nat} {y : β} (h : (xs.map f)[i]? = some y) : ∃ x, xs[i]? = some x ∧ f x = y := by
  rw [List.getElem?_map] at h
  cases e : xs[i]? with
  | none => rw [e] at h; cases h
  | some x => rw [e] at h; exact ⟨x, rfl, Option.some.inj h⟩
end L2
namespace L2
open PySem PySem.Spec PyProof.Rows
section
variable {X : Cx} {K : PySem.W.Frag}
theorem op_neDK (hK : X.K = K) (hu : X.A.units + 64 < cLine) : OpR X (compareOp .NotEq) (rNeD K) := by
  subst hK
  exact op_neD hu
theorem ix_tupK (hK : X.K = K) : IxR X (rIxT K) := by
  subst hK
  exact ix_tup
theorem pg_tupK {es : List Expr} {kk n : Nat} {t : TGs} {pos : Pos} (hK : X.K = K) (hc : X.calm = true) (h : PGs X es t) (hn : (assignEach es X.env).length = n := by rfl) (hst : (assignEach es X.env).findIdx? (·.1) = none := by rfl) :
    PG X (.Tuple es kk pos) (gTup K n t) := by
  subst hK
  exact pg_tup hc h hn hst
end
end L2
namespace L2
open PySem PySem.Spec PyProof.Rows
section
variable {X : Cx}
def ipMul : TIp := fun x y H Q => ∃ i j, x = .int i ∧ y = .int j ∧ IntMulOk i j ∧ Q (.int (i * j)) H
/-- (a, b, ..) = a list of that length -/
def gLst (K : PySem.W.Frag) (n : Nat) (t : TGs) : TG := fun v σ H Q => ∃ a xs, v = .ref a ∧ SqL K H a xs ∧ xs.length = n ∧ t xs σ H Q
end
def BtA (a : Addr) (H H' : Hp) : Prop := ∀ b o, b ≠ a → H b = some o → H' b = some o
/-- no tuple stands there -/
def NT (H : Hp) (a : Addr) : Prop := ∀ o, H a = some o → (∀ vs, o ≠ .tup vs) ∧ ∀ q vs, o ≠ .frz q (.tup vs)
section
variable {K : PySem.W.Frag} {H H' H2 : Hp} {a b : Addr} {xs : List V}
theorem NT.lst (h : H a = some (.lst xs)) : NT H a := fun o e => by
  rw [h] at e
  cases e
  exact ⟨(fun _ z => nomatch z), (fun _ _ z => nomatch z)⟩
theorem BtA.of (e : Same H H') : BtA a H H' := fun b o _ h => e b o h
theorem BtA.trans (e : BtA a H H') (f : BtA a H' H2) : BtA a H H2 := fun b o n h => f b o n (e b o n h)
theorem BtA.upd {o : HO} : BtA a H (L2.upd H a o) := fun b _ n h => by rw [upd_ne n]; exact h
theorem sqT_but {r : Addr} {vs : List V} (nt : NT H a) (e : BtA a H H') (h : SqT K H r vs) : SqT K H' r vs := by
  rcases h with (h | ⟨o, h⟩) | h
  · exact .inl (.inl (e _ _ (fun z => by subst z; exact (nt _ h).1 _ rfl) h))
  · exact .inl (.inr ⟨o, e _ _ (fun z => by subst z; exact (nt _ h).2 _ _ rfl) h⟩)
  · exact .inr h
mutual
theorem DatAt.but (nt : NT H a) (e : BtA a H H') : ∀ {v : V} {d : Dt}, DatAt K H v d → DatAt K H' v d
  | v, .non, h => by simpa [DatAt] using h
  | v, .int i, h => by simpa [DatAt] using h
  | v, .str i, h => by simpa [DatAt] using h
  | v, .tup ds, h => by
    obtain ⟨r, vs, rfl, h1, h2⟩ := h.un
    exact .tup (sqT_but nt e h1) (DatsAt.but nt e h2)
theorem DatsAt.but (nt : NT H a) (e : BtA a H H') : ∀ {vs : List V} {ds : List Dt}, DatsAt K H vs ds → DatsAt K H' vs ds
  | vs, [], h => by
    rw [h.un0]
    exact .nil
  | vs, d :: ds, h => by
    obtain ⟨v, r, rfl, h1, h2⟩ := h.un
    exact .cons (DatAt.but nt e h1) (DatsAt.but nt e h2)
end
theorem LsM.but {ds : List Dt} (h : LsM K H b ds) (nt : NT H a) (e : BtA a H H') (n : b ≠ a) : LsM K H' b ds := by
  obtain ⟨vs, h1, h2⟩ := h
  exact ⟨vs, e _ _ n h1, h2.but nt e⟩
structure LLM (K : PySem.W.Frag) (H : Hp) (a : Addr) (ps : List (Addr × List Dt)) : Prop where
  at_ : H a = some (.lst (ps.map fun p => V.ref p.1))
  it : ∀ p ∈ ps, LsM K H p.1 p.2
  ne : ∀ p ∈ ps, p.1 ≠ a
end
section
variable {X : Cx} {pins : List (Addr × Obj)} {σ : St} {H : Hp} {s : Shared}
/-- != of two lists of lists that are alike -/
def rNeLL (K : PySem.W.Frag) : R2 := fun x y H Q => ∃ a b ps qs, x = .ref a ∧ y = .ref b ∧ LLM K H a ps ∧ LLM K H b qs ∧ ps.map (·.2) = qs.map (·.2) ∧ (∀ p ∈ ps, Dt.hgts p.2 ≤ 30) ∧ Q (.bl false) H
end
end L2
namespace L2
open PySem PySem.Spec PySem.W PyProof.Rows
/-- the tree's answer where every question is answered by lt -/
def runT {α : Type} (lt : Nat → Nat → Bool) : KasT α → α
  | .ret a => a
  | .ask i j k => runT lt (k (lt i j))
theorem runT_bind {α β : Type} {lt : Nat → Nat → Bool} {f : α → KasT β} : ∀ (t : KasT α), runT lt (t.bind f) = runT lt (f (runT lt t))
  | .ret _ => rfl
  | .ask i j k => runT_bind (k (lt i j))
theorem Tr.wpR {α : Type} {N : Nat} {P : α → Prop} {cmp : Nat → Nat → (Bool → Shared → Prop) → Shared → Prop} {s : Shared} {Q : α → Shared → Prop} (lt : Nat → Nat → Bool)
    (hc : ∀ i j (C : Bool → Shared → Prop), i < N → j < N → C (lt i j) s → cmp i j C s) : ∀ {t : KasT α}, Tr N P t → (P (runT lt t) → Q (runT lt t) s) → t.kasWp cmp Q s
  | .ret _, h, q => q h
  | .ask i j _, h, q => hc i j _ h.1 h.2.1 (Tr.wpR lt hc (h.2.2 _) q)
/-- an order of the places below N, no two alike -/
structure Lo (N : Nat) (lt : Nat → Nat → Bool) : Prop where
  tri : ∀ i j, i < N → j < N → i ≠ j → lt i j = false → lt j i = true
  tr : ∀ i j k, i < N → j < N → k < N → lt i j = true → lt j k = true → lt i k = true
  asym : ∀ i j, i < N → j < N → lt i j = true → lt j i = false
abbrev gp (p : Array Nat) (i : Nat) : Nat := p.getD i 0
def As (lt : Nat → Nat → Bool) (p : Array Nat) (k : Nat) : Prop := ∀ i j, i < j → j < k → lt (gp p i) (gp p j) = true
theorem gp_of {p q : Array Nat} {i j : Nat} (h : p[i]? = q[j]?) : gp p i = gp q j := by
  show p.getD i 0 = q.getD j 0
  rw [Array.getD_eq_getD_getElem?, Array.getD_eq_getD_getElem?, h]
section
variable {N : Nat} {lt : Nat → Nat → Bool} (L : Lo N lt)
theorem Pl.size {p : Array Nat} (h : Pl N p) : p.size = N := by simpa using h.size_eq
theorem Pl.ne {p : Array Nat} (h : Pl N p) {i j : Nat} (hi : i < N) (hj : j < N) (ne : i ≠ j) : gp p i ≠ gp p j := by
  have nd : p.toList.Nodup := by
    have := Array.perm_iff_toList_perm.mp h
    exact this.nodup_iff.mpr (by simpa using List.nodup_range)
  have hs := Pl.size h
  have e1 : gp p i = p.toList[i]'(by simp; omega) := by
    show p.getD i 0 = _
    simp [Array.getD, show i < p.size by omega]
  have e2 : gp p j = p.toList[j]'(by simp; omega) := by
    show p.getD j 0 = _
    simp [Array.getD, show j < p.size by omega]
  rw [e1, e2]
  intro z
  exact ne ((List.getElem_inj nd).mp z)
theorem gp_bub {p : Array Nat} {k l : Nat} (hk : k < p.size) (hl : l ≤ k) (i : Nat) : gp (bubble p k (k - l)) i = if i = l then gp p k else if l < i ∧ i ≤ k then gp p (i - 1) else gp p i := by
  have e := getElem?_bubble hk (k - l) (by omega) i
  have el : k - (k - l) = l := by omega
  rw [el] at e
  by_cases h1 : i = l
  · rw [if_pos h1] at e ⊢
    exact gp_of e
  · rw [if_neg h1] at e ⊢
    by_cases h2 : l < i ∧ i ≤ k
    · rw [if_pos h2] at e ⊢
      exact gp_of e
    · rw [if_neg h2] at e ⊢
      exact gp_of e
theorem gp_rev {p : Array Nat} {m : Nat} (hm : m ≤ p.size) (i : Nat) : gp (kas_rev p 0 m) i = if i < m then gp p (m - 1 - i) else gp p i := by
  have e := getElem?_mirror_all (xs := p) (i := 0) hm i
  by_cases h : i < m
  · rw [if_pos ⟨Nat.zero_le _, h⟩] at e
    rw [if_pos h]
    refine gp_of (e.trans ?_)
    congr 1
    omega
  · rw [if_neg (by omega)] at e
    rw [if_neg h]
    exact gp_of e
include L
/-- neighbours in order: all in order -/
theorem as_of_adj (hN : 0 < N) {p : Array Nat} (h : Pl N p) {m : Nat} (a : ∀ k, 0 < k → k < m → lt (gp p (k - 1)) (gp p k) = true) : As lt p m := by
  intro i j
  induction j with
  | zero => intro z _; omega
  | succ j ih =>
    intro hij hj
    have h1 := a (j + 1) (by omega) hj
    rw [Nat.add_sub_cancel] at h1
    by_cases e : i = j
    · rw [e]; exact h1
    · exact L.tr _ _ _ (h.below hN _) (h.below hN _) (h.below hN _) (ih (by omega) (by omega)) h1
theorem run_asc (hN : 0 < N) {p : Array Nat} (h : Pl N p) : ∀ f n, 0 < n → n + f ≤ N → (∀ k, 0 < k → k < n → lt (gp p (k - 1)) (gp p k) = true) →
    n ≤ runT lt (kas_asc p f n) ∧ runT lt (kas_asc p f n) ≤ n + f ∧ (∀ k, 0 < k → k < runT lt (kas_asc p f n) → lt (gp p (k - 1)) (gp p k) = true) ∧ (runT lt (kas_asc p f n) < n + f → lt (gp p (runT lt (kas_asc p f n))) (gp p (runT lt (kas_asc p f n) - 1)) = true)
  | 0, n, _, _, a => ⟨Nat.le_refl _, Nat.le_refl _, a, fun z => absurd z (Nat.lt_irrefl _)⟩
  | f + 1, n, h0, hn, a => by
    have e : runT lt (kas_asc p (f + 1) n) = runT lt (if lt (gp p n) (gp p (n - 1)) = true then KasT.ret n else kas_asc p f (n + 1)) := rfl
    rw [e]
    by_cases c : lt (gp p n) (gp p (n - 1)) = true
    · rw [if_pos c]
      exact ⟨Nat.le_refl _, Nat.le_add_right _ _, a, fun _ => c⟩
    · rw [if_neg c]
      have c' : lt (gp p n) (gp p (n - 1)) = false := by simpa using c
      have t := L.tri _ _ (h.below hN n) (h.below hN (n - 1)) (Pl.ne h (by omega) (by omega) (by omega)) c'
      have r := run_asc hN h f (n + 1) (by omega) (by omega) fun k k0 kn => by
        by_cases z : k = n
        · rw [z]; exact t
        · exact a k k0 (by omega)
      refine ⟨by omega, by omega, r.2.2.1, fun z => r.2.2.2 (by omega)⟩
theorem run_desc (hN : 0 < N) {p : Array Nat} (h : Pl N p) : ∀ f n, 0 < n → n + f ≤ N → (∀ k, 0 < k → k < n → lt (gp p k) (gp p (k - 1)) = true) →
    ∃ m, runT lt (kas_desc f p n 0) = (p, m, 0) ∧ n ≤ m ∧ m ≤ n + f ∧ ∀ k, 0 < k → k < m → lt (gp p k) (gp p (k - 1)) = true
  | 0, n, _, _, a => ⟨n, rfl, Nat.le_refl _, Nat.le_refl _, a⟩
  | f + 1, n, h0, hn, a => by
    have e : runT lt (kas_desc (f + 1) p n 0) = runT lt (if lt (gp p n) (gp p (n - 1)) = true then (if 0 > 0 then kas_desc f (kas_rev p (n - (0 + 1)) n) (n + 1) 0 else kas_desc f p (n + 1) 0)
        else .ask (gp p (n - 1)) (gp p n) fun d => if d = true then .ret (p, n, 0) else kas_desc f p (n + 1) (0 + 1)) := rfl
    rw [e]
    by_cases c : lt (gp p n) (gp p (n - 1)) = true
    · rw [if_pos c, if_neg (by omega)]
      obtain ⟨m, e1, e2, e3, e4⟩ := run_desc hN h f (n + 1) (by omega) (by omega) fun k k0 kn => by
        by_cases z : k = n
        · rw [z]; exact c
        · exact a k k0 (by omega)
      exact ⟨m, e1, by omega, by omega, e4⟩
    · rw [if_neg c]
      have c' : lt (gp p n) (gp p (n - 1)) = false := by simpa using c
      have t := L.tri _ _ (h.below hN n) (h.below hN (n - 1)) (Pl.ne h (by omega) (by omega) (by omega)) c'
      refine ⟨n, ?_, Nat.le_refl _, by omega, a⟩
      show runT lt (if lt (gp p (n - 1)) (gp p n) = true then KasT.ret (p, n, 0) else kas_desc f p (n + 1) (0 + 1)) = _
      rw [if_pos t]
      rfl
theorem run_part (hN : 0 < N) {p : Array Nat} (h : Pl N p) (hn : 1 < N) (c : lt (gp p 1) (gp p 0) = true) :
    ∃ m q, runT lt (kas_descPart 1 N p) = (m, q) ∧ Pl N q ∧ 0 < m ∧ m ≤ N ∧ As lt q m := by
  obtain ⟨m, e1, e2, e3, e4⟩ := run_desc L hN h (N - (1 + 1)) (1 + 1) (by omega) (by omega) fun k k0 k1 => by
    have : k = 1 := by omega
    rw [this]; exact c
  have hq : Pl N (kas_rev p 0 m) := h.rev _ _
  have hs := Pl.size h
  have ad : ∀ k, 0 < k → k < m → lt (gp (kas_rev p 0 m) (k - 1)) (gp (kas_rev p 0 m) k) = true := fun k k0 k1 => by
    rw [gp_rev (by omega), gp_rev (by omega), if_pos (by omega), if_pos k1]
    have := e4 (m - 1 - (k - 1)) (by omega) (by omega)
    have e5 : m - 1 - (k - 1) - 1 = m - 1 - k := by omega
    rw [e5] at this
    exact this
  have r := run_asc L hN hq (N - m) m (by omega) (by omega) ad
  refine ⟨runT lt (kas_asc (kas_rev p 0 m) (N - m) m), kas_rev p 0 m, ?_, hq, by omega, by omega, as_of_adj L hN hq r.2.2.1⟩
  unfold kas_descPart
  rw [runT_bind, e1]
  show runT lt (if 0 > 0 then _ else kas_tail3 m N p) = _
  rw [if_neg (by omega)]
  unfold kas_tail3
  rw [runT_bind]
  rfl
theorem run_count (hN : 0 < N) {p : Array Nat} (h : Pl N p) : ∃ m q, runT lt (kas_count N p) = (m, q) ∧ Pl N q ∧ 0 < m ∧ m ≤ N ∧ As lt q m := by
  have r := run_asc L hN h (N - 1) 1 (by omega) (by omega) fun k k0 k1 => by omega
  unfold kas_count
  rw [runT_bind]
  generalize runT lt (kas_asc p (N - 1) 1) = n at r
  obtain ⟨r1, r2, r3, r4⟩ := r
  by_cases c : (n == N) = true
  · rw [if_pos c]
    exact ⟨n, p, rfl, h, by omega, by omega, as_of_adj L hN h r3⟩
  · rw [if_neg c]
    have nN : n ≠ N := by simpa using c
    by_cases c2 : n > 1
    · rw [if_pos c2]
      have a := as_of_adj L hN h r3
      have b := a 0 (n - 1) (by omega) (by omega)
      refine ⟨n, p, ?_, h, by omega, by omega, a⟩
      show runT lt (if lt (gp p 0) (gp p (n - 1)) = true then KasT.ret (n, p) else _) = _
      rw [if_pos b]
      rfl
    · rw [if_neg c2]
      have n1 : n = 1 := by omega
      subst n1
      exact run_part L hN h (by omega) (r4 (by omega))
theorem run_place (hN : 0 < N) {p : Array Nat} (h : Pl N p) {k : Nat} (hk : k < N) (a : As lt p k) : ∀ f l r, l ≤ r → r ≤ k → r - l ≤ f → (∀ i, i < l → lt (gp p i) (gp p k) = true) → (∀ i, r ≤ i → i < k → lt (gp p k) (gp p i) = true) →
    ∃ x, runT lt (kas_place p k f l r) = x ∧ x ≤ k ∧ (∀ i, i < x → lt (gp p i) (gp p k) = true) ∧ (∀ i, x ≤ i → i < k → lt (gp p k) (gp p i) = true)
  | 0, l, r, h1, h2, h3, h4, h5 => ⟨l, rfl, by omega, h4, fun i i0 i1 => h5 i (by omega) i1⟩
  | f + 1, l, r, h1, h2, h3, h4, h5 => by
    have e : runT lt (kas_place p k (f + 1) l r) = runT lt (if l ≥ r then KasT.ret l else .ask (gp p k) (gp p ((l + r) / 2)) fun c => if c = true then kas_place p k f l ((l + r) / 2) else kas_place p k f ((l + r) / 2 + 1) r) := rfl
    rw [e]
    by_cases c : l ≥ r
    · rw [if_pos c]
      exact ⟨l, rfl, by omega, h4, fun i i0 i1 => h5 i (by omega) i1⟩
    · rw [if_neg c]
      generalize hm : (l + r) / 2 = m
      have m1 : l ≤ m := by omega
      have m2 : m < r := by omega
      show ∃ x, runT lt (if lt (gp p k) (gp p m) = true then kas_place p k f l m else kas_place p k f (m + 1) r) = x ∧ _
      by_cases c2 : lt (gp p k) (gp p m) = true
      · rw [if_pos c2]
        refine run_place hN h hk a f l m m1 (by omega) (by omega) h4 fun i i0 i1 => ?_
        by_cases z : i = m
        · rw [z]; exact c2
        · exact L.tr _ _ _ (h.below hN _) (h.below hN _) (h.below hN _) c2 (a m i (by omega) i1)
      · rw [if_neg c2]
        have c' : lt (gp p k) (gp p m) = false := by simpa using c2
        have t := L.tri _ _ (h.below hN k) (h.below hN m) (Pl.ne h hk (by omega) (by omega)) c'
        refine run_place hN h hk a f (m + 1) r (by omega) h2 (by omega) (fun i i0 => ?_) h5
        by_cases z : i = m
        · rw [z]; exact t
        · exact L.tr _ _ _ (h.below hN _) (h.below hN _) (h.below hN _) (a i m (by omega) (by omega)) t
theorem run_bin (hN : 0 < N) : ∀ f (p : Array Nat) k, Pl N p → k + f = N → As lt p k → As lt (runT lt (kas_bin f p k)) N
  | 0, p, k, _, hk, a => by
    have : k = N := by omega
    subst this
    exact a
  | f + 1, p, k, h, hk, a => by
    have hs := Pl.size h
    obtain ⟨x, e1, e2, e3, e4⟩ := run_place L hN h (show k < N by omega) a k 0 k (Nat.zero_le _) (Nat.le_refl _) (by omega) (fun i z => by omega) (fun i z1 z2 => by omega)
    have e : runT lt (kas_bin (f + 1) p k) = runT lt (kas_bin f (bubble p k (k - x)) (k + 1)) := by
      show runT lt ((kas_place p k k 0 k).bind fun l => kas_bin f (bubble p k (k - l)) (k + 1)) = _
      rw [runT_bind, e1]
    rw [e]
    refine run_bin hN f _ (k + 1) (h.bub _ _) (by omega) fun i j hij hj => ?_
    rw [gp_bub (by omega) e2, gp_bub (by omega) e2]
    by_cases i1 : i = x
    · rw [if_pos i1, if_neg (by omega), if_pos (by omega)]
      exact e4 (j - 1) (by omega) (by omega)
    · rw [if_neg i1]
      by_cases j1 : j = x
      · rw [if_pos j1, if_neg (by omega)]
        exact e3 i (by omega)
      · rw [if_neg j1]
        by_cases i2 : x < i ∧ i ≤ k
        · rw [if_pos i2, if_pos (by omega)]
          exact a (i - 1) (j - 1) (by omega) (by omega)
        · rw [if_neg i2]
          by_cases j2 : x < j ∧ j ≤ k
          · rw [if_pos j2]
            exact a i (j - 1) (by omega) (by omega)
          · rw [if_neg j2]
            exact a i j hij (by omega)
theorem run_sort (hN : 0 < N) : As lt (runT lt (kas_sort N)) N := by
  unfold kas_sort
  rw [runT_bind]
  obtain ⟨m, q, e, hq, m0, m1, a⟩ := run_count L hN (show Pl N (List.toArray (List.range N)) from Array.Perm.refl _)
  rw [e]
  show As lt (runT lt (if m < N then kas_bin (N - max m 1) q (max m 1) else KasT.ret q)) N
  have em : max m 1 = m := by omega
  rw [em]
  by_cases c : m < N
  · rw [if_pos c]
    exact run_bin L hN _ _ _ hq (by omega) a
  · rw [if_neg c]
    have : m = N := by omega
    subst this
    exact a
end
end L2
namespace L2
open PySem PySem.Spec PySem.W PyProof.Rows
mutual
def VD (h : Heap) : Dt → Value → Prop
  | .non, v => v = Value.none
  | .int n, v => ∃ t, v = Value.int n t
  | .str x, v => ∃ t, v = Value.str x t
  | .tup ds, v => ∃ a o n, ∃ its : List Value, v = Value.ref a ∧ h.get? a = some o ∧ o.cls = .type "tuple" ∧ o.data = .seq its.toArray n ∧ VDs h ds its
def VDs (h : Heap) : List Dt → List Value → Prop
  | [], vs => vs = []
  | d :: ds, vs => ∃ v r, vs = v :: r ∧ VD h d v ∧ VDs h ds r
end
mutual
def hashD (w : World) : Dt → Int
  | .non => reduceHash 4238894112
  | .int n => hashInt n
  | .str x => hashStr w x
  | .tup ds => reduceHash (Builtin.Tuple.tupleHashOf (hashDs w ds))
def hashDs (w : World) : List Dt → List Int
  | [] => []
  | d :: ds => hashD w d :: hashDs w ds
end
section
variable {X : Cx} {pins : List (Addr × Obj)} {σ : L2.St} {H : Hp} {s : Shared}
mutual
theorem vd_of (I : Inv X pins σ H s) : ∀ {x : V} {d : Dt} {u : Value}, DatAt X.K H x d → RelV x u → VD s.heap d u
  | x, .non, u, h, r => by
    have := h.non_eq
    subst this
    simpa [VD] using (show u = Value.none from r)
  | x, .int n, u, h, r => by
    have := h.int_eq
    subst this
    simpa [VD] using (show ∃ t, u = Value.int n t from r)
  | x, .str n, u, h, r => by
    have := h.str_eq
    subst this
    simpa [VD] using (show ∃ t, u = Value.str n t from r)
  | x, .tup ds, u, h, r => by
    obtain ⟨a, vs, rfl, h1, h2⟩ := h.un
    obtain ⟨its, rv, ⟨o, e, c, n, dd⟩, _⟩ := I.tuple h1
    simp only [VD]
    exact ⟨a, o, n, its, r, e, c, dd, vds_of I h2 rv⟩
theorem vds_of (I : Inv X pins σ H s) : ∀ {xs : List V} {ds : List Dt} {us : List Value}, DatsAt X.K H xs ds → Vals xs us → VDs s.heap ds us
  | xs, [], us, h, r => by
    have := h.un0
    subst this
    cases r
    simp [VDs]
  | xs, d :: ds, us, h, r => by
    obtain ⟨v, w', rfl, h1, h2⟩ := h.un
    cases r with
    | cons r1 r2 =>
      simp only [VDs]
      exact ⟨_, _, rfl, vd_of I h1 r1, vds_of I h2 r2⟩
end
end
section
variable {prog : Program} {w : World} {E : Value → Shared → Prop}
mutual
/-- what is hashed of data -/
theorem hash_vd : ∀ (d : Dt) (v : Value) (A : Around) (s : Shared) (Q : Int → Shared → Prop), VD s.heap d v → A.units + d.hgt < cLine → (∀ tk, Q (hashD w d) { s with toks := tk }) → wpAny (model prog w) A (pyHash v) Q E s
  | .non, v, A, s, Q, x, hu, q => by
    have e : v = Value.none := by simpa [VD] using x
    subst e
    refine pyHash_slot (T := "NoneType") rfl F.slot_NoneType_hash F.entry_NoneType_hash (F.args_NoneType_hash_1 _) (beq_builtin_none _) (.inr (by omega)) ?_
    exact wpAny_bind (wpAny_pure (wpAny_bind (wpAny_mkInt (wpAny_pure ⟨_, _, rfl, q _⟩))))
  | .int n, v, A, s, Q, x, _, q => by
    obtain ⟨t, rfl⟩ : ∃ t, v = Value.int n t := by simpa [VD] using x
    exact wpAny_pyHash_int (q _)
  | .str n, v, A, s, Q, x, _, q => by
    obtain ⟨t, rfl⟩ : ∃ t, v = Value.str n t := by simpa [VD] using x
    exact wpAny_pyHash_str (q _)
  | .tup ds, v, A, s, Q, x, hu, q => by
    simp only [VD] at x
    obtain ⟨a, o, n, its, rfl, e, c, dd, hs⟩ := x
    have hh : Dt.hgt (.tup ds) = Dt.hgts ds + 1 := by simp [Dt.hgt]
    rw [hh] at hu
    refine pyHash_slot (T := "tuple") ⟨_, e, c⟩ F.slot_tuple_hash F.entry_tuple_hash (F.args_tuple_hash_1 _) (beq_builtin_none _) (.inr (by omega)) ?_
    show wpAny _ _ (Builtin.Tuple.tupleItemsOf (.ref a) >>= _) _ _ s
    refine wpAny_bind (wpAny_tupleItemsOf e dd (wpAny_bind ?_))
    rw [← Array.forIn_toList]
    refine hash_vds ds its A.in1 s #[] _ hs (by rw [Around.in1_units]; omega) fun tk b hb => ?_
    show wpAny _ _ (retInt (Builtin.Tuple.tupleHashOf b.toList)) _ _ _
    rw [hb]
    exact wpAny_bind (wpAny_mkInt (wpAny_pure ⟨_, _, rfl, q _⟩))
theorem hash_vds : ∀ (ds : List Dt) (vs : List Value) (A : Around) (s : Shared) (b : Array Int) (Q : Array Int → Shared → Prop), VDs s.heap ds vs → A.units + Dt.hgts ds < cLine →
    (∀ tk b', b'.toList = b.toList ++ hashDs w ds → Q b' { s with toks := tk }) →
    wpAny (model prog w) A (forIn vs b fun y r => do let k ← pyHash y; pure PUnit.unit; pure (ForInStep.yield (r.push k))) Q E s
  | [], vs, A, s, b, Q, x, _, q => by
    have e : vs = [] := by simpa [VDs] using x
    subst e
    exact wpAny_pure (q s.toks b (by simp [hashDs]))
  | d :: ds, vs, A, s, b, Q, x, hu, q => by
    simp only [VDs] at x
    obtain ⟨v, r, rfl, x1, x2⟩ := x
    have hh : Dt.hgts (d :: ds) = max d.hgt (Dt.hgts ds) := by simp [Dt.hgts]
    rw [hh] at hu
    rw [List.forIn_cons]
    refine wpAny_bind (wpAny_bind (hash_vd d v A s _ x1 (by omega) fun tk => wpAny_bind (wpAny_pure (wpAny_pure ?_))))
    exact hash_vds ds r A _ _ Q x2 (by omega) fun tk' b' hb => q tk' b' (by simp [hb, hashDs])
end
/-- no other code runs where data are compared -/
theorem quiet_vd : ∀ (n : Nat) (d : Dt) (v : Value) (A : Around) (s : Shared) (Q : Bool → Shared → Prop), VD s.heap d v → d.hgt ≤ n → Q true s → wpAny (model prog w) A (eqIsQuiet n v) Q E s := by
  intro n
  induction n with
  | zero =>
    intro d v A s Q x hu q
    have hv : carriedByValue v = true := by
      cases d with
      | non => simp only [VD] at x; subst x; rfl
      | int i => simp only [VD] at x; obtain ⟨t, rfl⟩ := x; rfl
      | str i => simp only [VD] at x; obtain ⟨t, rfl⟩ := x; rfl
      | tup ds => simp [Dt.hgt] at hu
    rw [eqIsQuiet_byValue 0 hv]
    exact wpAny_pure q
  | succ n ih =>
    intro d v A s Q x hu q
    cases d with
    | non => simp only [VD] at x; subst x; rw [eqIsQuiet_byValue _ rfl]; exact wpAny_pure q
    | int i => simp only [VD] at x; obtain ⟨t, rfl⟩ := x; rw [eqIsQuiet_byValue _ rfl]; exact wpAny_pure q
    | str i => simp only [VD] at x; obtain ⟨t, rfl⟩ := x; rw [eqIsQuiet_byValue _ rfl]; exact wpAny_pure q
    | tup ds =>
      simp only [VD] at x
      obtain ⟨a, o, m, its, rfl, e, c, dd, hs⟩ := x
      have hh : Dt.hgt (.tup ds) = Dt.hgts ds + 1 := by simp [Dt.hgt]
      rw [hh] at hu
      have hT : s.TypeIs (.ref a) "tuple" := ⟨o, e, c⟩
      unfold eqIsQuiet
      refine wpAny_bind (wpAny_specialOf hT F.slot_tuple_eq.lookup ?_)
      show wpAny _ _ (isInstance (.ref a) (.type "tuple") >>= _) _ _ s
      refine wpAny_bind (wpAny_isInstance hT isSubtype_tuple_tuple ?_)
      simp only [Bool.not_true, Bool.false_eq_true, if_false]
      refine wpAny_bind (wpAny_seqItems e dd (wpAny_bind ?_))
      show wpAny _ _ (forIn its.toArray _ _) _ _ s
      rw [← Array.forIn_toList]
      refine wpAny_forIn_list _ (fun rest r s' => r.1 = none ∧ s' = s ∧ ∃ es, VDs s.heap es rest ∧ Dt.hgts es ≤ n) _ ?_ ?_ _ _ ⟨rfl, rfl, ds, hs, by omega⟩
      · rintro y rest r s' ⟨hr, rfl, es, h1, h2⟩
        cases es with
        | nil => simp [VDs] at h1
        | cons d es =>
          simp only [VDs] at h1
          obtain ⟨v, r', e1, x1, x2⟩ := h1
          cases e1
          have hh : Dt.hgts (d :: es) = max d.hgt (Dt.hgts es) := by simp [Dt.hgts]
          rw [hh] at h2
          refine wpAny_bind (ih d y A s' _ x1 (by omega) ?_)
          simp only [Bool.not_true, Bool.false_eq_true, if_false]
          exact wpAny_pure ⟨rfl, rfl, es, x2, by omega⟩
      · rintro ⟨r1, r2⟩ s' ⟨hr, rfl, _⟩
        simp only at hr
        subst hr
        exact wpAny_pure q
/-- entries of a dict: data, key, value -/
def entD (w : World) (x : Dt × Value × Value) : DictEntry := ⟨hashD w x.1, x.2.1, x.2.2⟩
theorem ent_at {es : Array DictEntry} {ks : List (Dt × Value × Value)} (he : es.toList = ks.map (entD w)) (j : Nat) : es[j]? = (ks[j]?).map (entD w) := by
  rw [← Array.getElem?_toList, he, List.getElem?_map]
theorem places_mem {es : Array DictEntry} {ks : List (Dt × Value × Value)} (he : es.toList = ks.map (entD w)) {h : Int} {i : Nat} :
    i ∈ placesWithHash es.size (fun i => es[i]?.map (·.hash)) h ↔ ∃ y, ks[i]? = some y ∧ hashD w y.1 = h := by
  unfold placesWithHash
  rw [List.mem_filter, List.mem_range]
  constructor
  · rintro ⟨_, h2⟩
    dsimp only at h2
    rw [ent_at he i] at h2
    cases e : ks[i]? with
    | none => rw [e] at h2; simp at h2
    | some y =>
      rw [e] at h2
      exact ⟨y, rfl, by simpa [entD] using h2⟩
  · rintro ⟨y, e, rfl⟩
    have e2 : es[i]? = some (entD w y) := by rw [ent_at he i, e]; rfl
    refine ⟨(Array.getElem?_eq_some_iff.mp e2).1, ?_⟩
    dsimp only
    rw [e2]
    simp [entD]
theorem places_nodup {n : Nat} {f : Nat → Option Int} {h : Int} : (placesWithHash n f h).Nodup := by
  unfold placesWithHash
  exact List.nodup_range.filter _
theorem nd_at {ks : List (Dt × Value × Value)} (hn : (ks.map (·.1)).Nodup) {i j : Nat} {x y : Dt × Value × Value} (hi : ks[i]? = some x) (hj : ks[j]? = some y) (e : x.1 = y.1) : i = j := by
  have h1 : (ks.map (·.1))[i]? = some x.1 := by rw [List.getElem?_map, hi]; rfl
  have h2 : (ks.map (·.1))[j]? = some x.1 := by rw [List.getElem?_map, hj, e]; rfl
  obtain ⟨l1, g1⟩ := List.getElem?_eq_some_iff.mp h1
  obtain ⟨l2, g2⟩ := List.getElem?_eq_some_iff.mp h2
  exact (List.getElem_inj hn).mp (g1.trans g2.symm)
/-- the places done so far, and what was found there -/
def Fnd (ks : List (Dt × Value × Value)) (k : Dt) (done : List Nat) (hit : Option Nat) : Prop :=
  (hit = none ∧ ∀ i ∈ done, ∀ p : Value × Value, ks[i]? ≠ some (k, p)) ∨ ∃ (j : Nat) (p : Value × Value), hit = some j ∧ j ∈ done ∧ ks[j]? = some (k, p)
/-- a walk over the places with that hash, whatever it does at each but what is told -/
theorem loop_vd {A : Around} {s : Shared} {es : Array DictEntry} {ks : List (Dt × Value × Value)} {k : Dt} (he : es.toList = ks.map (entD w)) (hn : (ks.map (·.1)).Nodup)
    {f : Nat → Option (Option Nat) × Option Nat → Sem (ForInStep (Option (Option Nat) × Option Nat))} {R : Option (Option Nat) × Option Nat → Shared → Prop}
    (hf : ∀ (i : Nat) (y : Dt × Value × Value) (hit : Option Nat) (C : ForInStep (Option (Option Nat) × Option Nat) → Shared → Prop), y ∈ ks → es[i]? = some (entD w y) → hashD w y.1 = hashD w k →
      (Dt.beq y.1 k = true → hit = none ∧ C (.done (some (some i), none)) s ∧ C (.yield (none, some i)) s) → (Dt.beq y.1 k = false → C (.yield (none, hit)) s) → wpAny (model prog w) A (f i (none, hit)) C E s)
    (h1 : ∀ (j : Nat) (p : Value × Value), ks[j]? = some (k, p) → R (some (some j), none) s) (h2 : ∀ hit, Fnd ks k (placesWithHash es.size (fun i => es[i]?.map (·.hash)) (hashD w k)) hit → R (none, hit) s) :
    wpAny (model prog w) A (forIn (placesWithHash es.size (fun i => es[i]?.map (·.hash)) (hashD w k)) ((none, none) : Option (Option Nat) × Option Nat) f) R E s := by
  have nd : (placesWithHash es.size (fun i => es[i]?.map (·.hash)) (hashD w k)).Nodup := places_nodup
  have mem : ∀ i ∈ placesWithHash es.size (fun i => es[i]?.map (·.hash)) (hashD w k), ∃ y, ks[i]? = some y ∧ hashD w y.1 = hashD w k := fun i hi => (places_mem he).mp hi
  generalize placesWithHash es.size (fun i => es[i]?.map (·.hash)) (hashD w k) = pl at nd mem h2
  refine wpAny_forIn_list _ (fun rest b s' => s' = s ∧ ∃ done hit, pl = done ++ rest ∧ b = (none, hit) ∧ Fnd ks k done hit) _ ?_ ?_ _ _ ⟨rfl, [], none, rfl, rfl, .inl ⟨rfl, fun _ h => nomatch h⟩⟩
  · rintro i rest b s' ⟨rfl, done, hit, e, rfl, fd⟩
    obtain ⟨y, ey, hy⟩ := mem i (by rw [e]; exact List.mem_append_right _ (List.mem_cons_self ..))
    have e2 : es[i]? = some (entD w y) := by rw [ent_at he i, ey]; rfl
    have nin : i ∉ done := fun z => by
      rw [e] at nd
      exact (List.nodup_append.mp nd).2.2 i z i (List.mem_cons_self ..) rfl
    refine hf i y hit _ (List.mem_of_getElem? ey) e2 hy (fun hb => ?_) (fun hb => ?_)
    · have ek : y.1 = k := (Dt.beq_iff _ _).mp hb
      have ey' : ks[i]? = some (k, y.2) := by rw [ey, ← ek]
      have hz : hit = none := by
        rcases fd with ⟨z, _⟩ | ⟨j, p, _, hj, ej⟩
        · exact z
        · exact absurd (nd_at hn ej ey ek.symm ▸ hj) nin
      refine ⟨hz, h1 i y.2 ey', rfl, done ++ [i], some i, by rw [e]; simp, rfl, .inr ⟨i, y.2, rfl, by simp, ey'⟩⟩
    · refine ⟨rfl, done ++ [i], hit, by rw [e]; simp, rfl, ?_⟩
      rcases fd with ⟨z, q⟩ | ⟨j, p, z, hj, ej⟩
      · refine .inl ⟨z, fun m hm p em => ?_⟩
        rcases List.mem_append.mp hm with hm | hm
        · exact q m hm p em
        · cases List.mem_singleton.mp hm
          rw [ey] at em
          cases em
          rw [Dt.beq_self] at hb
          cases hb
      · exact .inr ⟨j, p, z, List.mem_append_left _ hj, ej⟩
  · rintro b s' ⟨rfl, done, hit, e, rfl, fd⟩
    rw [List.append_nil] at e
    subst e
    exact h2 hit fd
theorem find_vd {A : Around} {s : Shared} {d : Addr} {o : Obj} {es : Array DictEntry} {ep : Nat} {ks : List (Dt × Value × Value)} {k : Dt} {key : Value} {Q : Option Nat → Shared → Prop}
    (ho : s.heap.get? d = some o) (hd : o.data = .dict es ep) (he : es.toList = ks.map (entD w)) (hn : (ks.map (·.1)).Nodup) (hst : key = Value.none ∨ (∃ n t, key = Value.int n t) ∨ ∃ a, key = Value.ref a)
    (heq : ∀ x ∈ ks, ∀ Q : Bool → Shared → Prop, Q (Dt.beq x.1 k) s → wpAny (model prog w) A (eqBool x.2.1 key) Q E s)
    (hq : ∀ v, (v = key ∨ ∃ x ∈ ks, v = x.2.1) → ∀ Q : Bool → Shared → Prop, Q true s → wpAny (model prog w) A (eqIsQuiet 8 v) Q E s)
    (hid : ∀ x ∈ ks, x.2.1 = key → x.1 = k)
    (hnone : (∀ (j : Nat) (p : Value × Value), ks[j]? ≠ some (k, p)) → Q none s) (hsome : ∀ (j : Nat) (p : Value × Value), ks[j]? = some (k, p) → Q (some j) s) : wpAny (model prog w) A (dictFind d key (hashD w k)) Q E s := by
  have fin : ∀ hit, Fnd ks k (placesWithHash es.size (fun i => es[i]?.map (·.hash)) (hashD w k)) hit → Q hit s := by
    rintro hit (⟨rfl, h⟩ | ⟨j, p, rfl, _, h⟩)
    · exact hnone fun j p e => h j ((places_mem he).mpr ⟨_, e, rfl⟩) p e
    · exact hsome j p h
  have mayTell : ∀ R : Bool → Shared → Prop, R false s → wpAny (model prog w) A (tableMayTell key ((placesWithHash es.size (fun i => es[i]?.map (·.hash)) (hashD w k)).filterMap fun i => es[i]?.map (·.key))) R E s := by
    intro R hR
    have all : ∀ v ∈ ((placesWithHash es.size (fun i => es[i]?.map (·.hash)) (hashD w k)).filterMap fun i => es[i]?.map (·.key)), ∃ x ∈ ks, v = x.2.1 := fun v hv => by
      obtain ⟨i, hi, e⟩ := List.mem_filterMap.mp hv
      obtain ⟨y, ey, _⟩ := (places_mem he).mp hi
      rw [ent_at he i, ey] at e
      exact ⟨y, List.mem_of_getElem? ey, (Option.some.inj e).symm⟩
    unfold tableMayTell
    split
    · exact wpAny_pure hR
    · refine wpAny_bind (hq key (.inl rfl) _ ?_)
      rw [if_neg (by simp)]
      refine wpAny_bind (wpAny_forIn_list _ (fun rest r s' => s' = s ∧ r = (none, ()) ∧ ∀ v ∈ rest, ∃ x ∈ ks, v = x.2.1) _ ?_ ?_ _ _ ⟨rfl, rfl, all⟩)
      · rintro v rest r s' ⟨rfl, rfl, h⟩
        refine wpAny_bind (hq v (.inr (h v (List.mem_cons_self ..))) _ ?_)
        rw [if_neg (by simp)]
        exact wpAny_pure ⟨rfl, rfl, fun u hu => h u (List.mem_cons_of_mem _ hu)⟩
      · rintro r s' ⟨rfl, rfl, _⟩
        exact wpAny_pure hR
  have plain : wpAny (model prog w) A (dictWalkPlain d key (hashD w k) es (placesWithHash es.size (fun i => es[i]?.map (·.hash)) (hashD w k))) Q E s := by
    have mem : ∀ i ∈ placesWithHash es.size (fun i => es[i]?.map (·.hash)) (hashD w k), ∃ y, ks[i]? = some y ∧ hashD w y.1 = hashD w k := fun i hi => (places_mem he).mp hi
    unfold dictWalkPlain
    generalize placesWithHash es.size (fun i => es[i]?.map (·.hash)) (hashD w k) = pl at mem fin
    refine wpAny_bind (wpAny_forIn_list _ (fun rest r s' => s' = s ∧ r = (none, ()) ∧ ∃ done, pl = done ++ rest ∧ ∀ i ∈ done, ∀ p : Value × Value, ks[i]? ≠ some (k, p)) _ ?_ ?_ _ _ ⟨rfl, rfl, [], rfl, fun _ h => nomatch h⟩)
    · rintro i rest r s' ⟨rfl, rfl, done, e, no⟩
      obtain ⟨y, ey, hh⟩ := mem i (by rw [e]; exact List.mem_append_right _ (List.mem_cons_self ..))
      have ei : es[i]? = some (entD w y) := by rw [ent_at he i, ey]; rfl
      rw [ei]
      dsimp only
      rw [if_pos (show ((entD w y).hash == hashD w k) = true from beq_iff_eq.mpr hh)]
      refine wpAny_bind (wpAny_dictEpoch ho hd (wpAny_bind (heq y (List.mem_of_getElem? ey) _ (wpAny_bind (wpAny_dictEpoch ho hd ?_)))))
      rw [if_neg (by simp)]
      cases hb : Dt.beq y.1 k with
      | true =>
        have ek : y.1 = k := (Dt.beq_iff _ _).mp hb
        rw [if_pos rfl]
        exact wpAny_bind (wpAny_rule (wpAny_pure (wpAny_pure (hsome i y.2 (by rw [ey, ← ek])))))
      | false =>
        rw [if_neg (by simp)]
        refine wpAny_bind (wpAny_rule (wpAny_pure ⟨rfl, rfl, done ++ [i], by rw [e]; simp, fun m hm p em => ?_⟩))
        rcases List.mem_append.mp hm with hm | hm
        · exact no m hm p em
        · cases List.mem_singleton.mp hm
          rw [ey] at em
          cases em
          rw [Dt.beq_self] at hb
          cases hb
    · rintro r s' ⟨rfl, rfl, done, e, no⟩
      rw [List.append_nil] at e
      subst e
      exact wpAny_pure (fin none (.inl ⟨rfl, no⟩))
  rcases hst with rfl | ⟨n, t, rfl⟩ | ⟨a, rfl⟩
  · unfold dictFind
    try with_reducible refine wpAny_holding ?_
    refine wpAny_bind (wpAny_dictEntries ho hd ?_)
    dsimp only
    by_cases hall : ((Value.none :: (placesWithHash es.size (fun i => es[i]?.map (·.hash)) (hashD w k)).filterMap fun i => es[i]?.map (·.key)).all carriedByValue) = true
    · rw [if_pos hall]
      exact plain
    · rw [if_neg hall]
      by_cases hone : (((placesWithHash es.size (fun i => es[i]?.map (·.hash)) (hashD w k)).filterMap fun i => es[i]?.map (·.key)) == [Value.none]) = true
      · rw [if_pos hone]
        refine wpAny_bind (wpAny_pure ?_)
        rw [if_neg (by simp)]
        refine wpAny_bind (loop_vd he hn (fun i y hit C hy ei hh ht hf => ?_) (fun j p e => wpAny_pure (hsome j p e)) (fun hit f => wpAny_pure (fin hit f)))
        rw [ei]
        dsimp only
        rw [if_pos (show ((entD w y).hash == hashD w k) = true from beq_iff_eq.mpr hh)]
        refine wpAny_bind (wpAny_dictEpoch ho hd (wpAny_bind (heq y hy _ (wpAny_bind (wpAny_dictEpoch ho hd ?_)))))
        rw [if_neg (by simp)]
        cases hb : Dt.beq y.1 k with
        | true =>
          obtain ⟨rfl, c1, c2⟩ := ht hb
          rw [if_pos rfl, if_neg (by simp)]
          refine wpAny_bind (wpAny_rule ?_)
          split
          · exact wpAny_pure c1
          · exact wpAny_pure c2
        | false =>
          rw [if_neg (by simp)]
          refine wpAny_bind (wpAny_rule ?_)
          rw [if_neg (by simp)]
          exact wpAny_pure (hf hb)
      · rw [if_neg hone]
        refine wpAny_bind (mayTell _ ?_)
        rw [if_neg (by simp)]
        refine wpAny_bind (loop_vd he hn (fun i y hit C hy ei hh ht hf => ?_) (fun j p e => wpAny_pure (hsome j p e)) (fun hit f => wpAny_pure (fin hit f)))
        rw [ei]
        dsimp only
        rw [if_pos (show ((entD w y).hash == hashD w k) = true from beq_iff_eq.mpr hh)]
        refine wpAny_bind (wpAny_dictEpoch ho hd (wpAny_bind (heq y hy _ (wpAny_bind (wpAny_dictEpoch ho hd ?_)))))
        rw [if_neg (by simp)]
        cases hb : Dt.beq y.1 k with
        | true =>
          obtain ⟨rfl, c1, c2⟩ := ht hb
          rw [if_pos rfl, if_neg (by simp)]
          refine wpAny_bind (wpAny_rule ?_)
          split
          · exact wpAny_pure c1
          · exact wpAny_pure c2
        | false =>
          rw [if_neg (by simp)]
          refine wpAny_bind (wpAny_rule ?_)
          rw [if_neg (by simp)]
          exact wpAny_pure (hf hb)
  · unfold dictFind
    try with_reducible refine wpAny_holding ?_
    refine wpAny_bind (wpAny_dictEntries ho hd ?_)
    dsimp only
    by_cases hall : ((Value.int n t :: (placesWithHash es.size (fun i => es[i]?.map (·.hash)) (hashD w k)).filterMap fun i => es[i]?.map (·.key)).all carriedByValue) = true
    · rw [if_pos hall]
      exact plain
    · rw [if_neg hall]
      by_cases hone : (((placesWithHash es.size (fun i => es[i]?.map (·.hash)) (hashD w k)).filterMap fun i => es[i]?.map (·.key)) == [Value.int n t]) = true
      · rw [if_pos hone]
        refine wpAny_bind (wpAny_pure ?_)
        rw [if_neg (by simp)]
        refine wpAny_bind (loop_vd he hn (fun i y hit C hy ei hh ht hf => ?_) (fun j p e => wpAny_pure (hsome j p e)) (fun hit f => wpAny_pure (fin hit f)))
        rw [ei]
        dsimp only
        rw [if_pos (show ((entD w y).hash == hashD w k) = true from beq_iff_eq.mpr hh)]
        refine wpAny_bind (wpAny_dictEpoch ho hd (wpAny_bind (heq y hy _ (wpAny_bind (wpAny_dictEpoch ho hd ?_)))))
        rw [if_neg (by simp)]
        cases hb : Dt.beq y.1 k with
        | true =>
          obtain ⟨rfl, c1, c2⟩ := ht hb
          rw [if_pos rfl, if_neg (by simp)]
          refine wpAny_bind (wpAny_rule ?_)
          split
          · exact wpAny_pure c1
          · exact wpAny_pure c2
        | false =>
          rw [if_neg (by simp)]
          refine wpAny_bind (wpAny_rule ?_)
          rw [if_neg (by simp)]
          exact wpAny_pure (hf hb)
      · rw [if_neg hone]
        refine wpAny_bind (mayTell _ ?_)
        rw [if_neg (by simp)]
        refine wpAny_bind (loop_vd he hn (fun i y hit C hy ei hh ht hf => ?_) (fun j p e => wpAny_pure (hsome j p e)) (fun hit f => wpAny_pure (fin hit f)))
        rw [ei]
        dsimp only
        rw [if_pos (show ((entD w y).hash == hashD w k) = true from beq_iff_eq.mpr hh)]
        refine wpAny_bind (wpAny_dictEpoch ho hd (wpAny_bind (heq y hy _ (wpAny_bind (wpAny_dictEpoch ho hd ?_)))))
        rw [if_neg (by simp)]
        cases hb : Dt.beq y.1 k with
        | true =>
          obtain ⟨rfl, c1, c2⟩ := ht hb
          rw [if_pos rfl, if_neg (by simp)]
          refine wpAny_bind (wpAny_rule ?_)
          split
          · exact wpAny_pure c1
          · exact wpAny_pure c2
        | false =>
          rw [if_neg (by simp)]
          refine wpAny_bind (wpAny_rule ?_)
          rw [if_neg (by simp)]
          exact wpAny_pure (hf hb)
  · unfold dictFind
    try with_reducible refine wpAny_holding ?_
    refine wpAny_bind (wpAny_dictEntries ho hd ?_)
    dsimp only
    have hall : ¬ ((Value.ref a :: (placesWithHash es.size (fun i => es[i]?.map (·.hash)) (hashD w k)).filterMap fun i => es[i]?.map (·.key)).all carriedByValue) = true := by
      rw [List.all_cons]
      exact Bool.false_ne_true
    have hany : ¬ (es.any fun e => e.key == Value.ref a && e.hash != hashD w k) = true := by
      rw [← Array.any_toList, he, List.any_map, List.any_eq_true]
      rintro ⟨x, hx, hc⟩
      have hc' := (Bool.and_eq_true _ _).mp hc
      have h1 : x.2.1 = Value.ref a := by simpa [entD] using hc'.1
      have h2 : hashD w x.1 ≠ hashD w k := by simpa [entD] using hc'.2
      exact h2 (by rw [hid x hx h1])
    rw [if_neg hall, if_neg hany]
    by_cases hone : (((placesWithHash es.size (fun i => es[i]?.map (·.hash)) (hashD w k)).filterMap fun i => es[i]?.map (·.key)) == [Value.ref a]) = true
    · rw [if_pos hone]
      refine wpAny_bind (wpAny_pure ?_)
      rw [if_neg (by simp)]
      refine wpAny_bind (loop_vd he hn (fun i y hit C hy ei hh ht hf => ?_) (fun j p e => wpAny_pure (hsome j p e)) (fun hit f => wpAny_pure (fin hit f)))
      rw [ei]
      dsimp only
      rw [if_pos (show ((entD w y).hash == hashD w k) = true from beq_iff_eq.mpr hh)]
      refine wpAny_bind (wpAny_dictEpoch ho hd (wpAny_bind (heq y hy _ (wpAny_bind (wpAny_dictEpoch ho hd ?_)))))
      rw [if_neg (by simp)]
      cases hb : Dt.beq y.1 k with
      | true =>
        obtain ⟨rfl, c1, c2⟩ := ht hb
        rw [if_pos rfl, if_neg (by simp)]
        refine wpAny_bind (wpAny_rule ?_)
        split
        · exact wpAny_pure c1
        · exact wpAny_pure c2
      | false =>
        rw [if_neg (by simp)]
        refine wpAny_bind (wpAny_rule ?_)
        rw [if_neg (by simp)]
        exact wpAny_pure (hf hb)
    · rw [if_neg hone]
      refine wpAny_bind (mayTell _ ?_)
      rw [if_neg (by simp)]
      refine wpAny_bind (loop_vd he hn (fun i y hit C hy ei hh ht hf => ?_) (fun j p e => wpAny_pure (hsome j p e)) (fun hit f => wpAny_pure (fin hit f)))
      rw [ei]
      dsimp only
      rw [if_pos (show ((entD w y).hash == hashD w k) = true from beq_iff_eq.mpr hh)]
      refine wpAny_bind (wpAny_dictEpoch ho hd (wpAny_bind (heq y hy _ (wpAny_bind (wpAny_dictEpoch ho hd ?_)))))
      rw [if_neg (by simp)]
      cases hb : Dt.beq y.1 k with
      | true =>
        obtain ⟨rfl, c1, c2⟩ := ht hb
        rw [if_pos rfl, if_neg (by simp)]
        refine wpAny_bind (wpAny_rule ?_)
        split
        · exact wpAny_pure c1
        · exact wpAny_pure c2
      | false =>
        rw [if_neg (by simp)]
        refine wpAny_bind (wpAny_rule ?_)
        rw [if_neg (by simp)]
        exact wpAny_pure (hf hb)
end
end L2
namespace L2
open PySem PySem.Spec PySem.W PyProof.Rows
def hasD {β : Type} (ks : List (Dt × β)) (k : Dt) : Bool := ks.any fun x => Dt.beq x.1 k
/-- what is stored: the value anew at its old place, or a new one behind all -/
def putD {α : Type} (ks : List (Dt × α × α)) (k : Dt) (key v : α) : List (Dt × α × α) := if hasD ks k = true then ks.map (fun x => if Dt.beq x.1 k = true then (x.1, x.2.1, v) else x) else ks ++ [(k, key, v)]
theorem hasD_iff {β : Type} {ks : List (Dt × β)} {k : Dt} : hasD ks k = true ↔ k ∈ ks.map (·.1) := by
  unfold hasD
  rw [List.any_eq_true, List.mem_map]
  constructor
  · rintro ⟨x, hx, e⟩
    exact ⟨x, hx, (Dt.beq_iff _ _).mp e⟩
  · rintro ⟨x, hx, e⟩
    exact ⟨x, hx, (Dt.beq_iff _ _).mpr e⟩
theorem hasD_no {β : Type} {ks : List (Dt × β)} {k : Dt} (h : ∀ (j : Nat) (p : β), ks[j]? ≠ some (k, p)) : hasD ks k = false := by
  cases e : hasD ks k with
  | false => rfl
  | true =>
    obtain ⟨x, hx, ex⟩ := List.mem_map.mp (hasD_iff.mp e)
    obtain ⟨j, hj⟩ := List.getElem?_of_mem hx
    exact absurd (hj.trans (by rw [← ex])) (h j x.2)
theorem hasD_yes {β : Type} {ks : List (Dt × β)} {k : Dt} {j : Nat} {p : β} (h : ks[j]? = some (k, p)) : hasD ks k = true := hasD_iff.mpr (List.mem_map.mpr ⟨_, List.mem_of_getElem? h, rfl⟩)
theorem putD_keys {α : Type} (ks : List (Dt × α × α)) (k : Dt) (key v : α) : (putD ks k key v).map (·.1) = if hasD ks k = true then ks.map (·.1) else ks.map (·.1) ++ [k] := by
  unfold putD
  split
  · rw [List.map_map]
    refine List.map_congr_left fun x _ => ?_
    show (if Dt.beq x.1 k = true then (x.1, x.2.1, v) else x).1 = x.1
    split <;> rfl
  · rw [List.map_append]
    rfl
theorem putD_nodup {α : Type} {ks : List (Dt × α × α)} {k : Dt} {key v : α} (h : (ks.map (·.1)).Nodup) : ((putD ks k key v).map (·.1)).Nodup := by
  rw [putD_keys]
  split
  · exact h
  · rename_i hn
    rw [List.nodup_append]
    refine ⟨h, by simp, fun a ha b hb => ?_⟩
    cases List.mem_singleton.mp hb
    exact fun z => hn (hasD_iff.mpr (z ▸ ha))
theorem putD_mem {α : Type} {ks : List (Dt × α × α)} {k : Dt} {key v : α} {x : Dt × α × α} (h : x ∈ putD ks k key v) : (∃ y ∈ ks, y.1 = x.1 ∧ y.2.1 = x.2.1) ∨ (x.1 = k ∧ x.2.1 = key) := by
  unfold putD at h
  split at h
  · obtain ⟨y, hy, rfl⟩ := List.mem_map.mp h
    refine .inl ⟨y, hy, ?_⟩
    split <;> exact ⟨rfl, rfl⟩
  · rcases List.mem_append.mp h with h | h
    · exact .inl ⟨x, h, rfl, rfl⟩
    · cases List.mem_singleton.mp h
      exact .inr ⟨rfl, rfl⟩
section
variable {prog : Program} {w : World} {E : Value → Shared → Prop}
theorem set_vd {A : Around} {s : Shared} {d : Addr} {o : Obj} {es : Array DictEntry} {ep : Nat} {ks : List (Dt × Value × Value)} {k : Dt} {key v : Value} {Q : Unit → Shared → Prop}
    (ho : s.heap.get? d = some o) (hx : o.ExactDict) (hd : o.data = .dict es ep) (he : es.toList = ks.map (entD w)) (hn : (ks.map (·.1)).Nodup) (hst : key = Value.none ∨ (∃ n t, key = Value.int n t) ∨ ∃ a, key = Value.ref a)
    (hk : VD s.heap k key) (hu : A.units + k.hgt < cLine)
    (heq : ∀ tk, ∀ x ∈ ks, ∀ Q : Bool → Shared → Prop, Q (Dt.beq x.1 k) { s with toks := tk } → wpAny (model prog w) A (eqBool x.2.1 key) Q E { s with toks := tk })
    (hq : ∀ tk v, (v = key ∨ ∃ x ∈ ks, v = x.2.1) → ∀ Q : Bool → Shared → Prop, Q true { s with toks := tk } → wpAny (model prog w) A (eqIsQuiet 8 v) Q E { s with toks := tk })
    (hid : ∀ x ∈ ks, x.2.1 = key → x.1 = k) (hz : ks.length ≤ sizeLine)
    (hQ : ∀ h' tk o' es' ep', h'.get? d = some o' → o'.ExactDict → o'.data = .dict es' ep' → es'.toList = (putD ks k key v).map (entD w) → Heap.SameBut d s.heap h' → Q () { s with heap := h', toks := tk }) :
    wpAny (model prog w) A (dictSet d key v) Q E s := by
  have sz : es.size = ks.length := by rw [← Array.length_toList, he, List.length_map]
  unfold dictSet
  try with_reducible refine wpAny_holding ?_
  refine wpAny_bind (hash_vd k key A s _ hk hu fun tk => ?_)
  unfold dictSetHashed
  try with_reducible refine wpAny_holding ?_
  refine wpAny_bind (find_vd (s := { s with toks := tk }) ho hd he hn hst (heq tk) (hq tk) hid (fun no => ?_) (fun j p e => ?_))
  · refine wpAny_bind (wpAny_rule (wpAny_updateDictKeys (s := { s with toks := tk }) ho hd ?_ (hz := by omega)))
    refine hQ _ tk _ _ (ep + 1) (Heap.get?_update_self _ ho (Obj.isFreed_of_dict (Obj.data_mapDictKeys hd _))) (hx.mapDictKeys _) (Obj.data_mapDictKeys hd _) ?_ (Heap.SameBut.update ..)
    unfold putD
    rw [if_neg (by rw [hasD_no no]; exact Bool.false_ne_true), List.map_append, Array.toList_push, he]
    rfl
  · refine wpAny_bind (wpAny_rule (wpAny_bind (wpAny_updateDict (s := { s with toks := tk }) ho hd (wpAny_point ?_))))
    refine hQ _ tk _ _ ep (Heap.get?_update_self _ ho (Obj.isFreed_of_dict (Obj.data_mapDict hd _))) (hx.mapDict _) (Obj.data_mapDict hd _) ?_ (Heap.SameBut.update ..)
    unfold putD
    rw [if_pos (hasD_yes e), List.map_map]
    apply List.ext_getElem?
    intro i
    rw [Array.toList_modify, List.getElem?_modify, he, List.getElem?_map, List.getElem?_map]
    cases ei : ks[i]? with
    | none => simp
    | some y =>
      by_cases hij : j = i
      · subst hij
        rw [e] at ei
        cases ei
        simp [entD, Dt.beq_self]
      · have ne : Dt.beq y.1 k = false := Dt.beq_ne fun z => hij (nd_at hn e ei z.symm)
        simp [hij, ne]
end
end L2
namespace L2
open PySem PySem.Spec PySem.W PyProof.Rows
def DkR (x : Dt × V × V) (y : Dt × Value × Value) : Prop := x.1 = y.1 ∧ RelV x.2.1 y.2.1 ∧ RelV x.2.2 y.2.2
/-- a dict: data, key, value of each entry -/
def DkP (w : World) (a : Addr) (kvs : List (Dt × V × V)) (h : Heap) : Prop :=
  (a == sysModules) = false ∧ ∃ o es ep ks, h.get? a = some o ∧ o.ExactDict ∧ o.data = .dict es ep ∧ es.toList = ks.map (entD w) ∧ Paired DkR kvs ks
def DkO (w : World) (a : Addr) (kvs : List (Dt × V × V)) : HO := .ext (DkP w a kvs)
structure DkM (K : PySem.W.Frag) (w : World) (H : Hp) (a : Addr) (kvs : List (Dt × V × V)) : Prop where
  at_ : H a = some (DkO w a kvs)
  dat : ∀ x ∈ kvs, DatAt K H x.2.1 x.1
  oc : ∀ x ∈ kvs, Oc x.1
  nd : (kvs.map (·.1)).Nodup
theorem dk_keys : ∀ {kvs : List (Dt × V × V)} {ks : List (Dt × Value × Value)}, Paired DkR kvs ks → kvs.map (·.1) = ks.map (·.1)
  | _, _, .nil => rfl
  | _, _, .cons r t => by rw [List.map_cons, List.map_cons, r.1, dk_keys t]
theorem dk_mem : ∀ {kvs : List (Dt × V × V)} {ks : List (Dt × Value × Value)}, Paired DkR kvs ks → ∀ y ∈ ks, ∃ x ∈ kvs, DkR x y
  | _, _, .nil, y, h => nomatch h
  | _, _, .cons (a := x) r t, y, h => by
    rcases List.mem_cons.mp h with z | z
    · exact ⟨x, List.mem_cons_self .., z ▸ r⟩
    · obtain ⟨x', h1, h2⟩ := dk_mem t y z
      exact ⟨x', List.mem_cons_of_mem _ h1, h2⟩
theorem dk_map {k : Dt} {x : V} {u : Value} (r : RelV x u) : ∀ {kvs : List (Dt × V × V)} {ks : List (Dt × Value × Value)}, Paired DkR kvs ks →
    Paired DkR (kvs.map fun e => if Dt.beq e.1 k = true then (e.1, e.2.1, x) else e) (ks.map fun e => if Dt.beq e.1 k = true then (e.1, e.2.1, u) else e)
  | _, _, .nil => .nil
  | _, _, .cons (a := y) (b := z) q t => by
    refine .cons ?_ (dk_map r t)
    dsimp only
    rw [← q.1]
    split
    · exact ⟨rfl, q.2.1, r⟩
    · exact q
theorem dk_snoc : ∀ {kvs : List (Dt × V × V)} {ks : List (Dt × Value × Value)} {x : Dt × V × V} {y : Dt × Value × Value}, Paired DkR kvs ks → DkR x y → Paired DkR (kvs ++ [x]) (ks ++ [y])
  | _, _, _, _, .nil, q => .cons q .nil
  | _, _, _, _, .cons r t, q => .cons r (dk_snoc t q)
theorem dk_put {k : Dt} {i v : V} {u r : Value} (ri : RelV i u) (rv : RelV v r) {kvs : List (Dt × V × V)} {ks : List (Dt × Value × Value)} (h : Paired DkR kvs ks) : Paired DkR (putD kvs k i v) (putD ks k u r) := by
  have e : hasD kvs k = hasD ks k := by
    rw [Bool.eq_iff_iff, hasD_iff, hasD_iff, dk_keys h]
  unfold putD
  rw [e]
  split
  · exact dk_map rv h
  · exact dk_snoc h ⟨rfl, ri, rv⟩
section
variable {K : PySem.W.Frag} {H : Hp} {a : Addr} {φ ψ : Heap → Prop}
theorem sqT_updX {r : Addr} {vs : List V} (ha : H a = some (.ext φ)) (h : SqT K H r vs) : SqT K (upd H a (.ext ψ)) r vs := by
  rcases h with (h | ⟨o, h⟩) | h
  · exact .inl (.inl (by rw [upd_ne (ne_of h ha (by intro z; cases z))]; exact h))
  · exact .inl (.inr ⟨o, by rw [upd_ne (ne_of h ha (by intro z; cases z))]; exact h⟩)
  · exact .inr h
mutual
theorem DatAt.updX (ha : H a = some (.ext φ)) : ∀ {v : V} {d : Dt}, DatAt K H v d → DatAt K (upd H a (.ext ψ)) v d
  | v, .non, h => by simpa [DatAt] using h
  | v, .int i, h => by simpa [DatAt] using h
  | v, .str i, h => by simpa [DatAt] using h
  | v, .tup ds, h => by
    obtain ⟨r, vs, rfl, h1, h2⟩ := h.un
    exact .tup (sqT_updX ha h1) (DatsAt.updX ha h2)
theorem DatsAt.updX (ha : H a = some (.ext φ)) : ∀ {vs : List V} {ds : List Dt}, DatsAt K H vs ds → DatsAt K (upd H a (.ext ψ)) vs ds
  | vs, [], h => by
    rw [h.un0]
    exact .nil
  | vs, d :: ds, h => by
    obtain ⟨v, r, rfl, h1, h2⟩ := h.un
    exact .cons (DatAt.updX ha h1) (DatsAt.updX ha h2)
end
end
theorem DkM.same {K : PySem.W.Frag} {w : World} {H H' : Hp} {a : Addr} {kvs : List (Dt × V × V)} (h : DkM K w H a kvs) (e : Same H H') : DkM K w H' a kvs :=
  ⟨e _ _ h.at_, fun x hx => (h.dat x hx).same e, h.oc, h.nd⟩
theorem dkP_stays {w : World} {a : Addr} {kvs : List (Dt × V × V)} {h1 h2 : Heap} (p : DkP w a kvs h1) (k : ∀ o, h1.get? a = some o → h2.get? a = some o) : DkP w a kvs h2 := by
  obtain ⟨q, o, es, ep, ks, e, r⟩ := p
  exact ⟨q, o, es, ep, ks, k _ e, r⟩
theorem dkO_ok {P : Program} {w : World} {H : Hp} {a : Addr} {kvs : List (Dt × V × V)} {h : Heap} (p : DkP w a kvs h) : ObjOk P w H h a (DkO w a kvs) := by
  refine ⟨p, ?_, fun _ _ => dkP_stays⟩
  obtain ⟨_, o, _, _, _, e, _⟩ := p
  exact ⟨o, e⟩
section
variable {X : Cx}
theorem Inv.far {pins : List (Addr × Obj)} {σ : L2.St} {H : Hp} {s : Shared} (I : Inv X pins σ H s) : sysModules < s.heap.objs.size := modules_low I.nolimit
/-- {} -/
def tDNewD (w : World) : TE := fun _ H Q => ∀ p, H p = none → Q (.ref p) (upd H p (DkO w p []))
theorem pe_dnewD {pos : Pos} : PE X (.Dict [] [] pos) (tDNewD X.w) := by
  intro pins s σ H Q I h
  refine wpAny_Dict_empty ⟨.ref s.heap.objs.size, _, I.laid (t' := s.toks) (o := DkO X.w s.heap.objs.size []) (fun b o q => Heap.get?_push_of_some _ q) (Nat.le_refl _) (dkO_ok ?_), rfl, h _ (I.hok.fresh (Nat.le_refl _))⟩
  exact ⟨beq_eq_false_iff_ne.mpr (Ne.symm (Nat.ne_of_lt I.far)), _, #[], 0, [], Heap.get?_push_size _ rfl, ⟨rfl, rfl, rfl⟩, rfl, rfl, .nil⟩
theorem oc_key {K : PySem.W.Frag} {H : Hp} {i : V} {k : Dt} {u : Value} (hk : DatAt K H i k) (o : Oc k) (r : RelV i u) : u = Value.none ∨ (∃ n t, u = Value.int n t) ∨ ∃ a, u = Value.ref a := by
  cases o with
  | non =>
    have := hk.non_eq
    subst this
    exact .inl r
  | int n =>
    have := hk.int_eq
    subst this
    exact .inr (.inl ⟨n, r⟩)
  | recd fs =>
    obtain ⟨a, vs, rfl, _, _⟩ := hk.un
    exact .inr (.inr ⟨a, r⟩)
end
end L2
namespace L2
open PySem PySem.Spec PySem.W PyProof.Rows
section
variable {X : Cx} {pins : List (Addr × Obj)} {σ : L2.St} {H : Hp} {s : Shared} {a : Addr} {kvs : List (Dt × V × V)} {k : Dt} {i : V} {u : Value}
/-- what is asked of a key in a dict of ours -/
structure Kit (X : Cx) (A : Around) (s : Shared) (ks : List (Dt × Value × Value)) (k : Dt) (u : Value) : Prop where
  st : u = Value.none ∨ (∃ n t, u = Value.int n t) ∨ ∃ a, u = Value.ref a
  vd : VD s.heap k u
  hgt : A.units + k.hgt < cLine
  eq : ∀ tk, ∀ x ∈ ks, ∀ (E : Value → Shared → Prop) (Q : Bool → Shared → Prop), Q (Dt.beq x.1 k) { s with toks := tk } → wpAny (model X.prog X.w) A (eqBool x.2.1 u) Q E { s with toks := tk }
  quiet : ∀ tk v, (v = u ∨ ∃ x ∈ ks, v = x.2.1) → ∀ (E : Value → Shared → Prop) (Q : Bool → Shared → Prop), Q true { s with toks := tk } → wpAny (model X.prog X.w) A (eqIsQuiet 8 v) Q E { s with toks := tk }
  id : ∀ x ∈ ks, x.2.1 = u → x.1 = k
theorem kit_of {A : Around} {ks : List (Dt × Value × Value)} (hu : A.units + 32 < cLine) (I : Inv X pins σ H s) (M : DkM X.K X.w H a kvs) (p : Paired DkR kvs ks) (hk : DatAt X.K H i k) (o : Oc k) (r : RelV i u) : Kit X A s ks k u := by
  have all : ∀ x ∈ ks, ∃ v, DatAt X.K H v x.1 ∧ RelV v x.2.1 ∧ x.1.hgt ≤ 2 := fun x hx => by
    obtain ⟨y, hy, e, r1, _⟩ := dk_mem p x hx
    rw [← e]
    exact ⟨y.2.1, M.dat y hy, r1, (M.oc y hy).hgt⟩
  have ho := o.hgt
  refine ⟨oc_key hk o r, vd_of I hk r, by omega, fun tk x hx E Q q => ?_, fun tk v hv E Q q => ?_, fun x hx e => ?_⟩
  · obtain ⟨v, h1, h2, h3⟩ := all x hx
    exact eqAt_dat (I.tok tk) 8 A x.1 k v i x.2.1 u (by omega) (by omega) h1 hk h2 r X.prog X.w E Q q
  · rcases hv with rfl | ⟨x, hx, rfl⟩
    · exact quiet_vd 8 k _ A _ Q (vd_of (I.tok tk) hk r) (by omega) q
    · obtain ⟨v, h1, h2, h3⟩ := all x hx
      exact quiet_vd 8 x.1 _ A _ Q (vd_of (I.tok tk) h1 h2) (by omega) q
  · obtain ⟨v, h1, h2, h3⟩ := all x hx
    rw [e] at h2
    cases h2.inj r
    exact DatAt.inj I h1 hk
/-- d[k] = v -/
theorem d_set {A : Around} {E : Value → Shared → Prop} {v : V} {r : Value} {Q : Unit → Shared → Prop} (hu : A.units + 40 < cLine) (I : Inv X pins σ H s) (M : DkM X.K X.w H a kvs) (few : kvs.length ≤ 1000) (hk : DatAt X.K H i k) (o : Oc k) (ri : RelV i u) (rv : RelV v r)
    (h : ∀ s', Inv X pins σ (upd H a (DkO X.w a (putD kvs k i v))) s' → Q () s') : wpAny (model X.prog X.w) A (setItem (.ref a) u r) Q E s := by
  obtain ⟨⟨far, ob, es, ep, ks, e1, e2, e3, e4, p⟩, _, _⟩ := (show ObjOk X.prog X.w H s.heap a (DkO X.w a kvs) from I.hok a _ M.at_)
  have hT : s.TypeIs (.ref a) "dict" := ⟨ob, e1, e2.1⟩
  have kt : Kit X A.in1 s ks k u := kit_of (by rw [Around.in1_units]; omega) I M p hk o ri
  have len : ks.length ≤ sizeLine := by
    have : kvs.length = ks.length := Paired.length p
    exact Nat.le_trans (show ks.length ≤ 1000 by omega) (by decide)
  unfold setItem
  try with_reducible refine wpAny_holding ?_
  refine wpAny_bind (wpAny_sequenceKey hT (by decide) (wpAny_bind ?_))
  refine wpAny_callSpecial?_slot (name := Str.ofString "__setitem__") hT slot_dict_setitem (wpAny_call_entry slot_dict_setitem hT entry_dict_setitem ?_ (args_dict_setitem _ _ _))
  show wpAny _ _ (Builtin.Dict.notOrdered "__setitem__" ⟨[.ref a, u, r], []⟩ >>= _) _ _ s
  refine wpAny_bind (wpAny_notOrdered_dict hT ?_)
  show wpAny _ _ (dictSet a u r >>= _) _ _ s
  refine wpAny_bind (set_vd e1 e2 e3 e4 (by rw [← dk_keys p]; exact M.nd) kt.st kt.vd kt.hgt (fun tk x hx Q q => kt.eq tk x hx _ Q q) (fun tk v hv Q q => kt.quiet tk v hv _ Q q) kt.id len fun h' tk o' es' ep' f1 f2 f3 f4 hs => ?_)
  refine wpAny_pure ⟨.none, rfl, wpAny_pure (h _ ?_)⟩
  refine I.write (x := a) (e := a) (t' := tk) (by rw [M.at_]; exact True.intro) (.inl rfl) (fun b q hb z => (hs.2 b hb).trans z) ⟨o', f1⟩ (dkO_ok ⟨far, o', es', ep', _, f1, f2, f3, f4, dk_put ri rv p⟩)
theorem DkM.put {K : PySem.W.Frag} {w : World} {v : V} (M : DkM K w H a kvs) (hk : DatAt K H i k) (o : Oc k) : DkM K w (upd H a (DkO w a (putD kvs k i v))) a (putD kvs k i v) := by
  have old : ∀ x d, DatAt K H x d → DatAt K (upd H a (DkO w a (putD kvs k i v))) x d := fun x d h => DatAt.updX (show H a = some (.ext _) from M.at_) h
  refine ⟨upd_same, fun x hx => ?_, fun x hx => ?_, putD_nodup M.nd⟩
  · rcases putD_mem hx with ⟨y, hy, e1, e2⟩ | ⟨e1, e2⟩
    · rw [← e1, ← e2]
      exact old _ _ (M.dat y hy)
    · rw [e1, e2]
      exact old _ _ hk
  · rcases putD_mem hx with ⟨y, hy, e1, e2⟩ | ⟨e1, e2⟩
    · rw [← e1]
      exact M.oc y hy
    · rw [e1]
      exact o
def sDk (K : PySem.W.Frag) (w : World) : TSet := fun o i v H Q => ∃ a kvs k, o = .ref a ∧ DkM K w H a kvs ∧ kvs.length ≤ 1000 ∧ DatAt K H i k ∧ Oc k ∧ Q (upd H a (DkO w a (putD kvs k i v)))
theorem st_dk (hu : X.A.units + 64 < cLine) : PSet X (sDk X.K X.w) := by
  intro pins s σ H o i v ov iv u Q I r1 r2 r3 h
  obtain ⟨a, kvs, k, rfl, M, few, hk, oc, q⟩ := h
  cases (show ov = Value.ref a from r1)
  exact d_set (by omega) I M few hk oc r2 r3 fun s' I' => ⟨_, I', q⟩
end
end L2
namespace L2
open PySem PySem.Spec PySem.W PyProof.Rows
def EsAt (h : Heap) (d : Addr) (es : Array DictEntry) (ep : Nat) : Prop := ∃ o, h.get? d = some o ∧ o.ExactDict ∧ o.data = .dict es ep
theorem EsAt.on {h h' : Heap} {d : Addr} {es : Array DictEntry} {ep : Nat} (x : EsAt h d es ep) (k : ∀ o, h.get? d = some o → h'.get? d = some o) : EsAt h' d es ep := let ⟨o, e, r⟩ := x; ⟨o, k o e, r⟩
section
variable {prog : Program} {w : World} {A : Around} {E : Value → Shared → Prop} {s : Shared} {d it : Addr} {es : Array DictEntry} {ep i : Nat}
theorem es_iter {Q : Value → Shared → Prop} (far : (d == sysModules) = false) (m : EsAt s.heap d es ep)
    (q : Q (.ref s.heap.objs.size) { s with heap := s.heap.push { cls := .type "dict_keyiterator", data := .fields #[.ref d, .int 0 0, .int es.size 0, .int ep 0] } }) : wpAny (model prog w) A (pyIter (.ref d)) Q E s := by
  obtain ⟨o, e1, e2, e3⟩ := m
  have hT : s.TypeIs (.ref d) "dict" := ⟨o, e1, e2.1⟩
  refine wpAny_pyIter_slot hT F.slot_dict_iter (wpAny_call_entry F.slot_dict_iter hT F.entry_dict_iter ?_ (F.args_dict_iter_1 _))
  unfold Builtin.«dict.__iter__» Builtin.Dict.dictSlotNone
  refine wpAny_bind (wpAny_bind (wpAny_notOrdered_dict hT (wpAny_pure ?_)))
  show wpAny _ _ (Builtin.Dict.showsAll d >>= _) _ _ s
  unfold Builtin.Dict.showsAll
  rw [if_neg (by rw [far]; exact Bool.false_ne_true)]
  refine wpAny_bind (wpAny_pure (wpAny_bind (wpAny_dictEntries e1 e3 (wpAny_bind (wpAny_dictEpoch e1 e3 (wpAny_bind (wpAny_newObj_type (wpAny_pure ?_))))))))
  exact ⟨_, rfl, "dict_keyiterator", _, ⟨_, Heap.get?_push_size _ rfl, rfl⟩, F.slot_dict_keyiterator_next.lookup, by simpa [rawInt] using q⟩
theorem es_next {Q : Option Value → Shared → Prop} (hit : s.heap.IsKeyIter it d i es.size ep) (m : EsAt s.heap d es ep) (hi : i < es.size)
    (q : ∀ h', h'.IsKeyIter it d (i + 1) es.size ep → Heap.SameBut it s.heap h' → Q (some es[i].key) { s with heap := h' }) : wpAny (model prog w) A (pyNext (.ref it)) Q E s := by
  obtain ⟨o, ho, hc, hd⟩ := id hit
  obtain ⟨od, e1, e2, e3⟩ := m
  have own : ¬ (Builtin.Dict_items.ownsTuple "dict_keyiterator" = true) := by decide
  unfold pyNext
  refine wpAny_bind (wpAny_attempt (wpAny_callSpecial?_slot (name := Str.ofString "__next__") hit.typeIs F.slot_dict_keyiterator_next (wpAny_call_entry F.slot_dict_keyiterator_next hit.typeIs F.entry_dict_keyiterator_next ?_ (F.args_dict_keyiterator_next_1 _))))
  refine wpAny_bind (wpAny_pure (wpAny_bind (wpAny_bind (wpAny_bind (wpAny_typeNameOfWhole_keyiter hit.typeIs (wpAny_pure (wpAny_bind (wpAny_fieldsOf ho hd ?_))))))))
  rw [if_neg own]
  show wpAny _ _ (if (Value.ref d == Value.none) = true then _ else _) _ _ s
  rw [if_neg (show ¬ ((Value.ref d == Value.none) = true) from Bool.false_ne_true)]
  refine wpAny_bind (wpAny_pure (wpAny_bind (wpAny_dictEntries e1 e3 ?_)))
  rw [if_neg (by simp)]
  refine wpAny_bind (wpAny_pure (wpAny_bind (wpAny_dictEpoch e1 e3 ?_)))
  rw [if_neg (by simp)]
  refine wpAny_pure ?_
  have neg : ¬ ((i : Int) < 0) := by omega
  simp only [neg, if_false, Int.toNat_natCast, Array.getElem?_eq_getElem hi]
  refine wpAny_bind (wpAny_bind (wpAny_typeNameOfWhole_keyiter hit.typeIs (wpAny_pure (wpAny_bind (wpAny_isOneOf_keyiter hit.typeIs ?_)))))
  show wpAny _ _ (setField (.ref it) 1 (rawInt ((i : Int) + 1)) >>= _) _ _ s
  refine wpAny_bind (wpAny_setField ho hd (by simp) ?_)
  have next : (s.heap.update it (Obj.mapFields (·.setIfInBounds 1 (rawInt ((i : Int) + 1))))).IsKeyIter it d (i + 1) es.size ep := by
    refine ⟨_, Heap.get?_update_self _ ho (Obj.isFreed_of_fields (Obj.data_mapFields hd _)), (Obj.cls_mapFields ..).trans hc, ?_⟩
    rw [Obj.data_mapFields hd]
    simp [rawInt]
  refine wpAny_bind (wpAny_holding (wpAny_bind (wpAny_isOneOf_keyiter (s := { s with heap := s.heap.update it (Obj.mapFields (·.setIfInBounds 1 (rawInt ((i : Int) + 1)))) }) next.typeIs ?_)))
  show wpAny _ _ (pure es[i].key) _ _ _
  exact wpAny_pure (wpAny_pure ⟨_, rfl, wpAny_pure (q _ next (Heap.SameBut.update ..))⟩)
theorem es_end {Q : Option Value → Shared → Prop} (hh : A.handled = none) (hit : s.heap.IsKeyIter it d i es.size ep) (m : EsAt s.heap d es ep) (hi : es.size ≤ i)
    (q : ∀ h', Heap.ExtBut it s.heap h' → Q none { s with heap := h' }) : wpAny (model prog w) A (pyNext (.ref it)) Q E s := by
  obtain ⟨o, ho, hc, hd⟩ := id hit
  obtain ⟨od, e1, e2, e3⟩ := m
  have own : ¬ (Builtin.Dict_items.ownsTuple "dict_keyiterator" = true) := by decide
  unfold pyNext
  refine wpAny_bind (wpAny_attempt (wpAny_callSpecial?_slot (name := Str.ofString "__next__") hit.typeIs F.slot_dict_keyiterator_next (wpAny_call_entry F.slot_dict_keyiterator_next hit.typeIs F.entry_dict_keyiterator_next ?_ (F.args_dict_keyiterator_next_1 _))))
  refine wpAny_bind (wpAny_pure (wpAny_bind (wpAny_bind (wpAny_bind (wpAny_typeNameOfWhole_keyiter hit.typeIs (wpAny_pure (wpAny_bind (wpAny_fieldsOf ho hd ?_))))))))
  rw [if_neg own]
  show wpAny _ _ (if (Value.ref d == Value.none) = true then _ else _) _ _ s
  rw [if_neg (show ¬ ((Value.ref d == Value.none) = true) from Bool.false_ne_true)]
  refine wpAny_bind (wpAny_pure (wpAny_bind (wpAny_dictEntries e1 e3 ?_)))
  rw [if_neg (by simp)]
  refine wpAny_bind (wpAny_pure (wpAny_bind (wpAny_dictEpoch e1 e3 ?_)))
  rw [if_neg (by simp)]
  refine wpAny_pure ?_
  have neg : ¬ ((i : Int) < 0) := by omega
  simp only [neg, if_false, Int.toNat_natCast, Array.getElem?_eq_none hi]
  refine wpAny_bind (wpAny_bind (wpAny_typeNameOfWhole_keyiter hit.typeIs (wpAny_pure ?_)))
  show wpAny _ _ (setField (.ref it) 0 .none >>= _) _ _ s
  refine wpAny_bind (wpAny_setField ho hd (by simp) ?_)
  show wpAny _ _ (newExc (.type "StopIteration") [] >>= _) _ _ _
  refine wpAny_bind ?_
  simp only [newExc, newTuple]
  refine wpAny_bind (wpAny_newObj_type (wpAny_bind (m := firstArgMember _ _) (wpAny_of_eq (a := Value.none) (by first | rfl | (simp only [firstArgMember]; rfl)) (wpAny_newObj_type ?_ (by size_fits)))) (by size_fits))
  simp only [raiseNew]
  refine wpAny_bind (wpAny_handled ?_)
  rw [show A.in1.handled = none from hh]
  refine wpAny_bind (wpAny_pure (wpAny_throw ?_))
  refine wpAny_bind (wpAny_isInstance (T := "StopIteration") (b := true) ⟨_, Heap.get?_push_size _ rfl, rfl⟩ isSubtype_stop ?_)
  exact wpAny_pure (q _ (((Heap.SameBut.update ..).extBut.push _).push _))
theorem es_walks (hh : A.handled = none) (I d : Addr) (hne : d ≠ I) (es : Array DictEntry) (ep : Nat) :
    Walks prog w A I [I, d] [I] es.size (fun i v => ∃ e, es[i]? = some e ∧ v = e.key) (fun i h => h.IsKeyIter I d i es.size ep ∧ EsAt h d es ep) where
  sub := fun b hb => by simp at hb; simp [hb]
  frame := fun _ _ _ st hk => ⟨st.1.at fun o e => hk I (by simp) o e, st.2.on fun o e => hk d (by simp) o e⟩
  item := fun i s Q E hi st hQ => by
    refine es_next st.1 st.2 hi fun h' n' hs => hQ _ h' s.toks ⟨es[i], by simp [hi], rfl⟩ ⟨n', st.2.on fun o e => hs.extBut d o hne e⟩ fun b o hb e => hs.extBut b o (fun h => hb (by simp [h])) e
  done := fun s Q E st hQ => es_end hh st.1 st.2 (Nat.le_refl _) fun h' he' => hQ h' s.toks fun b o hb e => he' b o (fun h => hb (by simp [h])) e
  self := fun _ _ _ _ st hQ => wpAny_pyIter_keyiter st.1 hQ
theorem es_src (far : (d == sysModules) = false) : KdlSrc prog w "dict" d d es.size (fun i v => ∃ e, es[i]? = some e ∧ v = e.key) (fun h => EsAt h d es ep) where
  type := fun _ m => let ⟨o, e1, e2, _⟩ := m; ⟨o, e1, e2.1⟩
  there := fun _ m => let ⟨o, e1, _⟩ := m; ⟨Heap.lt_size e1, Heap.lt_size e1⟩
  keep := fun _ _ m hk => m.on fun o e => hk d (.inl rfl) o e
  notList := by decide
  notTuple := by decide
  hint := fun _ _ _ _ m hq => kdl_hint_dict (let ⟨o, e1, e2, _⟩ := m; ⟨o, e1, e2.1⟩) hq
  iter := fun _ _ hh m => ⟨_, _, (fun _ _ hq => es_iter far m hq), es_walks hh _ d (let ⟨o, e1, _⟩ := m; Nat.ne_of_lt (Heap.lt_size e1)) es ep, ⟨⟨_, Heap.get?_push_size _ rfl, rfl, rfl⟩, m.on fun o e => Heap.get?_push_of_some _ e⟩⟩
end
end L2
namespace L2
open PySem PySem.Spec PySem.W PyProof.Rows
section
variable {X : Cx} {pins : List (Addr × Obj)} {σ : L2.St} {H : Hp} {s : Shared}
/-- a def runs within a built-in -/
theorem run_in {k : Nat} {f : Addr} {fd : FuncData} {ps : List Str} {sp : Sp} {us : List Value} {vs : List V} {Q : VK} {A : Around} {E : Value → Shared → Prop} (F : FnOk X.prog X.w X.K X.mg X.base CX0 k f fd ps sp) (hr : Room k A) (hf : A.frames = X.A.frames)
    (hb : Binds X.K fd ps []) (I : Inv X pins σ H s) (r : Vals vs us) (h : sp vs H Q fun _ _ _ => False) : wpAny (model X.prog X.w) A (call (.ref f) us) (EP X pins σ Q) E s := by
  have e0 := I.env0
  have hl : us.length = ps.length := by rw [← r.length]; exact F.len _ _ _ _ h
  have hb' := hb s us I.kIn (by rw [List.append_nil]; exact hl)
  rw [List.append_nil] at hb'
  refine wpAny_call (codeAny_mono (F.run A X.stack s H ⟨us, []⟩ us vs Q _ hr ⟨hf.trans e0.frames, e0.mod, e0.bs, e0.bsz, e0.funs, e0.frf, e0.hok, e0.bare⟩ hb' r h) fun r s' hq => ?_)
  cases r with
  | error e => exact False.elim hq
  | ok fl =>
    cases fl with
    | ret u => exact I.after hq
    | next => exact False.elim hq
    | brk => exact False.elim hq
    | cont => exact False.elim hq
/-- a list of ours, as it stands -/
theorem lst_at {a : Addr} {xs : List V} (I : Inv X pins σ H s) (h : H a = some (.lst xs)) : ∃ (its : List Value) (n : Nat), Vals xs its ∧ s.heap.get? a = some (seqObj "list" its.toArray n) ∧ xs.length ≤ sizeLine := by
  obtain ⟨z, its, n, r, e⟩ := (show ObjOk X.prog X.w H s.heap a (.lst xs) from I.hok a _ h)
  exact ⟨its, n, r, e, z⟩
theorem lst_set {a : Addr} {xs ys : List V} {its its2 : List Value} {n t' : Nat} (I : Inv X pins σ H s) (h : H a = some (.lst xs)) (e : s.heap.get? a = some (seqObj "list" its.toArray n)) (r : Vals ys its2) (z : ys.length ≤ sizeLine) :
    Inv X pins σ (upd H a (.lst ys)) { s with heap := s.heap.update a (Obj.mapSeq fun _ => its2.toArray), toks := t' } := by
  obtain ⟨c, hc⟩ : ∃ c, (s.heap.update a (Obj.mapSeq fun _ => its2.toArray)).get? a = some (seqObj "list" its2.toArray c) := ⟨_, get?_update_seq e fun _ => its2.toArray⟩
  exact I.write (x := a) (e := a) (by rw [h]; exact True.intro) (.inl rfl) (fun b q hb z => ((Heap.SameBut.update s.heap a _).2 b hb).trans z) ⟨_, hc⟩ ⟨z, its2, c, r, hc⟩
theorem sqT_updA {K : PySem.W.Frag} {H : Hp} {a r : Addr} {o : HO} {vs : List V} (n1 : ∀ xs, H a ≠ some (.tup xs)) (n2 : ∀ q xs, H a ≠ some (.frz q (.tup xs))) (h : SqT K H r vs) : SqT K (upd H a o) r vs := by
  rcases h with (h | ⟨q, h⟩) | h
  · exact .inl (.inl (by rw [upd_ne (fun z => n1 _ (z ▸ h))]; exact h))
  · exact .inl (.inr ⟨q, by rw [upd_ne (fun z => n2 _ _ (z ▸ h))]; exact h⟩)
  · exact .inr h
mutual
theorem DatAt.updA {K : PySem.W.Frag} {H : Hp} {a : Addr} {o : HO} (n1 : ∀ xs, H a ≠ some (.tup xs)) (n2 : ∀ q xs, H a ≠ some (.frz q (.tup xs))) : ∀ {v : V} {d : Dt}, DatAt K H v d → DatAt K (upd H a o) v d
  | v, .non, h => by simpa [DatAt] using h
  | v, .int i, h => by simpa [DatAt] using h
  | v, .str i, h => by simpa [DatAt] using h
  | v, .tup ds, h => by
    obtain ⟨r, vs, rfl, h1, h2⟩ := h.un
    exact .tup (sqT_updA n1 n2 h1) (DatsAt.updA n1 n2 h2)
theorem DatsAt.updA {K : PySem.W.Frag} {H : Hp} {a : Addr} {o : HO} (n1 : ∀ xs, H a ≠ some (.tup xs)) (n2 : ∀ q xs, H a ≠ some (.frz q (.tup xs))) : ∀ {vs : List V} {ds : List Dt}, DatsAt K H vs ds → DatsAt K (upd H a o) vs ds
  | vs, [], h => by
    rw [h.un0]
    exact .nil
  | vs, d :: ds, h => by
    obtain ⟨v, r, rfl, h1, h2⟩ := h.un
    exact .cons (DatAt.updA n1 n2 h1) (DatsAt.updA n1 n2 h2)
end
/-- what is known of the keys' order -/
def AskOk (X : Cx) (pins : List (Addr × Obj)) (σ : L2.St) (A : Around) (ds rs : List Dt) (lt : Dt → Dt → Bool) : Prop :=
  ∃ κ : SortKind, ∀ (H' : Hp) (s' : Shared) (ks : List V) (kits : List Value), Inv X pins σ H' s' → DatsAt X.K H' ks rs → Vals ks kits → 2 ≤ ds.length →
    (∀ Q : SortKind → Shared → Prop, Q κ s' → wpAny (model X.prog X.w) A (keyKind' kits.toArray) Q (fun _ _ => False) s') ∧
    ∀ i j (C : Bool → Shared → Prop), i < ds.length → j < ds.length → C (lt (ds.getD i .non) (ds.getD j .non)) s' → kas_ask X.prog X.w A κ kits i j C s'
/-- but for what stands at a -/
def But (a : Addr) (H H' : Hp) : Prop := ∀ b o, b ≠ a → H b = some o → H' b = some o
theorem lsortK {A : Around} {l f : Addr} {fd : FuncData} {px : Str} {sp : Sp} {k : Nat} {vs : List V} {ds : List Dt} {rk : Dt → Dt} {lt : Dt → Dt → Bool} {R : PySem.Fin → Shared → Prop} {E : Value → Shared → Prop}
    (F : FnOk X.prog X.w X.K X.mg X.base CX0 k f fd [px] sp) (hr : Room k A) (hf : A.frames = X.A.frames) (hb : Binds X.K fd [px] [])
    (hsp : ∀ (H' : Hp) (v : V) (d : Dt) (Q : VK), d ∈ ds → DatAt X.K H' v d → (∀ u H'', Same H' H'' → DatAt X.K H'' u (rk d) → Q u H'') → sp [v] H' Q fun _ _ _ => False)
    (I : Inv X pins σ H s) (hl : H l = some (.lst vs)) (hd : DatsAt X.K H vs ds) (few : ds.length < 64)
    (ask : AskOk X pins σ A ds (ds.map rk) lt)
    (ord : Lo ds.length fun i j => lt (ds.getD i .non) (ds.getD j .non))
    (done : ∀ (H' : Hp) (s' : Shared) (p : List Nat), Inv X pins σ H' s' → But l H H' → H' l = some (.lst (p.map fun i => vs.getD i .non)) → p.Perm (List.range ds.length) → (p.map fun i => ds.getD i .non).Pairwise (fun a b => lt a b = true) → R (.done (.ret .none)) s') :
    wpAny (model X.prog X.w) A (Builtin.«list.sort» ⟨[.ref l], [(Str.ofString "key", .ref f)]⟩) R E s := by
  obtain ⟨us, n0, rv, st0, vz⟩ := lst_at I hl
  have len1 := rv.length
  have len2 := hd.length
  have line : us.length ≤ sizeLine := by rw [← len1]; exact vz
  rw [ksk_t1]
  unfold ksk_tree
  refine wpAny_bind (listItems_at st0 rfl (wpAny_bind (listUpdate_at st0 rfl ?_ (by rw [List.size_toArray]; exact line) (Nat.zero_le _))))
  obtain ⟨c1, st1⟩ : ∃ c1, (s.heap.update l (Obj.mapSeq fun _ => (#[] : Array Value))).get? l = some (seqObj "list" #[] c1) := ⟨_, get?_update_seq st0 fun _ => #[]⟩
  have I1 : Inv X pins σ (upd H l (.ext fun h => h.get? l = some (seqObj "list" #[] c1))) { s with heap := s.heap.update l (Obj.mapSeq fun _ => (#[] : Array Value)) } := by
    refine I.write (x := l) (e := l) (t' := s.toks) (by rw [hl]; exact True.intro) (.inl rfl) (fun b q hb z => ((Heap.SameBut.update s.heap l _).2 b hb).trans z) ⟨_, st1⟩ ⟨st1, ⟨_, st1⟩, fun h1 h2 q1 q2 => q2 _ q1⟩
  have hd1 : DatsAt X.K (upd H l (.ext fun h => h.get? l = some (seqObj "list" #[] c1))) vs ds := hd.updA (fun xs z => by rw [hl] at z; cases z) (fun q xs z => by rw [hl] at z; cases z)
  have b1 : But l H (upd H l (.ext fun h => h.get? l = some (seqObj "list" #[] c1))) := fun b o ne e => by rw [upd_ne ne]; exact e
  have at1 : (upd H l (.ext fun h => h.get? l = some (seqObj "list" #[] c1))) l = some (.ext fun h => h.get? l = some (seqObj "list" #[] c1)) := upd_same
  generalize upd H l (.ext fun h => h.get? l = some (seqObj "list" #[] c1)) = H1 at I1 hd1 b1 at1
  generalize s.heap.update l (Obj.mapSeq fun _ => (#[] : Array Value)) = g1 at I1 st1
  refine wpAny_bind (seqEpoch_at st1 rfl (wpAny_bind (wpAny_newTuple (wpAny_bind (wpAny_newList ?_ (Nat.zero_le _))) (by simpa using line))))
  refine wpAny_holding ?_
  have I2 : Inv X pins σ H1 { s with heap := g1.push (seqObj "tuple" us.toArray 0) } := I1.kept (t' := s.toks) fun b o q => Heap.get?_push_of_some _ q
  have kfree : H1 (g1.push (seqObj "tuple" us.toArray 0)).objs.size = none := I2.hok.fresh (Nat.le_refl _)
  have I3 := I2.laid (t' := s.toks) (a := (g1.push (seqObj "tuple" us.toArray 0)).objs.size) (o := .lst []) (h' := (g1.push (seqObj "tuple" us.toArray 0)).push (seqObj "list" #[] 0)) (fun b o q => Heap.get?_push_of_some _ q) (Nat.le_refl _) ⟨Nat.zero_le _, [], 0, .nil, Heap.get?_push_size _ rfl⟩
  have kat : (upd H1 (g1.push (seqObj "tuple" us.toArray 0)).objs.size (.lst [])) (g1.push (seqObj "tuple" us.toArray 0)).objs.size = some (.lst []) := upd_same
  have nkl : l ≠ (g1.push (seqObj "tuple" us.toArray 0)).objs.size := ne_of_none at1 kfree
  have S3 : Same H1 (upd H1 (g1.push (seqObj "tuple" us.toArray 0)).objs.size (.lst [])) := .upd kfree
  have hd3 := hd1.same S3
  have at3 := S3 _ _ at1
  have b3 : But l H (upd H1 (g1.push (seqObj "tuple" us.toArray 0)).objs.size (.lst [])) := fun b o ne e => S3 _ _ (b1 b o ne e)
  have fr3 : ∀ b o, H b = some o → b ≠ l → b ≠ (g1.push (seqObj "tuple" us.toArray 0)).objs.size := fun b o e ne => ne_of_none (b1 b o ne e) kfree
  show wpAny _ _ (ksk_rest l (.ref f) false us.toArray c1 (.ref (g1.push (seqObj "tuple" us.toArray 0)).objs.size)) R E { s with heap := (g1.push (seqObj "tuple" us.toArray 0)).push (seqObj "list" #[] 0) }
  generalize upd H1 (g1.push (seqObj "tuple" us.toArray 0)).objs.size (.lst []) = H3 at I3 kat hd3 at3 b3
  generalize (g1.push (seqObj "tuple" us.toArray 0)).push (seqObj "list" #[] 0) = g3 at I3
  generalize (g1.push (seqObj "tuple" us.toArray 0)).objs.size = kS at I3 kat nkl fr3
  clear I1 I2 kfree st1 S3 hd1 b1 at1 st0
  unfold ksk_rest
  refine wpAny_bind (wpAny_rule ?_)
  rw [List.forIn_toArray]
  refine wpAny_bind (wpAny_forIn_list _ (fun rest _ s' => ∃ H' dn dr ks vr, Inv X pins σ H' s' ∧ But kS H3 H' ∧ H' kS = some (.lst ks) ∧ DatsAt X.K H' ks (dn.map rk) ∧ ds = dn ++ dr ∧ DatsAt X.K H' vr dr ∧ Vals vr rest) _ ?_ ?_ _ _
    ⟨H3, [], ds, [], vs, I3, fun _ _ _ e => e, kat, .nil, rfl, hd3, rv⟩)
  · rintro x rest ⟨⟩ s' ⟨H', dn, dr, ks, vr, I', b', k', dk, e, dv, r'⟩
    cases r' with
    | @cons v _ vr' _ rx r' =>
      cases dr with
      | nil => exact absurd dv.un0 (by simp)
      | cons d dr =>
        obtain ⟨v', vr'', e', d1, d2⟩ := dv.un
        cases e'
        have dmem : d ∈ ds := by rw [e]; exact List.mem_append_right _ (List.mem_cons_self ..)
        refine wpAny_bind (wpAny_attempt (wpAny_mono (run_in (E := fun _ _ => False) (Q := fun u H'' => Same H' H'' ∧ DatAt X.K H'' u (rk d)) F hr hf hb I' (.cons rx .nil) (hsp H' v d _ dmem d1 fun u H'' a b => ⟨a, b⟩)) (fun u s'' q => ?_) fun _ _ z => z.elim))
        obtain ⟨w', H'', I'', ru, S'', dw⟩ := q
        obtain ⟨kits, n, rk', st, kz⟩ := lst_at I'' (S'' _ _ k')
        have kl := dk.length
        have dl : (dn ++ d :: dr).length < 64 := by rw [← e]; exact few
        rw [List.length_map] at kl
        rw [List.length_append] at dl
        have kl2 := rk'.length
        have s64 : (64 : Nat) ≤ sizeLine := by decide
        dsimp only
        refine wpAny_bind (listUpdate_at st rfl (wpAny_pure ?_) (by rw [List.size_toArray]; omega) (by rw [Array.size_push, List.size_toArray]; omega))
        obtain ⟨c, hc⟩ : ∃ c, (s''.heap.update kS (Obj.mapSeq (·.push u))).get? kS = some (seqObj "list" (kits ++ [u]).toArray c) := ⟨_, by rw [← List.push_toArray]; exact get?_update_seq st (·.push u)⟩
        have n1 : ∀ xs, H'' kS ≠ some (.tup xs) := fun xs z => by rw [S'' _ _ k'] at z; cases z
        have n2 : ∀ q xs, H'' kS ≠ some (.frz q (.tup xs)) := fun q xs z => by rw [S'' _ _ k'] at z; cases z
        refine ⟨upd H'' kS (.lst (ks ++ [w'])), dn ++ [d], dr, ks ++ [w'], vr', ?_, fun b o ne q => ?_, upd_same, ?_, by rw [e]; simp, (d2.same S'').updA n1 n2, r'⟩
        · exact I''.write (x := kS) (e := kS) (t' := s''.toks) (by rw [S'' _ _ k']; exact True.intro) (.inl rfl) (fun b q hb z => ((Heap.SameBut.update s''.heap kS _).2 b hb).trans z) ⟨_, hc⟩
            ⟨by rw [List.length_append]; show ks.length + 1 ≤ _; omega, kits ++ [u], c, rk'.append (.cons ru .nil), hc⟩
        · rw [upd_ne ne]
          exact S'' _ _ (b' b o ne q)
        · rw [List.map_append]
          exact ((dk.same S'').append (.cons dw .nil)).updA n1 n2
  rintro ⟨⟩ s' ⟨H', dn, dr, ks, vr, I', b', k', dk, e, dv, r'⟩
  have vr0 : vr = [] := by cases r'; rfl
  subst vr0
  have dr0 : dr = [] := by
    cases dr with
    | nil => rfl
    | cons d dr => obtain ⟨_, _, z, _⟩ := dv.un; cases z
  subst dr0
  rw [List.append_nil] at e
  subst e
  obtain ⟨kits, nk, rk', st, kz⟩ := lst_at I' k'
  have kl := dk.length
  rw [List.length_map] at kl
  have kl2 := rk'.length
  refine wpAny_bind (listItems_at st rfl ?_)
  have atl : H' l = some (.ext fun h => h.get? l = some (seqObj "list" #[] c1)) := b' _ _ nkl at3
  have stl : s'.heap.get? l = some (seqObj "list" #[] c1) := (show ObjOk X.prog X.w H' s'.heap l (.ext _) from I'.hok l _ atl).1
  have s64 : (64 : Nat) ≤ sizeLine := by decide
  have vals_pick : ∀ p : List Nat, (∀ i ∈ p, i < vs.length) → Vals (p.map fun i => vs.getD i .non) (p.map fun i => us.getD i Value.none) := by
    intro p all
    induction p with
    | nil => exact .nil
    | cons i p ih =>
      have hi := all i (List.mem_cons_self ..)
      obtain ⟨u, eu, ru⟩ := rv.get (i := i) (x := vs[i]) (List.getElem?_eq_getElem hi)
      refine .cons ?_ (ih fun k hk => all k (List.mem_cons_of_mem _ hk))
      show RelV (vs.getD i .non) (us.getD i Value.none)
      rw [getD_of eu, getD_of (List.getElem?_eq_getElem hi)]
      exact ru
  have tail : ∀ (st' : SortSt) (p : List Nat), (arrOf st').map (·.2) = (p.map fun i => us.getD i Value.none).toArray → failedOf st' = none → p.Perm (List.range ds.length) → (p.map fun i => ds.getD i .non).Pairwise (fun a b => lt a b = true) →
      wpAny (model X.prog X.w) A (ksk_tail l false c1 (.ref kS) st') R E s' := by
    intro st' p hout hfail hp hsort
    have pl : p.length = ds.length := by rw [hp.length_eq, List.length_range]
    have I4 := lst_set (ys := []) (its2 := []) (t' := s'.toks) I' k' st .nil (Nat.zero_le _)
    have stl4 : (s'.heap.update kS (Obj.mapSeq fun _ => ([] : List Value).toArray)).get? l = some (seqObj "list" #[] c1) := ((Heap.SameBut.update s'.heap kS _).2 l nkl).trans stl
    have atl4 : (upd H' kS (.lst [])) l = some (.ext fun h => h.get? l = some (seqObj "list" #[] c1)) := by rw [upd_ne nkl]; exact atl
    unfold ksk_tail
    dsimp only
    rw [hout, if_neg Bool.false_ne_true]
    refine wpAny_bind (listUpdate_at st rfl (wpAny_bind (wpAny_letGo (wpAny_bind (seqEpoch_at stl4 rfl (wpAny_bind (listUpdate_at stl4 rfl ?_ (Nat.zero_le _) ?_)))))) (by rw [List.size_toArray]; omega) (Nat.zero_le _))
    · rw [hfail]
      simp only [bne_self_eq_false, Bool.false_eq_true, if_false]
      obtain ⟨c5, hc5⟩ : ∃ c5, ((s'.heap.update kS (Obj.mapSeq fun _ => ([] : List Value).toArray)).update l (Obj.mapSeq fun _ => (p.map fun i => us.getD i Value.none).toArray)).get? l = some (seqObj "list" (p.map fun i => us.getD i Value.none).toArray c5) := ⟨_, get?_update_seq stl4 fun _ => _⟩
      have all : ∀ i ∈ p, i < vs.length := fun i hi => by
        have := List.mem_range.mp (hp.mem_iff.mp hi)
        omega
      refine wpAny_pure (done (upd (upd H' kS (.lst [])) l (.lst (p.map fun i => vs.getD i .non))) _ p ?_ (fun b o ne q => ?_) upd_same hp hsort)
      · exact I4.write (x := l) (e := l) (t' := s'.toks) (by rw [atl4]; exact True.intro) (.inl rfl) (fun b q hb z => ((Heap.SameBut.update _ l _).2 b hb).trans z) ⟨_, hc5⟩ ⟨by rw [List.length_map]; omega, _, c5, vals_pick p all, hc5⟩
      · rw [upd_ne ne, upd_ne (fr3 b o q ne)]
        exact b' b o (fr3 b o q ne) (b3 b o ne q)
    · rw [List.size_toArray, List.length_map]
      omega
  unfold ksk_end
  dsimp only
  rw [if_neg Bool.false_ne_true]
  by_cases h2 : us.toArray.size < 2
  · rw [if_pos h2, if_pos h2]
    refine wpAny_bind (wpAny_pure ?_)
    rw [StateT.run_pure]
    refine wpAny_bind (wpAny_pure ?_)
    dsimp only
    rw [List.size_toArray] at h2
    refine tail _ (List.range ds.length) ?_ rfl (List.Perm.refl _) ?_
    · rw [if_neg Bool.false_ne_true]
      show (kits.toArray.zip us.toArray).map (·.2) = _
      apply Array.toList_inj.mp
      refine List.ext_getElem (by simp; omega) fun i k1 k2 => ?_
      have k3 : i < us.length := by
        have : i < ds.length := by simpa using k2
        omega
      simp [List.getD_eq_getElem?_getD, k3]
    · cases hds : ds with
      | nil => exact .nil
      | cons d r =>
        cases r with
        | nil => exact List.pairwise_singleton ..
        | cons d2 r => rw [hds] at len2; simp at len2; omega
  · rw [if_neg h2, if_neg h2]
    rw [List.size_toArray] at h2
    obtain ⟨κ, hκ⟩ := ask
    obtain ⟨kind, cmp⟩ := hκ H' s' ks kits I' dk rk' (by omega)
    have un : us.length = ds.length := by omega
    refine wpAny_bind (wpAny_mono (kind (fun k z => k = κ ∧ z = s') ⟨rfl, rfl⟩) (fun k z hk => ?_) fun _ _ x => x.elim)
    obtain ⟨rfl, rfl⟩ := hk
    have tree : (kas_sort us.length).kasWp (kas_ask X.prog X.w A k kits) (fun p z' => (Pl us.length p ∧ As (fun i j => lt (ds.getD i .non) (ds.getD j .non)) p us.length) ∧ z' = z) z :=
      (tr_sort (N := us.length) (by omega)).wpR (fun i j => lt (ds.getD i .non) (ds.getD j .non)) (fun i j C hi hj hC => cmp i j C (by omega) (by omega) hC) fun hp => ⟨⟨hp, run_sort (by rw [un]; exact ord) (by omega)⟩, rfl⟩
    rw [if_neg Bool.false_ne_true]
    refine wpAny_bind (wpAny_mono (kat_run (E := E) (Q := fun st z' => ∃ p : Array Nat, arrOf st = p.map (kas_item (kits.toArray.zip us.toArray)) ∧ failedOf st = none ∧ (Pl us.length p ∧ As (fun i j => lt (ds.getD i .non) (ds.getD j .non)) p us.length) ∧ z' = z) (by omega) (by omega) (by omega)
      (fun p st z' _ q1 q2 q3 => ⟨p, q1, q2, q3⟩) tree) ?_ fun _ _ x => x)
    rintro ⟨⟨⟩, st'⟩ z' ⟨p, q1, q2, ⟨q3, q4⟩, rfl⟩
    dsimp only
    have pp : p.toList.Perm (List.range us.length) := by simpa using Array.perm_iff_toList_perm.mp q3
    refine tail st' p.toList (kat_snds (by omega) q1) q2 (by rw [← un]; exact pp) ?_
    rw [List.pairwise_map, List.pairwise_iff_getElem]
    intro i j hi hj hij
    have ps : p.size = us.length := Pl.size q3
    have hj' : j < p.size := by simpa using hj
    have := q4 i j hij (by omega)
    have gi : gp p i = p.toList[i] := by
      show p.getD i 0 = _
      simp [Array.getD, show i < p.size by omega]
    have gj : gp p j = p.toList[j] := by
      show p.getD j 0 = _
      simp [Array.getD, hj']
    rw [gi, gj] at this
    exact this
end
end L2
namespace L2
open PySem PySem.Spec PySem.W PyProof.Rows
mutual
def Dt.lt : Dt → Dt → Bool
  | .non, .non => false
  | .non, .int _ => true
  | .non, .str _ => true
  | .non, .tup _ => true
  | .int _, .non => false
  | .int n, .int m => decide (n < m)
  | .int _, .str _ => true
  | .int _, .tup _ => true
  | .str _, .non => false
  | .str _, .int _ => false
  | .str x, .str y => decide (x.cps.toList < y.cps.toList)
  | .str _, .tup _ => true
  | .tup _, .non => false
  | .tup _, .int _ => false
  | .tup _, .str _ => false
  | .tup a, .tup b => Dt.lts a b
def Dt.lts : List Dt → List Dt → Bool
  | [], [] => false
  | [], _ :: _ => true
  | _ :: _, [] => false
  | a :: as, b :: bs => if Dt.beq a b = true then Dt.lts as bs else Dt.lt a b
end
theorem str_ext {x y : Str} (h : x.cps.toList = y.cps.toList) : x = y := by
  cases x
  cases y
  simp only [Str.mk.injEq]
  exact Array.toList_inj.mp h
theorem Dt.lts_cons (a b : Dt) (as bs : List Dt) : Dt.lts (a :: as) (b :: bs) = if Dt.beq a b = true then Dt.lts as bs else Dt.lt a b := by simp [Dt.lts]
mutual
theorem Dt.lt_asym : ∀ a b : Dt, Dt.lt a b = true → Dt.lt b a = false
  | .non, .non, h => by simp [Dt.lt] at h
  | .non, .int _, _ => by simp [Dt.lt]
  | .non, .str _, _ => by simp [Dt.lt]
  | .non, .tup _, _ => by simp [Dt.lt]
  | .int _, .non, h => by simp [Dt.lt] at h
  | .int n, .int m, h => by
    simp only [Dt.lt, decide_eq_true_eq, decide_eq_false_iff_not] at h ⊢
    omega
  | .int _, .str _, _ => by simp [Dt.lt]
  | .int _, .tup _, _ => by simp [Dt.lt]
  | .str _, .non, h => by simp [Dt.lt] at h
  | .str _, .int _, h => by simp [Dt.lt] at h
  | .str x, .str y, h => by
    simp only [Dt.lt, decide_eq_true_eq, decide_eq_false_iff_not] at h ⊢
    exact fun z => List.lt_irrefl _ (List.lt_trans h z)
  | .str _, .tup _, _ => by simp [Dt.lt]
  | .tup _, .non, h => by simp [Dt.lt] at h
  | .tup _, .int _, h => by simp [Dt.lt] at h
  | .tup _, .str _, h => by simp [Dt.lt] at h
  | .tup a, .tup b, h => by
    simp only [Dt.lt] at h ⊢
    exact Dt.lts_asym a b h
theorem Dt.lts_asym : ∀ a b : List Dt, Dt.lts a b = true → Dt.lts b a = false
  | [], [], h => by simp [Dt.lts] at h
  | [], _ :: _, _ => by simp [Dt.lts]
  | _ :: _, [], h => by simp [Dt.lts] at h
  | a :: as, b :: bs, h => by
    rw [Dt.lts_cons] at h ⊢
    by_cases e : Dt.beq a b = true
    · rw [if_pos e] at h
      have e' : Dt.beq b a = true := (Dt.beq_iff _ _).mpr ((Dt.beq_iff _ _).mp e).symm
      rw [if_pos e']
      exact Dt.lts_asym as bs h
    · rw [if_neg e] at h
      have e' : ¬ Dt.beq b a = true := fun z => e ((Dt.beq_iff _ _).mpr ((Dt.beq_iff _ _).mp z).symm)
      rw [if_neg e']
      exact Dt.lt_asym a b h
end
mutual
theorem Dt.lt_tri : ∀ a b : Dt, a ≠ b → Dt.lt a b = false → Dt.lt b a = true
  | .non, .non, n, _ => absurd rfl n
  | .non, .int _, _, h => by simp [Dt.lt] at h
  | .non, .str _, _, h => by simp [Dt.lt] at h
  | .non, .tup _, _, h => by simp [Dt.lt] at h
  | .int _, .non, _, _ => by simp [Dt.lt]
  | .int n, .int m, ne, h => by
    simp only [Dt.lt, decide_eq_true_eq, decide_eq_false_iff_not] at h ⊢
    have : n ≠ m := fun z => ne (by rw [z])
    omega
  | .int _, .str _, _, h => by simp [Dt.lt] at h
  | .int _, .tup _, _, h => by simp [Dt.lt] at h
  | .str _, .non, _, _ => by simp [Dt.lt]
  | .str _, .int _, _, _ => by simp [Dt.lt]
  | .str x, .str y, ne, h => by
    simp only [Dt.lt, decide_eq_true_eq, decide_eq_false_iff_not] at h ⊢
    rcases Decidable.em (y.cps.toList < x.cps.toList) with z | z
    · exact z
    · exact absurd (str_ext (List.le_antisymm (List.not_lt.mp z) (List.not_lt.mp h))) (fun q => ne (by rw [q]))
  | .str _, .tup _, _, h => by simp [Dt.lt] at h
  | .tup _, .non, _, _ => by simp [Dt.lt]
  | .tup _, .int _, _, _ => by simp [Dt.lt]
  | .tup _, .str _, _, _ => by simp [Dt.lt]
  | .tup a, .tup b, ne, h => by
    simp only [Dt.lt] at h ⊢
    exact Dt.lts_tri a b (fun z => ne (by rw [z])) h
theorem Dt.lts_tri : ∀ a b : List Dt, a ≠ b → Dt.lts a b = false → Dt.lts b a = true
  | [], [], n, _ => absurd rfl n
  | [], _ :: _, _, h => by simp [Dt.lts] at h
  | _ :: _, [], _, _ => by simp [Dt.lts]
  | a :: as, b :: bs, ne, h => by
    rw [Dt.lts_cons] at h ⊢
    by_cases e : Dt.beq a b = true
    · rw [if_pos e] at h
      have e1 := (Dt.beq_iff _ _).mp e
      have e' : Dt.beq b a = true := (Dt.beq_iff _ _).mpr e1.symm
      rw [if_pos e']
      exact Dt.lts_tri as bs (fun z => ne (by rw [z, e1])) h
    · rw [if_neg e] at h
      have e' : ¬ Dt.beq b a = true := fun z => e ((Dt.beq_iff _ _).mpr ((Dt.beq_iff _ _).mp z).symm)
      rw [if_neg e']
      exact Dt.lt_tri a b (fun z => e ((Dt.beq_iff _ _).mpr z)) h
end
mutual
theorem Dt.lt_trans : ∀ a b c : Dt, Dt.lt a b = true → Dt.lt b c = true → Dt.lt a c = true
  | a, .non, _, h, _ => by cases a <;> simp [Dt.lt] at h
  | a, b, .non, _, k => by cases b <;> simp [Dt.lt] at k
  | .non, .int _, .int _, _, _ => by simp [Dt.lt]
  | .non, .int _, .str _, _, _ => by simp [Dt.lt]
  | .non, .int _, .tup _, _, _ => by simp [Dt.lt]
  | .non, .str _, .int _, _, k => by simp [Dt.lt] at k
  | .non, .str _, .str _, _, _ => by simp [Dt.lt]
  | .non, .str _, .tup _, _, _ => by simp [Dt.lt]
  | .non, .tup _, .int _, _, k => by simp [Dt.lt] at k
  | .non, .tup _, .str _, _, k => by simp [Dt.lt] at k
  | .non, .tup _, .tup _, _, _ => by simp [Dt.lt]
  | .int a, .int b, .int c, h, k => by
    simp only [Dt.lt, decide_eq_true_eq] at h k ⊢
    omega
  | .int _, .int _, .str _, _, _ => by simp [Dt.lt]
  | .int _, .int _, .tup _, _, _ => by simp [Dt.lt]
  | .int _, .str _, .int _, _, k => by simp [Dt.lt] at k
  | .int _, .str _, .str _, _, _ => by simp [Dt.lt]
  | .int _, .str _, .tup _, _, _ => by simp [Dt.lt]
  | .int _, .tup _, .int _, _, k => by simp [Dt.lt] at k
  | .int _, .tup _, .str _, _, k => by simp [Dt.lt] at k
  | .int _, .tup _, .tup _, _, _ => by simp [Dt.lt]
  | .str _, .int _, _, h, _ => by simp [Dt.lt] at h
  | .str _, .str _, .int _, _, k => by simp [Dt.lt] at k
  | .str a, .str b, .str c, h, k => by
    simp only [Dt.lt, decide_eq_true_eq] at h k ⊢
    exact List.lt_trans h k
  | .str _, .str _, .tup _, _, _ => by simp [Dt.lt]
  | .str _, .tup _, .int _, _, k => by simp [Dt.lt] at k
  | .str _, .tup _, .str _, _, k => by simp [Dt.lt] at k
  | .str _, .tup _, .tup _, _, _ => by simp [Dt.lt]
  | .tup _, .int _, _, h, _ => by simp [Dt.lt] at h
  | .tup _, .str _, _, h, _ => by simp [Dt.lt] at h
  | .tup _, .tup _, .int _, _, k => by simp [Dt.lt] at k
  | .tup _, .tup _, .str _, _, k => by simp [Dt.lt] at k
  | .tup a, .tup b, .tup c, h, k => by
    simp only [Dt.lt] at h k ⊢
    exact Dt.lts_trans a b c h k
theorem Dt.lts_trans : ∀ a b c : List Dt, Dt.lts a b = true → Dt.lts b c = true → Dt.lts a c = true
  | a, [], _, h, _ => by cases a <;> simp [Dt.lts] at h
  | a, b :: bs, [], _, k => by simp [Dt.lts] at k
  | [], _ :: _, _ :: _, _, _ => by simp [Dt.lts]
  | a :: as, b :: bs, c :: cs, h, k => by
    rw [Dt.lts_cons] at h k ⊢
    by_cases e1 : Dt.beq a b = true
    · have q1 := (Dt.beq_iff _ _).mp e1
      rw [if_pos e1] at h
      by_cases e2 : Dt.beq b c = true
      · rw [if_pos e2] at k
        rw [q1, if_pos e2]
        exact Dt.lts_trans as bs cs h k
      · rw [if_neg e2] at k
        rw [q1, if_neg e2]
        exact k
    · rw [if_neg e1] at h
      by_cases e2 : Dt.beq b c = true
      · have q2 := (Dt.beq_iff _ _).mp e2
        rw [← q2, if_neg e1]
        exact h
      · rw [if_neg e2] at k
        have t := Dt.lt_trans a b c h k
        by_cases e3 : Dt.beq a c = true
        · have q3 := (Dt.beq_iff _ _).mp e3
          rw [← q3] at k
          rw [Dt.lt_asym a b h] at k
          cases k
        · rw [if_neg e3]
          exact t
end
theorem Dt.lt_self (a : Dt) : Dt.lt a a = false := by
  cases h : Dt.lt a a with
  | false => rfl
  | true => rw [Dt.lt_asym a a h] at h; cases h
/-- data that are all unlike have an order of places -/
theorem lo_of {ds : List Dt} (h : ds.Nodup) : Lo ds.length fun i j => Dt.lt (ds.getD i .non) (ds.getD j .non) := by
  refine ⟨fun i j hi hj ne e => Dt.lt_tri _ _ (fun z => ne ?_) e, fun i j k _ _ _ => Dt.lt_trans _ _ _, fun i j _ _ => Dt.lt_asym _ _⟩
  rw [getD_of (List.getElem?_eq_getElem hi), getD_of (List.getElem?_eq_getElem hj)] at z
  exact (List.getElem_inj h).mp z
/-- two rows in order with the same members are the same -/
theorem order_unique : ∀ {a b : List Dt}, a.Pairwise (fun x y => Dt.lt x y = true) → b.Pairwise (fun x y => Dt.lt x y = true) → (∀ x, x ∈ a ↔ x ∈ b) → a = b
  | [], [], _, _, _ => rfl
  | [], y :: b, _, _, h => absurd ((h y).mpr (List.mem_cons_self ..)) (by simp)
  | x :: a, [], _, _, h => absurd ((h x).mp (List.mem_cons_self ..)) (by simp)
  | x :: a, y :: b, p, q, h => by
    rw [List.pairwise_cons] at p q
    have e : x = y := by
      rcases List.mem_cons.mp ((h x).mp (List.mem_cons_self ..)) with z | z
      · exact z
      · rcases List.mem_cons.mp ((h y).mpr (List.mem_cons_self ..)) with z2 | z2
        · exact z2.symm
        · have h1 := q.1 x z
          rw [Dt.lt_asym _ _ (p.1 y z2)] at h1
          cases h1
    subst e
    have hx : ∀ {l : List Dt}, (∀ z ∈ l, Dt.lt x z = true) → x ∉ l := fun hl m => by
      have := hl x m
      rw [Dt.lt_self] at this
      cases this
    rw [order_unique p.2 q.2 fun z => ?_]
    have := h z
    rw [List.mem_cons, List.mem_cons] at this
    constructor
    · intro m
      rcases this.mp (.inr m) with w | w
      · subst w; exact absurd m (hx p.1)
      · exact w
    · intro m
      rcases this.mpr (.inr m) with w | w
      · subst w; exact absurd m (hx q.1)
      · exact w
end L2
namespace L2
open PySem PySem.Spec PySem.W PyProof.Rows
mutual
/-- Python compares them -/
def Cmp : Dt → Dt → Prop
  | .int _, .int _ => True
  | .str _, .str _ => True
  | .tup a, .tup b => Cmps a b
  | _, _ => False
def Cmps : List Dt → List Dt → Prop
  | a :: as, b :: bs => Cmp a b ∧ (a = b → Cmps as bs)
  | _, _ => True
end
def LexP (X : Cx) (A : Around) (E : Value → Shared → Prop) (fin : Bool) (Q : Value → Shared → Prop) : List (Value × Value) → Shared → Prop
  | [], s => Q (.bool fin) s
  | (x, y) :: r, s => ∃ e, SeqAt.EqAt A s x y e ∧ (e = true → LexP X A E fin Q r s) ∧ (e = false → wpAny (model X.prog X.w) A (richCompare .Lt x y) Q E s)
section
variable {X : Cx} {A : Around} {E : Value → Shared → Prop} {s : Shared} {Q : Value → Shared → Prop}
theorem tupLt_wp {a b : Addr} {oa ob : Obj} {xs ys : List Value} {na nb : Nat} (ha : s.heap.get? a = some oa) (_ca : oa.cls = .type "tuple") (da : oa.data = .seq xs.toArray na) (hb : s.heap.get? b = some ob) (cb : ob.cls = .type "tuple") (db : ob.data = .seq ys.toArray nb)
    (h : LexP X A E (decide (xs.length < ys.length)) Q (xs.zip ys) s) :
    wpAny (model X.prog X.w) A (Builtin.«tuple.__lt__» ⟨[.ref a, .ref b], []⟩) (fun fin s' => ∃ v, fin = .done (.ret v) ∧ Q v s') E s := by
  show wpAny _ _ (isInstance (.ref b) (.type "tuple") >>= _) _ _ s
  refine wpAny_bind (wpAny_isInstance ⟨ob, hb, cb⟩ isSubtype_tuple_tuple ?_)
  rw [if_neg (by simp)]
  refine wpAny_bind (wpAny_tupleItemsOf ha da (wpAny_bind (wpAny_tupleItemsOf hb db (wpAny_bind ?_))))
  refine wpAny_forIn_list _ (fun rest r s' => r.1 = none ∧ s' = s ∧ LexP X A E (decide (xs.length < ys.length)) Q rest s) _ ?_ ?_ _ _ ⟨rfl, rfl, h⟩
  · rintro ⟨x, y⟩ rest r s' ⟨hr, rfl, e, he, h1, h2⟩
    refine wpAny_bind (he _ _ _ _ ?_)
    cases e with
    | true =>
      rw [if_neg (by simp)]
      exact wpAny_pure ⟨rfl, rfl, h1 rfl⟩
    | false =>
      rw [if_pos (by simp)]
      refine wpAny_bind (wpAny_rule (wpAny_bind (wpAny_mono (h2 rfl) (fun v s2 q => ?_) fun _ _ z => z)))
      exact wpAny_bind (wpAny_pure (wpAny_pure (wpAny_pure ⟨v, rfl, q⟩)))
  · rintro ⟨r1, r2⟩ s' ⟨hr, rfl, q⟩
    simp only at hr
    subst hr
    exact wpAny_pure ⟨_, rfl, by simpa [Builtin.Tuple.tupleCompareSizes, LexP] using q⟩
end
section
variable {X : Cx} {pins : List (Addr × Obj)} {σ : L2.St} {H : Hp} {s : Shared}
theorem lex_dat (I : Inv X pins σ H s) {A : Around} {E : Value → Shared → Prop} {Q : Value → Shared → Prop} {n : Nat} (hA : A.units + n < cLine)
    (ih : ∀ (d e : Dt) (x y : V) (u v : Value), d.hgt ≤ n → Cmp d e → DatAt X.K H x d → DatAt X.K H y e → RelV x u → RelV y v → ∀ Q : Value → Shared → Prop, Q (.bool (Dt.lt d e)) s → wpAny (model X.prog X.w) A (richCompare .Lt u v) Q E s) (fin : Bool) :
    ∀ (ds es : List Dt) (vs ws : List V) (us us' : List Value), Dt.hgts ds ≤ n → Cmps ds es → DatsAt X.K H vs ds → DatsAt X.K H ws es → Vals vs us → Vals ws us' → fin = decide (ds.length < es.length) → Q (.bool (Dt.lts ds es)) s → LexP X A E fin Q (us.zip us') s
  | [], es, vs, ws, us, us', _, _, h1, h2, r1, r2, hf, q => by
    have := h1.un0
    subst this
    cases r1
    rw [List.zip_nil_left]
    show Q (.bool fin) s
    cases es with
    | nil => simpa [hf, Dt.lts] using q
    | cons e es => simpa [hf, Dt.lts] using q
  | d :: ds, [], vs, ws, us, us', _, _, h1, h2, r1, r2, hf, q => by
    have := h2.un0
    subst this
    cases r2
    rw [List.zip_nil_right]
    show Q (.bool fin) s
    simpa [hf, Dt.lts] using q
  | d :: ds, e :: es, vs, ws, us, us', hg, hc, h1, h2, r1, r2, hf, q => by
    obtain ⟨v, vr, rfl, d1, d2⟩ := h1.un
    obtain ⟨w', wr, rfl, e1, e2⟩ := h2.un
    have hh : Dt.hgts (d :: ds) = max d.hgt (Dt.hgts ds) := by simp [Dt.hgts]
    rw [hh] at hg
    simp only [Cmps] at hc
    cases r1 with
    | cons ru r1 =>
      cases r2 with
      | cons rw' r2 =>
        rw [List.zip_cons_cons]
        refine ⟨Dt.beq d e, eqAt_dat I n A d e v w' _ _ (by omega) hA d1 e1 ru rw', fun b => ?_, fun b => ?_⟩
        · rw [Dt.lts_cons, if_pos b] at q
          exact lex_dat I hA ih fin ds es vr wr _ _ (by omega) (hc.2 ((Dt.beq_iff _ _).mp b)) d2 e2 r1 r2 (by simpa using hf) q
        · rw [Dt.lts_cons, if_neg (by rw [b]; exact Bool.false_ne_true)] at q
          exact ih d e v w' _ _ (by omega) hc.1 d1 e1 ru rw' Q q
theorem ltAt_dat (I : Inv X pins σ H s) {E : Value → Shared → Prop} : ∀ (n : Nat) (A : Around) (d e : Dt) (x y : V) (u v : Value), d.hgt ≤ n → A.units + 2 * n < cLine → Cmp d e → DatAt X.K H x d → DatAt X.K H y e → RelV x u → RelV y v →
    ∀ Q : Value → Shared → Prop, Q (.bool (Dt.lt d e)) s → wpAny (model X.prog X.w) A (richCompare .Lt u v) Q E s := by
  intro n
  have flat : ∀ (A : Around) (d e : Dt) (x y : V) (u v : Value), d.hgt = 0 → Cmp d e → DatAt X.K H x d → DatAt X.K H y e → RelV x u → RelV y v →
      ∀ Q : Value → Shared → Prop, Q (.bool (Dt.lt d e)) s → wpAny (model X.prog X.w) A (richCompare .Lt u v) Q E s := by
    intro A d e x y u v hg hc h1 h2 r1 r2 Q q
    cases d with
    | non => cases e <;> simp [Cmp] at hc
    | int n =>
      cases e with
      | int m =>
        have := h1.int_eq
        subst this
        have := h2.int_eq
        subst this
        obtain ⟨t, rfl⟩ := r1
        obtain ⟨t', rfl⟩ := r2
        exact (lt_int (by simpa [Dt.lt] using q) : wpAny (model X.prog X.w) A (compareOp .Lt _ _) Q E s)
      | _ => simp [Cmp] at hc
    | str n =>
      cases e with
      | str m =>
        have := h1.str_eq
        subst this
        have := h2.str_eq
        subst this
        obtain ⟨t, rfl⟩ := r1
        obtain ⟨t', rfl⟩ := r2
        exact (lt_str (by simpa [Dt.lt] using q) : wpAny (model X.prog X.w) A (compareOp .Lt _ _) Q E s)
      | _ => simp [Cmp] at hc
    | tup ds => simp [Dt.hgt] at hg
  induction n with
  | zero =>
    intro A d e x y u v hg _ hc h1 h2 r1 r2 Q q
    exact flat A d e x y u v (by omega) hc h1 h2 r1 r2 Q q
  | succ n ih =>
    intro A d e x y u v hg hu hc h1 h2 r1 r2 Q q
    by_cases h0 : d.hgt = 0
    · exact flat A d e x y u v h0 hc h1 h2 r1 r2 Q q
    cases d with
    | non => simp [Dt.hgt] at h0
    | int n => simp [Dt.hgt] at h0
    | str n => simp [Dt.hgt] at h0
    | tup ds =>
      cases e with
      | tup es =>
        simp only [Cmp] at hc
        obtain ⟨a, vs, rfl, s1, d1⟩ := h1.un
        obtain ⟨b, ws, rfl, s2, d2⟩ := h2.un
        obtain ⟨us, rv1, ⟨oa, ea, ca, na, da⟩, _⟩ := I.tuple s1
        obtain ⟨us', rv2, ⟨ob, eb, cb, nb, db⟩, _⟩ := I.tuple s2
        cases (show u = Value.ref a from r1)
        cases (show v = Value.ref b from r2)
        have hh : Dt.hgt (.tup ds) = Dt.hgts ds + 1 := by simp [Dt.hgt]
        rw [hh] at hg
        have hA : A.in1.units + 2 * n < cLine := by rw [Around.in1_units]; omega
        refine wpAny_richCompare_same_room (op := .Lt) ⟨oa, ea, ca⟩ ⟨ob, eb, cb⟩ PySem.F.slot_tuple_lt (wpAny_call_entry PySem.F.slot_tuple_lt ⟨oa, ea, ca⟩ PySem.F.entry_tuple_lt (tupLt_wp ea ca da eb cb db ?_) (PySem.F.args_tuple_lt_2 _ _)) (by omega)
        refine lex_dat I (n := n) (by omega) (fun d e x y u v hg hc h1 h2 r1 r2 Q q => ih A.in1 d e x y u v hg hA hc h1 h2 r1 r2 Q q) _ ds es vs ws us us' (by omega) hc d1 d2 rv1 rv2 ?_ ⟨(fun x => nomatch x), by simpa [Dt.lt] using q⟩
        rw [← rv1.length, ← rv2.length, d1.length, d2.length]
      | _ => simp [Cmp] at hc
end
/-- the rank of an outcome -/
def rankD : Dt → Dt
  | .non => .tup [.int 0]
  | .int n => .tup [.int 1, .int n]
  | d => .tup [.int 2, d]
theorem cmps_pairs : ∀ fs gs : List (Str × Int), Cmps (fs.map pairD) (gs.map pairD)
  | [], gs => by cases gs <;> simp [Cmps]
  | f :: fs, [] => by simp [Cmps]
  | f :: fs, g :: gs => by
    simp only [List.map_cons, Cmps]
    exact ⟨by simp [pairD, Cmp, Cmps], fun _ => cmps_pairs fs gs⟩
def kdN : Dt → Int
  | .non => 0
  | .int _ => 1
  | _ => 2
def tlD : Dt → List Dt
  | .non => []
  | .int n => [.int n]
  | d => [d]
theorem rankD_eq (d : Dt) : rankD d = .tup (.int (kdN d) :: tlD d) := by cases d <;> rfl
section
variable {X : Cx} {pins : List (Addr × Obj)} {σ : L2.St} {H : Hp} {s : Shared}
theorem rank_at (I : Inv X pins σ H s) {v : V} {u : Value} {d : Dt} (h : DatAt X.K H v (rankD d)) (r : RelV v u) :
    ∃ a t o n vr ur, u = Value.ref a ∧ s.heap.get? a = some o ∧ o.cls = .type "tuple" ∧ o.data = .seq (Value.int (kdN d) t :: ur).toArray n ∧ DatsAt X.K H vr (tlD d) ∧ Vals vr ur := by
  rw [rankD_eq] at h
  obtain ⟨a, ws, rfl, h1, h2⟩ := h.un
  obtain ⟨v1, vr, rfl, q1, h3⟩ := h2.un
  have e1 := q1.int_eq
  subst e1
  obtain ⟨its, rv, ⟨o, e, c, n, dd⟩, _⟩ := I.tuple h1
  cases (show u = Value.ref a from r)
  cases rv with
  | cons rx rr =>
    obtain ⟨t, rfl⟩ := (show ∃ t, _ = Value.int (kdN d) t from rx)
    exact ⟨a, t, o, n, vr, _, rfl, e, c, dd, h3, rr⟩
theorem ranks_tups (I : Inv X pins σ H s) : ∀ (ds : List Dt) (vs : List V) (us : List Value), DatsAt X.K H vs (ds.map rankD) → Vals vs us → ∃ fs, KatTups s.heap us fs ∧ fs.length = us.length ∧ ∀ f ∈ fs, ∃ x t, f = Value.int x t
  | [], vs, us, h, r => by
    have e := h.un0
    subst e
    cases r
    exact ⟨[], .nil, rfl, fun f hf => nomatch hf⟩
  | p :: ps, vs, us, h, r => by
    obtain ⟨v, w', rfl, h1, h2⟩ := DatsAt.un (d := rankD p) (ds := ps.map rankD) h
    cases r with
    | cons r1 r2 =>
      obtain ⟨a, t, o, n, vr, ur, rfl, e1, e2, e3, _, _⟩ := rank_at I h1 r1
      obtain ⟨fs, k1, k2, k3⟩ := ranks_tups I ps _ _ h2 r2
      refine ⟨Value.int (kdN p) t :: fs, .cons e1 e2 e3 (by simp) k1, by simp [k2], fun f hf => ?_⟩
      rcases List.mem_cons.mp hf with q | q
      · exact ⟨_, _, q⟩
      · exact k3 f q
theorem oc_cmp {d e : Dt} (hd : Oc d) (he : Oc e) (k : kdN d = kdN e) : Cmps (tlD d) (tlD e) := by
  cases hd with
  | non => simp [tlD, Cmps]
  | int n =>
    cases he with
    | non => simp [kdN] at k
    | int m => simp [tlD, Cmps, Cmp]
    | recd gs => simp [kdN] at k
  | recd fs =>
    cases he with
    | non => simp [kdN] at k
    | int m => simp [kdN] at k
    | recd gs => simp [tlD, Cmps, Cmp, cmps_pairs]
theorem oc_lt {d e : Dt} (hd : Oc d) (he : Oc e) : Dt.lt d e = if kdN d = kdN e then Dt.lts (tlD d) (tlD e) else decide (kdN d < kdN e) := by
  cases hd with
  | non => cases he <;> simp [Dt.lt, Dt.lts, kdN, tlD]
  | int n =>
    cases he with
    | non => simp [Dt.lt, kdN]
    | int m =>
      by_cases h : n = m
      · subst h
        simp [Dt.lt, Dt.lts, kdN, tlD, Dt.beq_self]
      · have : Dt.beq (.int n) (.int m) = false := Dt.beq_ne fun z => h (by cases z; rfl)
        simp [Dt.lt, Dt.lts, kdN, tlD, this]
    | recd gs => simp [Dt.lt, kdN]
  | recd fs =>
    cases he with
    | non => simp [Dt.lt, kdN]
    | int m => simp [Dt.lt, kdN]
    | recd gs =>
      by_cases h : (Dt.tup (fs.map pairD)) = .tup (gs.map pairD)
      · rw [h, Dt.lt_self]
        simp [Dt.lts, kdN, tlD, Dt.beq_self]
      · have : Dt.beq (.tup (fs.map pairD)) (.tup (gs.map pairD)) = false := Dt.beq_ne h
        simp [Dt.lts, kdN, tlD, this]
theorem tl_len {d e : Dt} (hd : Oc d) (he : Oc e) (k : kdN d = kdN e) : (tlD d).length = (tlD e).length := by
  cases hd <;> cases he <;> simp_all [kdN, tlD]
theorem tl_hgt {d : Dt} (hd : Oc d) : Dt.hgts (tlD d) ≤ 2 := by
  have := hd.hgt
  cases hd <;> simp_all [tlD, Dt.hgts, Dt.hgt]
theorem ask_rank {A : Around} (hA : A.units + 64 < cLine) {ds : List Dt} (oc : ∀ d ∈ ds, Oc d) : AskOk X pins σ A ds (ds.map rankD) Dt.lt := by
  refine ⟨tuples' ((Value.type "int") != (Value.type "tuple")), fun H' s' ks kits I' dk rk' h2 => ⟨fun Q hq => ?_, fun i j C hi hj hC => ?_⟩⟩
  · obtain ⟨fs, k1, k2, k3⟩ := ranks_tups I' ds ks kits dk rk'
    have l1 := dk.length
    rw [List.length_map] at l1
    have l2 := rk'.length
    refine kat_kind (T := Value.type "int") k1 (by omega) (fun v hv => ?_) (by decide +kernel) hq
    obtain ⟨x, t, rfl⟩ := k3 v hv
    exact .now
  · have gi : ∀ {m : Nat}, m < ds.length → ∃ a t o n vr ur, kits.getD m Value.none = Value.ref a ∧ s'.heap.get? a = some o ∧ o.data = .seq (Value.int (kdN (ds.getD m .non)) t :: ur).toArray n ∧ DatsAt X.K H' vr (tlD (ds.getD m .non)) ∧ Vals vr ur := fun {m} hm => by
      have e1 : (ds.map rankD)[m]? = some (rankD (ds.getD m .non)) := by simp [List.getD_eq_getElem?_getD, hm]
      obtain ⟨v, ev, hv⟩ := dk.get e1
      obtain ⟨u, eu, ru⟩ := rk'.get ev
      obtain ⟨a, t, o, n, vr, ur, rfl, f1, _, f3, f4, f5⟩ := rank_at I' hv ru
      exact ⟨a, t, o, n, vr, ur, getD_of eu, f1, f3, f4, f5⟩
    have om : ∀ {m : Nat}, m < ds.length → Oc (ds.getD m .non) := fun {m} hm => by
      rw [getD_of (List.getElem?_eq_getElem hm)]
      exact oc _ (List.getElem_mem hm)
    obtain ⟨a1, t1, o1, n1, vr1, ur1, e1, g1, d1, q1, r1⟩ := gi hi
    obtain ⟨a2, t2, o2, n2, vr2, ur2, e2, g2, d2, q2, r2⟩ := gi hj
    have oi := om hi
    have oj := om hj
    show wpAny _ _ (keyLt' _ (kits.getD i Value.none) (kits.getD j Value.none)) C _ s'
    rw [e1, e2]
    generalize ds.getD i .non = d at d1 q1 oi hC
    generalize ds.getD j .non = e at d2 q2 oj hC
    refine kat_lt g1 d1 g2 d2 ?_
    rw [oc_lt oi oj] at hC
    show KatLex _ _ _ _ _ C ((Value.int (kdN d) t1, Value.int (kdN e) t2) :: ur1.zip ur2) 0 s'
    refine kat_cons (SeqAt.EqAt.int_int _ _ _ _ _ _ _ _ (kat_go (fun b1 => kat_yes ?_) fun b1 => kat_no ?_))
    · have ek : kdN d = kdN e := by simpa using b1
      rw [if_pos ek] at hC
      have sl : (Value.int (kdN d) t1 :: ur1).toArray.size = (Value.int (kdN e) t2 :: ur2).toArray.size := by
        rw [List.size_toArray, List.size_toArray, List.length_cons, List.length_cons, ← r1.length, ← r2.length, q1.length, q2.length, tl_len oi oj ek]
      rw [decide_eq_false (by rw [sl]; exact Nat.lt_irrefl _)]
      have cm := oc_cmp oi oj ek
      have hg := tl_hgt oi
      have tll := tl_len oi oj ek
      have one : (tlD d).length ≤ 1 := by cases oi <;> simp [tlD]
      generalize tlD d = td at q1 hC cm hg tll one
      generalize tlD e = te at q2 hC cm tll
      cases td with
      | nil =>
        have := q1.un0
        subst this
        cases r1
        cases te with
        | nil =>
          refine kat_nil ?_
          simpa [Dt.lts] using hC
        | cons y te => simp at tll
      | cons x td =>
        cases te with
        | nil => simp at tll
        | cons y te =>
          have td0 : td = [] := List.length_eq_zero_iff.mp (by rw [List.length_cons] at one; omega)
          have te0 : te = [] := List.length_eq_zero_iff.mp (by rw [List.length_cons] at one; rw [List.length_cons, List.length_cons] at tll; omega)
          subst td0 te0
          obtain ⟨v1, w1, rfl, x1, x2⟩ := q1.un
          obtain ⟨v2, w2, rfl, y1, y2⟩ := q2.un
          have := x2.un0
          subst this
          have := y2.un0
          subst this
          obtain ⟨u1, rfl, ru1⟩ := vals1 r1
          obtain ⟨u2, rfl, ru2⟩ := vals1 r2
          have hx : x.hgt ≤ 2 := by simp [Dt.hgts] at hg; exact hg
          simp only [Cmps] at cm
          refine kat_cons (eqAt_dat I' 2 A x y v1 v2 u1 u2 hx (by omega) x1 y1 ru1 ru2 _ _ _ _ (kat_go (fun b2 => kat_yes (kat_nil ?_)) fun b2 => kat_no ?_))
          · rw [Dt.lts_cons, if_pos b2] at hC
            simpa [Dt.lts] using hC
          · rw [Dt.lts_cons, if_neg (by rw [b2]; exact Bool.false_ne_true)] at hC
            exact kat_one _ _ (ltAt_dat I' 2 A x y v1 v2 u1 u2 hx (by omega) cm.1 x1 y1 ru1 ru2 _ hC)
    · have ek : kdN d ≠ kdN e := by simpa using b1
      rw [if_neg ek] at hC
      exact oneLt_int hC
end
end L2
namespace L2
open PySem PySem.Spec PySem.W PyProof.Rows
theorem dk_vals : ∀ {kvs : List (Dt × V × V)} {ks : List (Dt × Value × Value)}, Paired DkR kvs ks → Vals (kvs.map (·.2.1)) (ks.map (·.2.1))
  | _, _, .nil => .nil
  | _, _, .cons r t => .cons r.2.1 (dk_vals t)
theorem dk_dats {K : PySem.W.Frag} {H : Hp} : ∀ {kvs : List (Dt × V × V)}, (∀ x ∈ kvs, DatAt K H x.2.1 x.1) → DatsAt K H (kvs.map (·.2.1)) (kvs.map (·.1))
  | [], _ => .nil
  | x :: kvs, h => .cons (h x (List.mem_cons_self ..)) (dk_dats fun y hy => h y (List.mem_cons_of_mem _ hy))
theorem acc_keys {w : World} {es : Array DictEntry} {ks : List (Dt × Value × Value)} {acc : Array Value} (he : es.toList = ks.map (entD w)) (hs : acc.size = es.size) (h : ∀ (j : Nat) (v : Value), acc[j]? = some v → ∃ e : DictEntry, es[j]? = some e ∧ v = e.key) : acc.toList = ks.map (·.2.1) := by
  have sz : es.size = ks.length := by rw [← Array.length_toList, he, List.length_map]
  refine List.ext_getElem (by simp; omega) fun i k1 k2 => ?_
  have hi : i < acc.size := by simpa using k1
  obtain ⟨e, e1, e2⟩ := h i acc[i] (by simp [hi])
  rw [ent_at he i] at e1
  have hk : i < ks.length := by omega
  rw [List.getElem?_eq_getElem hk] at e1
  have : e = entD w ks[i] := (Option.some.inj e1).symm
  subst this
  rw [Array.getElem_toList, e2, List.getElem_map]
  rfl
section
variable {X : Cx} {pins : List (Addr × Obj)} {σ : L2.St} {H : Hp} {s : Shared} {a : Addr} {kvs : List (Dt × V × V)}
theorem pick_perm {α : Type} {xs : List α} {d : α} {p : List Nat} (h : p.Perm (List.range xs.length)) : (p.map fun i => xs.getD i d).Perm xs := by
  have e : (List.range xs.length).map (fun i => xs.getD i d) = xs := by
    refine List.ext_getElem (by simp) fun i k1 k2 => ?_
    rw [List.getElem_map, List.getElem_range, getD_of (List.getElem?_eq_getElem k2)]
  have := h.map fun i => xs.getD i d
  rw [e] at this
  exact this
theorem d_sorted {f : Addr} {fd : FuncData} {px : Str} {sp : Sp} {k : Nat} {E : Value → Shared → Prop} {Q : Value → Shared → Prop} (F : FnOk X.prog X.w X.K X.mg X.base CX0 k f fd [px] sp) (hr : Room (k + 2) X.A) (hb : Binds X.K fd [px] [])
    (hsp : ∀ (H' : Hp) (v : V) (d : Dt) (Q : VK), Oc d → DatAt X.K H' v d → (∀ u H'', Same H' H'' → DatAt X.K H'' u (rankD d) → Q u H'') → sp [v] H' Q fun _ _ _ => False)
    (I : Inv X pins σ H s) (M : DkM X.K X.w H a kvs) (few : kvs.length < 64)
    (q : ∀ (D : Addr) (H' : Hp) (es : List (Dt × V × V)) (s' : Shared), Same H H' → H D = none → es.Perm kvs → (es.map (·.1)).Pairwise (fun x y => Dt.lt x y = true) → H' D = some (.lst (es.map (·.2.1))) → Inv X pins σ H' s' → Q (.ref D) s') :
    wpAny (model X.prog X.w) X.A (call (.builtin "sorted") [.ref a] [(Str.ofString "key", .ref f)]) Q E s := by
  obtain ⟨⟨far, ob, es, ep, ks, e1, e2, e3, e4, p⟩, _, _⟩ := (show ObjOk X.prog X.w H s.heap a (DkO X.w a kvs) from I.hok a _ M.at_)
  have kl : kvs.length = ks.length := Paired.length p
  have sz : es.size = ks.length := by rw [← Array.length_toList, e4, List.length_map]
  have s64 : (64 : Nat) ≤ sizeLine := by decide
  have rm : Room k X.A.in1.in1 := (show Room (k + 1) X.A.in1 from hr.in1).in1
  refine call_function_entry_kw kind_sorted plain_sorted entry_sorted (ksk_s1 _ _) ?_
  unfold Builtin.«sorted»
  refine wpAny_bind (m := checkCount "sorted" 1 1 _) (wpAny_pure (wpAny_bind (kdu_collect (es_src (es := es) (ep := ep) far) hr.hd ⟨ob, e1, e2, e3⟩ (by omega) fun h1 tk acc kept items => ?_)))
  have ea : acc.toList = ks.map (·.2.1) := acc_keys e4 items.1 fun j v e => items.2 j v e
  rw [ea]
  have I1 : Inv X pins σ H { s with heap := h1, toks := tk } := I.kept kept
  have lfree : H h1.objs.size = none := I1.hok.fresh (Nat.le_refl _)
  refine wpAny_bind (wpAny_newList ?_ (by rw [List.length_map]; omega))
  have I2 := I1.laid (t' := tk) (a := h1.objs.size) (o := .lst (kvs.map (·.2.1))) (h' := h1.push (seqObj "list" (ks.map (·.2.1)).toArray 0)) (fun b o q => Heap.get?_push_of_some _ q) (Nat.le_refl _)
    ⟨by rw [List.length_map]; omega, _, 0, dk_vals p, Heap.get?_push_size _ rfl⟩
  have dat : DatsAt X.K H (kvs.map (·.2.1)) (kvs.map (·.1)) := dk_dats M.dat
  refine wpAny_bind (wpAny_holding (wpAny_call_entry_kw slot_list_sort ⟨_, Heap.get?_push_size _ rfl, rfl⟩ entry_list_sort ?body (ksk_l1 _ _)))
  case body =>
    refine lsortK (A := X.A.in1.in1) (ds := kvs.map (·.1)) (rk := rankD) (lt := Dt.lt) F rm rfl hb (fun H' v d Q hd h1 h2 => hsp H' v d Q ?_ h1 h2) I2 upd_same (dat.same (.upd lfree)) (by rw [List.length_map]; exact few) (ask_rank rm.units fun d hd => ?_) (lo_of M.nd) fun H' s' pm I' but at' pp ps => ?_
    · obtain ⟨x, hx, rfl⟩ := List.mem_map.mp hd
      exact M.oc x hx
    · obtain ⟨x, hx, rfl⟩ := List.mem_map.mp hd
      exact M.oc x hx
    · refine ⟨_, rfl, wpAny_pure ⟨_, rfl, ?_⟩⟩
      rw [List.length_map] at pp
      have lt : ∀ i ∈ pm, i < kvs.length := fun i hi => List.mem_range.mp (pp.mem_iff.mp hi)
      refine q h1.objs.size H' (pm.map fun i => kvs.getD i (.non, .non, .non)) s' (fun b o e => but b o (ne_of_none e lfree) (by rw [upd_ne (ne_of_none e lfree)]; exact e)) lfree (pick_perm pp) ?_ ?_ I'
      · rw [List.map_map]
        have e : (pm.map fun i => (kvs.map (·.1)).getD i Dt.non) = pm.map ((·.1) ∘ fun i => kvs.getD i (.non, .non, .non)) := List.map_congr_left fun i hi => by
          show (kvs.map (·.1)).getD i Dt.non = (kvs.getD i (.non, .non, .non)).1
          simp [List.getD_eq_getElem?_getD, lt i hi]
        rw [← e]
        exact ps
      · rw [at', List.map_map]
        refine congrArg some (congrArg HO.lst (List.map_congr_left fun i hi => ?_))
        show (kvs.map (·.2.1)).getD i .non = (kvs.getD i (.non, .non, .non)).2.1
        simp [List.getD_eq_getElem?_getD, lt i hi]
/-- sorted(e, key = f) -/
def tSortK (K : PySem.W.Frag) (w : World) (f : Addr) (ta tk : TA) : TE := fun σ H Q => ta σ H fun vs H1 => tk σ H1 fun zs H2 => ∃ a kvs, vs = [.ref a] ∧ zs = [.ref f] ∧ DkM K w H2 a kvs ∧ kvs.length < 64 ∧
  ∀ (D : Addr) (H' : Hp) (es : List (Dt × V × V)), Same H2 H' → H2 D = none → es.Perm kvs → (es.map (·.1)).Pairwise (fun x y => Dt.lt x y = true) → H' D = some (.lst (es.map (·.2.1))) → Q (.ref D) H'
theorem pe_sortedK {x : Str} {p pos kpos : Pos} {e ef : Expr} {ta tk : TA} {f : Addr} {fd : FuncData} {px : Str} {sp : Sp} {k : Nat} (F : FnOk X.prog X.w X.K X.mg X.base CX0 k f fd [px] sp) (hr : Room (k + 2) X.A) (hb : Binds X.K fd [px] [])
    (hsp : ∀ (H' : Hp) (v : V) (d : Dt) (Q : VK), Oc d → DatAt X.K H' v d → (∀ u H'', Same H' H'' → DatAt X.K H'' u (rankD d) → Q u H'') → sp [v] H' Q fun _ _ _ => False)
    (hg : Gl X x) (hm : X.mg x = none) (hv : bootBuiltins x = some (.builtin "sorted")) (ha : PA X [e] ta) (hk : PK X [⟨some "key", ef, kpos⟩] tk) (hn : x ≠ "__name__" := by decide) (hdb : (x == ("__debug__" : Str)) = false := by decide)
    (h1 : backTo pos (starEach [e] X.env) = (false, eval e X.env) :: backTo pos (starEach [] X.env) := by rfl) (h2 : (backTo pos (starEach [e] X.env)).any (·.1) = false := by rfl) :
    PE X (.Call (.Name x p) [e] [⟨some "key", ef, kpos⟩] pos) (tSortK X.K X.w f ta tk) := by
  intro pins s σ H Q I h
  refine wpAny_Call_Name_kw (ld_blt I hg hm hv ?_ hn hdb)
  refine callWith_kw (thn (ha pos pins s σ H _ I h) fun us s1 ⟨vs, H1, I1, r1, q1⟩ => thn (hk pos pins s1 σ H1 _ I1 q1) fun ws s2 ⟨zs, H2, I2, r2, q2⟩ => ?_) h1 h2
  obtain ⟨a, kvs, rfl, rfl, M, few, q⟩ := q2
  obtain ⟨u1, rfl, z1⟩ := vals1 r1
  obtain ⟨u2, rfl, z2⟩ := vals1 r2
  cases (show u1 = Value.ref a from z1)
  cases (show u2 = Value.ref f from z2)
  exact d_sorted F hr hb hsp I2 M few fun D H' es s' e1 e2 e3 e4 e5 I' => ⟨.ref D, H', I', rfl, q D H' es e1 e2 e3 e4 e5⟩
end
end L2
namespace L2
open PySem PySem.Spec PySem.W PyProof.Rows
section
variable {prog : Program} {w : World} {A : Around} {E : Value → Shared → Prop} {s : Shared}
end
section
variable {X : Cx}
/-- list(reversed(e)) -/
def tLR (K : PySem.W.Frag) (ta : TA) : TE := fun σ H Q => ta σ H fun xs H1 => ∃ a vs, xs = [.ref a] ∧ SqL K H1 a vs ∧ ∀ D, H1 D = none → Q (.ref D) (upd H1 D (.lst vs.reverse))
/-- a.insert(i, x), i within -/
def insV (xs : List V) (k : Nat) (y : V) : List V := xs.take k ++ [y] ++ xs.drop k
def rInsert : V → List V → Hp → VK → Prop := fun x vs H Q => ∃ l xs y, ∃ k : Nat, x = .ref l ∧ vs = [.int k, y] ∧ k ≤ xs.length ∧ H l = some (.lst xs) ∧ xs.length ≤ 1000 ∧ Q .non (upd H l (.lst (insV xs k y)))
end
end L2
namespace L2
open PySem PySem.Spec PySem.W PyProof.Rows
section
variable {X : Cx} {pins : List (Addr × Obj)} {σ : L2.St} {H : Hp} {s : Shared} {a : Addr} {kvs : List (Dt × V × V)} {k : Dt} {i : V} {u : Value}
theorem get_vd {A : Around} {E : Value → Shared → Prop} {o : Obj} {es : Array DictEntry} {ep : Nat} {ks : List (Dt × Value × Value)} {Q : Option Value → Shared → Prop} (kt : Kit X A s ks k u)
    (ho : s.heap.get? a = some o) (hd : o.data = .dict es ep) (he : es.toList = ks.map (entD X.w)) (hn : (ks.map (·.1)).Nodup)
    (hnone : ∀ tk, (∀ (j : Nat) (p : Value × Value), ks[j]? ≠ some (k, p)) → Q none { s with toks := tk }) (hsome : ∀ tk (j : Nat) (p : Value × Value), ks[j]? = some (k, p) → Q (some p.2) { s with toks := tk }) :
    wpAny (model X.prog X.w) A (dictGet a u) Q E s := by
  unfold dictGet
  try with_reducible refine wpAny_holding ?_
  refine wpAny_bind (hash_vd k u A s _ kt.vd kt.hgt fun tk => wpAny_bind ?_)
  refine find_vd (s := { s with toks := tk }) ho hd he hn kt.st (fun x hx Q q => kt.eq tk x hx _ Q q) (fun v hv Q q => kt.quiet tk v hv _ Q q) kt.id (fun no => wpAny_pure (hnone tk no)) (fun j p e => ?_)
  refine wpAny_bind (wpAny_dictEntries (s := { s with toks := tk }) ho hd ?_)
  rw [ent_at he j, e]
  exact wpAny_pure (hsome tk j p e)
theorem dk_get : ∀ {kvs : List (Dt × V × V)} {ks : List (Dt × Value × Value)}, Paired DkR kvs ks → ∀ {j : Nat} {y : Dt × Value × Value}, ks[j]? = some y → ∃ x, kvs[j]? = some x ∧ DkR x y
  | _, _, .nil, j, y, e => by simp at e
  | _, _, .cons (a := x) r t, 0, y, e => by
    simp at e
    subst e
    exact ⟨x, rfl, r⟩
  | _, _, .cons _ t, j + 1, y, e => by
    obtain ⟨x, h1, h2⟩ := dk_get t (j := j) (by simpa using e)
    exact ⟨x, by simpa using h1, h2⟩
theorem dk_get' : ∀ {kvs : List (Dt × V × V)} {ks : List (Dt × Value × Value)}, Paired DkR kvs ks → ∀ {j : Nat} {x : Dt × V × V}, kvs[j]? = some x → ∃ y, ks[j]? = some y ∧ DkR x y
  | _, _, .nil, j, y, e => by simp at e
  | _, _, .cons (b := y) r t, 0, x, e => by
    simp at e
    subst e
    exact ⟨y, rfl, r⟩
  | _, _, .cons _ t, j + 1, x, e => by
    obtain ⟨y, h1, h2⟩ := dk_get' t (j := j) (by simpa using e)
    exact ⟨y, by simpa using h1, h2⟩
/-- what a dict tells of a key, or d where there is none -/
def valD (kvs : List (Dt × V × V)) (k : Dt) (d : V) : V := ((kvs.find? fun x => Dt.beq x.1 k).map (·.2.2)).getD d
theorem d_get {A : Around} {E : Value → Shared → Prop} {Q : Option Value → Shared → Prop} (hu : A.units + 40 < cLine) (I : Inv X pins σ H s) (M : DkM X.K X.w H a kvs) (hk : DatAt X.K H i k) (o : Oc k) (ri : RelV i u)
    (q1 : ∀ tk (j : Nat) (x : Dt × V × V) (r : Value), kvs[j]? = some x → x.1 = k → RelV x.2.2 r → Q (some r) { s with toks := tk }) (q0 : ∀ tk, k ∉ kvs.map (·.1) → Q none { s with toks := tk }) : wpAny (model X.prog X.w) A (dictGet a u) Q E s := by
  obtain ⟨⟨far, ob, es, ep, ks, e1, e2, e3, e4, p⟩, _, _⟩ := (show ObjOk X.prog X.w H s.heap a (DkO X.w a kvs) from I.hok a _ M.at_)
  have kt : Kit X A s ks k u := kit_of (by omega) I M p hk o ri
  refine get_vd kt e1 e3 e4 (by rw [← dk_keys p]; exact M.nd) (fun tk no => q0 tk ?_) (fun tk j pr e => ?_)
  · rw [dk_keys p]
    intro z
    obtain ⟨y, hy, ey⟩ := List.mem_map.mp z
    obtain ⟨j, hj⟩ := List.getElem?_of_mem hy
    exact no j y.2 (by rw [hj, ← ey])
  · obtain ⟨x, hx, r1, _, r3⟩ := dk_get p e
    exact q1 tk j x pr.2 hx r1 r3
/-- d[k], k is there -/
def rIxD (K : PySem.W.Frag) (w : World) : R2 := fun x y H Q => ∃ (a : Addr) (kvs : List (Dt × V × V)) (k : Dt) (j : Nat) (e : Dt × V × V), x = .ref a ∧ DkM K w H a kvs ∧ DatAt K H y k ∧ Oc k ∧ kvs[j]? = some e ∧ e.1 = k ∧ Q e.2.2 H
theorem ix_dk (hu : X.A.units + 64 < cLine) : IxR X (rIxD X.K X.w) := by
  intro value slice pins s σ H x y v u Q I rx ry h hs
  obtain ⟨a, kvs, k, j, e, rfl, M, hk, o, ej, ek, q⟩ := h
  cases (show v = Value.ref a from rx)
  obtain ⟨⟨far, ob, es, ep, ks, e1, e2, e3, e4, p⟩, _, _⟩ := (show ObjOk X.prog X.w H s.heap a (DkO X.w a kvs) from I.hok a _ M.at_)
  have hT : s.TypeIs (.ref a) "dict" := ⟨ob, e1, e2.1⟩
  obtain ⟨y, ey, dr⟩ := dk_get' p ej
  have kt : Kit X X.A.in1 s ks k u := kit_of (by rw [Around.in1_units]; omega) I M p hk o ry
  have nd : (ks.map (·.1)).Nodup := by rw [← dk_keys p]; exact M.nd
  refine subscriptTail_builtinR (x := y.2.2) hT slot_dict_getitem.lookup ?_ hs
  unfold getItem
  try with_reducible refine wpAny_holding ?_
  refine wpAny_bind (wpAny_sequenceKey hT (by decide) (wpAny_bind (wpAny_callSpecial?_slot (name := Str.ofString "__getitem__") hT slot_dict_getitem (wpAny_call_entry slot_dict_getitem hT entry_dict_getitem ?_ (args_dict_getitem _ _)))))
  show wpAny _ _ (dictGet a u >>= _) _ _ s
  refine wpAny_bind (get_vd kt e1 e3 e4 nd (fun tk no => absurd ey (by rw [← ek, dr.1] at no; exact no j y.2)) (fun tk j' pr e => ?_))
  have same := nd_at nd e ey (ek.symm.trans dr.1)
  subst same
  rw [e] at ey
  cases ey
  exact wpAny_pure ⟨_, rfl, wpAny_pure ⟨rfl, _, H, I.tok tk, dr.2.2, q⟩⟩
/-- list(d) -/
theorem call_listD (hc : X.calm = true) : CallR X (.type "list") (fun xs H Q => ∃ (a : Addr) (kvs : List (Dt × V × V)), xs = [.ref a] ∧ DkM X.K X.w H a kvs ∧ kvs.length ≤ 1000 ∧ ∀ D, H D = none → Q (.ref D) (upd H D (.lst (kvs.map (·.2.1))))) := by
  intro pins s σ H xs us Q I r h
  obtain ⟨a, kvs, rfl, M, few, q⟩ := h
  obtain ⟨u, rfl, ru⟩ := vals1 r
  cases (show u = Value.ref a from ru)
  obtain ⟨⟨far, ob, es, ep, ks, e1, e2, e3, e4, p⟩, _, _⟩ := (show ObjOk X.prog X.w H s.heap a (DkO X.w a kvs) from I.hok a _ M.at_)
  have kl : kvs.length = ks.length := Paired.length p
  have sz : es.size = ks.length := by rw [← Array.length_toList, e4, List.length_map]
  have s64 : (1000 : Nat) ≤ sizeLine := by decide
  refine kdl_call (es_src (es := es) (ep := ep) far) (I.ok.hd hc) ⟨ob, e1, e2, e3⟩ (by omega) fun h1 tk acc c kept at_ items => ?_
  have ea : acc.toList = ks.map (·.2.1) := acc_keys e4 items.1 fun j v e => items.2 j v e
  refine ⟨.ref _, _, I.laid (t' := tk) (a := s.heap.objs.size) (o := .lst (kvs.map (·.2.1))) (h' := h1) kept (Nat.le_refl _) ⟨by rw [List.length_map]; omega, ks.map (·.2.1), c, dk_vals p, ?_⟩, rfl, q _ (I.hok.fresh (Nat.le_refl _))⟩
  rw [← ea, Array.toArray_toList]
  exact at_
/-- d.get(k, x) -/
def rGetD (K : PySem.W.Frag) (w : World) : V → List V → Hp → VK → Prop := fun x vs H Q => ∃ (a : Addr) (kvs : List (Dt × V × V)) (y z : V) (k : Dt), x = .ref a ∧ vs = [y, z] ∧ DkM K w H a kvs ∧ DatAt K H y k ∧ Oc k ∧
  (∀ (j : Nat) (e : Dt × V × V), kvs[j]? = some e → e.1 = k → Q e.2.2 H) ∧ (k ∉ kvs.map (·.1) → Q z H)
theorem mt_getD (hu : X.A.units + 64 < cLine) : MtR X "dict.get" (rGetD X.K X.w) := by
  intro pins s σ H x vs v us Q I rx rv h
  obtain ⟨a, kvs, y, z, k, rfl, rfl, M, hk, o, q1, q0⟩ := h
  cases (show v = Value.ref a from rx)
  obtain ⟨u1, u2, rfl, r1, r2⟩ := vals2 rv
  obtain ⟨⟨far, ob, es, ep, ks, e1, e2, e3, e4, p⟩, _, _⟩ := (show ObjOk X.prog X.w H s.heap a (DkO X.w a kvs) from I.hok a _ M.at_)
  have hT : s.TypeIs (.ref a) "dict" := ⟨ob, e1, e2.1⟩
  refine wpAny_call_entry PySem.F.slot_dict_get hT PySem.F.entry_dict_get ?_ (PySem.F.args_dict_get_3 _ _ _)
  show wpAny _ _ (dictGet a u1 >>= _) _ _ s
  refine wpAny_bind (d_get (by rw [Around.in1_units]; omega) I M hk o r1 (fun tk j e r ej ek rr => ?_) (fun tk no => ?_))
  · exact wpAny_pure ⟨r, rfl, _, H, I.tok tk, rr, q1 j e ej ek⟩
  · show wpAny _ _ (Builtin.Dict.missed a u1 >>= _) _ _ _
    exact wpAny_bind (wpAny_missed_other far (wpAny_pure ⟨u2, rfl, z, H, I.tok tk, r2, q0 no⟩))
def tBMD (K : PySem.W.Frag) (w : World) (r : V → List V → Hp → VK → Prop) (to : TE) (t : TA) : TE := fun σ H Q => to σ H fun x H1 => (∃ a kvs, x = .ref a ∧ DkM K w H1 a kvs) ∧ t σ H1 fun vs H2 => r x vs H2 Q
theorem pe_bmD {r : V → List V → Hp → VK → Prop} {name : Str} {id : String} {o e : Expr} {es : List Expr} {to : TE} {t : TA} {apos cpos : Pos} (slot : Slot "dict" name id) (hty : typeOf (.builtin id) = pure (.type "method_descriptor")) (hm : MtR X id r) (ho : PE X o to) (ha : PA X (e :: es) t)
    (hbase : attributeBase o name X.env (eval o X.env) = eval o X.env := by rfl)
    (hfew : ((backTo cpos (starEach (e :: es) X.env)).all (fun x => !x.1) && (backToKw cpos (keywordEach [] X.env)).all (fun x => x.1.isSome) && decide ((e :: es).length + ([] : List Keyword).length + (if ([] : List Keyword).isEmpty then 0 else 1) < 30)) = true := by rfl)
    (hline : (apos.endLine == cpos.line) = true := by rfl) (hs : starEach (e :: es) X.env = (false, eval e X.env) :: starEach es X.env := by rfl) (hplain : (backTo cpos (starEach es X.env)).any (·.1) = false := by rfl) :
    PE X (.Call (.Attribute o name apos) (e :: es) [] cpos) (tBMD X.K X.w r to t) := by
  intro pins s σ H Q I h
  refine wpAny_Call_method_late hbase hfew hline rfl (thn (ho pins s σ H _ I h) fun v s1 ⟨x, H1, I1, r1, ⟨a, kvs, ex, M⟩, q1⟩ => ?_)
  subst ex
  cases (show v = Value.ref a from r1)
  obtain ⟨⟨far, ob, es', ep, ks, e1, e2, e3, e4, p⟩, _, _⟩ := (show ObjOk X.prog X.w H1 s1.heap a (DkO X.w a kvs) from I1.hok a _ M.at_)
  refine ⟨"dict", id, PySem.F.plainAttrs_dict, slot, hty, ⟨ob, e1, e2.1⟩, fun b eb => ?_, ?_⟩
  · cases eb
    exact ⟨ob, e1, e2.2.1⟩
  · have hA := ha cpos pins s1 σ H1 _ I1 q1
    rw [hs] at hA ⊢
    refine Calls.callWith_builtin (by show (false || (backTo cpos (starEach es X.env)).any (·.1)) = false; rw [hplain] <;> rfl) (Calls.evalArgs_plain ?_)
    exact thn hA fun us s2 ⟨vs, H2, I2, r2, q2⟩ => hm pins s2 σ H2 (.ref a) vs (.ref a) us Q I2 rfl r2 q2
end
end L2
namespace L2
open PySem PySem.Spec PySem.W PyProof.Rows
theorem ix_dkK {X : Cx} {K : PySem.W.Frag} {w : World} (hK : X.K = K) (hw : X.w = w) (hu : X.A.units + 64 < cLine) : IxR X (rIxD K w) := by
  subst hK hw
  exact ix_dk hu
end L2
namespace L2
open PySem PySem.Spec PyProof.Rows
/-- lo, lo + st, .. (n of them) -/
def Its (lo st : Int) (n : Nat) : It := ⟨fun i _ => i < n, fun i H x H' => H' = H ∧ x = .int (lo + (i : Nat) * st), fun i _ => n ≤ i⟩
section
variable {X : Cx} {tg : Expr}
def iRng5 (ta : TA) : TI := fun σ H R => ta σ H fun vs H1 => ∃ j : Int, vs = [.int 0, .int j, .int 5] ∧ 0 ≤ j ∧ j < 2 ^ 60 ∧ R (Its 0 5 ((j + 4) / 5).toNat) H1
end
/-- a pair of data and a list of data -/
def PrL (K : PySem.W.Frag) (H : Hp) (v : V) (d : Dt) (l : Addr) (ds : List Dt) : Prop := ∃ r u, v = .ref r ∧ SqT K H r [u, .ref l] ∧ DatAt K H u d ∧ LsM K H l ds
section
variable {X : Cx} {pins : List (Addr × Obj)} {σ : St} {H : Hp} {s : Shared}
/-- != of two lists of such pairs that are alike -/
def rNePL (K : PySem.W.Frag) : R2 := fun x y H Q => ∃ (a b : Addr) (vs ws : List V) (ds : List (Dt × List Dt)), x = .ref a ∧ y = .ref b ∧ SqL K H a vs ∧ SqL K H b ws ∧ vs.length = ds.length ∧ ws.length = ds.length ∧
  (∀ (i : Nat) (v : V) (d : Dt × List Dt), vs[i]? = some v → ds[i]? = some d → ∃ l, PrL K H v d.1 l d.2) ∧ (∀ (i : Nat) (v : V) (d : Dt × List Dt), ws[i]? = some v → ds[i]? = some d → ∃ l, PrL K H v d.1 l d.2) ∧ (∀ d ∈ ds, d.1.hgt ≤ 30 ∧ Dt.hgts d.2 ≤ 30) ∧ Q (.bl false) H
end
end L2
namespace L2
open PySem PySem.Spec PyProof.Rows
/-- a thing that is just this object, and stays so -/
def ObO (a : Addr) (o : Obj) : HO := .ext fun h => h.get? a = some o
section
variable {P : Program} {w : World} {H H' : Hp} {h h' : Heap} {a : Addr} {o : Obj}
theorem ob_ok (e : h.get? a = some o) : ObjOk P w H h a (ObO a o) := ⟨e, ⟨o, e⟩, fun _ _ e1 k => k _ e1⟩
theorem ob_get (x : HOk P w H h) (e : H a = some (ObO a o)) : h.get? a = some o := (show ObjOk P w H h a (ObO a o) from x a _ e).1
/-- but for what stands at these places -/
def hid (H : Hp) (cs : List Addr) : Hp := fun b => if b ∈ cs then none else H b
def back (H H' : Hp) (cs : List Addr) : Hp := fun b => if b ∈ cs then H b else H' b
theorem hid_in {cs : List Addr} {b : Addr} (m : b ∈ cs) : hid H cs b = none := if_pos m
theorem hid_out {cs : List Addr} {b : Addr} (m : b ∉ cs) : hid H cs b = H b := if_neg m
theorem back_in {cs : List Addr} {b : Addr} (m : b ∈ cs) : back H H' cs b = H b := if_pos m
theorem back_out {cs : List Addr} {b : Addr} (m : b ∉ cs) : back H H' cs b = H' b := if_neg m
/-- all of these are such things -/
def Obs (H : Hp) (cs : List Addr) : Prop := ∀ c ∈ cs, ∃ o, H c = some (ObO c o)
theorem Obs.no {cs : List Addr} (x : Obs H cs) {b : Addr} {u : HO} (e : H b = some u) (hu : ∀ φ, u ≠ .ext φ) : b ∉ cs := fun m => by
  obtain ⟨o, z⟩ := x b m
  rw [e] at z
  cases z
  exact hu _ rfl
theorem hid_ok {cs : List Addr} (x : Obs H cs) (k : HOk P w H h) : HOk P w (hid H cs) h := fun a u e => by
  have na : a ∉ cs := fun m => by rw [hid_in m] at e; cases e
  rw [hid_out na] at e
  refine (k a u e).stay (fun _ _ _ z => z) (fun b z => ?_) fun b xs z => ?_
  · rw [hid_out (x.no z fun _ y => nomatch y)]; exact z
  · rw [hid_out (x.no z fun _ y => nomatch y)]; exact z
theorem hid_none {cs : List Addr} {b : Addr} (e : H b = none) : hid H cs b = none := by
  by_cases m : b ∈ cs
  · exact hid_in m
  · rw [hid_out m]; exact e
theorem hid_env {K : PySem.W.Frag} {mg : Str → Option Value} {base : Heap} {A : Around} {outer : List Env} {s : Shared} {cs : List Addr} (x : Obs H cs) (e : Env0 P w K mg base A outer s H) : Env0 P w K mg base A outer s (hid H cs) :=
  ⟨e.frames, e.mod, fun b o z => ⟨(e.bs b o z).1, hid_none (e.bs b o z).2⟩, e.bsz, e.funs, fun b z => hid_none (e.frf b z), hid_ok x e.hok, e.bare⟩
theorem back_un {fs cs : List Addr} (x : Obs H cs) (nf : ∀ c ∈ cs, c ∉ fs) (u : Un fs [] (hid H cs) H' h h') (k : HOk P w H h) (k' : HOk P w H' h') : Un fs [] H (back H H' cs) h h' ∧ HOk P w (back H H' cs) h' := by
  have ex : ∀ c ∈ cs, ∃ o, h.get? c = some o ∧ H c = some (ObO c o) := fun c m => by
    obtain ⟨o, z⟩ := x c m
    exact ⟨o, ob_get k z, z⟩
  have out : ∀ {b : Addr} {v : HO}, H' b = some v → b ∉ cs := fun {b v} e m => by
    obtain ⟨o, z, _⟩ := ex b m
    rw [u.free b o z (hid_in m) (by simp)] at e
    cases e
  refine ⟨⟨fun b o e n hb hx => u.keep b o e (hid_none n) hb hx, fun b o e n hb hx => u.slot b o e (hid_none n) hb hx, fun b o e n hx => ?_, u.there, fun b xs e => ?_, fun b o v e => ?_, fun b ps e => ?_⟩, fun a v e => ?_⟩
  · by_cases m : b ∈ cs
    · rw [back_in m]; exact n
    · rw [back_out m]; exact u.free b o e (hid_none n) hx
  · have m := x.no e fun _ y => nomatch y
    rw [back_out m]
    exact u.tups b xs (by rw [hid_out m]; exact e)
  · have m := x.no e fun _ y => nomatch y
    rw [back_out m]
    exact u.frzs b o v (by rw [hid_out m]; exact e)
  · have m := x.no e fun _ y => nomatch y
    rw [back_out m]
    exact u.tbls b ps (by rw [hid_out m]; exact e)
  · by_cases m : a ∈ cs
    · rw [back_in m] at e
      obtain ⟨o, z, y⟩ := ex a m
      rw [y] at e
      cases e
      exact ob_ok (u.keep a o z (hid_in m) (nf a m) (by simp))
    · rw [back_out m] at e
      refine (k' a v e).stay (fun _ _ _ z => z) (fun b z => ?_) fun b xs z => ?_
      · rw [back_out (out z)]; exact z
      · rw [back_out (out z)]; exact z
end
/-- the frame of a lambda -/
def cxLam (P : Program) (w : World) (K : PySem.W.Frag) (mg : Str → Option Value) (base : Heap) (N ps : List Str) (qual : Str) (scope : Scope) (f : Addr) (cd : Value) (cl : List (Str × Addr)) (A : Around) (outer : List Env) (s : Shared) (H : Hp) : Cx where
  prog := P
  w := w
  K := K
  mg := mg
  base := base
  A := A.deeper (PySem.W.envX qual scope s.heap.objs.size f cd cl)
  N := N
  s₀ := s
  H₀ := H
  env := PySem.W.envX qual scope s.heap.objs.size f cd cl
  outer := outer
  stack := PySem.W.envX qual scope s.heap.objs.size f cd cl :: outer
  ex := []
  calm := true
  fn := fun x => decide (x ∈ ps)
  pn := []
  xe := fun _ _ => False
/-- what is asked of a lambda's text -/
structure LmScope (N ps : List Str) (scope : Scope) (cl : List (Str × Addr)) : Prop where
  kind : scope.kind = .function
  co : scope.isCoroutine = false
  gen : scope.isGenerator = false
  nd : N.Nodup
  eq : N = ps ++ cl.map (·.1)
  par : ∀ x ∈ ps, scope.names.lookup x = some .local
  nocell : ∀ y ∈ scope.names, y.2 ≠ .cell
  free : ∀ x, scope.names.lookup x = some .free → x ∈ cl.map (·.1)
  isfree : ∀ x ∈ cl.map (·.1), scope.names.lookup x = some .free
  inj : cl.Pairwise fun x y => x.2 ≠ y.2
/-- the cells that are taken, and what they hold -/
inductive CapsAt (H : Hp) : List (Str × Addr) → List V → Prop
  | nil : CapsAt H [] []
  | cons {x : Str} {c : Addr} {o : Obj} {u : Value} {v : V} {cl : List (Str × Addr)} {vs : List V} (e : H c = some (ObO c o)) (d : o.data = .cell (some u)) (r : RelV v u) (t : CapsAt H cl vs) : CapsAt H ((x, c) :: cl) (v :: vs)
theorem CapsAt.obs {H : Hp} : ∀ {cl : List (Str × Addr)} {vs : List V}, CapsAt H cl vs → Obs H (cl.map (·.2))
  | _, _, .nil => fun c m => by simp at m
  | _, _, .cons e d r t => fun c m => by
    rcases List.mem_cons.mp (show c ∈ _ :: _ from m) with z | z
    · rw [z]; exact ⟨_, e⟩
    · exact t.obs c z
theorem CapsAt.get {H : Hp} : ∀ {cl : List (Str × Addr)} {vs : List V}, CapsAt H cl vs → ∀ {j : Nat} {p : Str × Addr} {v : V}, cl[j]? = some p → vs[j]? = some v → ∃ o u, H p.2 = some (ObO p.2 o) ∧ o.data = .cell (some u) ∧ RelV v u
  | _, _, .cons e d r t, 0, p, v, h1, h2 => by
    cases h1
    cases h2
    exact ⟨_, _, e, d, r⟩
  | _, _, .cons e d r t, j + 1, p, v, h1, h2 => t.get (by simpa using h1) (by simpa using h2)
theorem CapsAt.len {H : Hp} : ∀ {cl : List (Str × Addr)} {vs : List V}, CapsAt H cl vs → vs.length = cl.length
  | _, _, .nil => rfl
  | _, _, .cons e d r t => by rw [List.length_cons, List.length_cons, t.len]
theorem lookup_get {cl : List (Str × Addr)} : ∀ {x : Str} {c : Addr}, cl.lookup x = some c → (x, c) ∈ cl := fun h => PySem.mem_of_lookup h
theorem get_lookup {α : Type} : ∀ {cl : List (Str × α)} {j : Nat} {x : Str} {c : α}, (cl.map (·.1)).Nodup → cl[j]? = some (x, c) → cl.lookup x = some c
  | (y, d) :: cl, 0, x, c, _, h => by
    cases h
    simp [List.lookup_cons]
  | (y, d) :: cl, j + 1, x, c, nd, h => by
    rw [List.map_cons, List.nodup_cons] at nd
    have h' : cl[j]? = some (x, c) := by simpa using h
    have ne : (x == y) = false := by
      rw [beq_eq_false_iff_ne]
      intro z
      exact nd.1 (z ▸ List.mem_map.mpr ⟨(x, c), List.mem_of_getElem? h', rfl⟩)
    rw [List.lookup_cons, ne]
    exact get_lookup nd.2 h'
theorem zip_lookup {ps : List Str} {us : List Value} (hl : ps.length ≤ us.length) (nd : ps.Nodup) {i : Nat} {x : Str} {u : Value} (h1 : ps[i]? = some x) (h2 : us[i]? = some u) : (ps.zip us).reverse.lookup x = some u := by
  have hz : (ps.zip us)[i]? = some (x, u) := by
    rw [List.getElem?_zip_eq_some]
    exact ⟨h1, h2⟩
  have ndz : ((ps.zip us).map (·.1)).Nodup := by
    rw [List.map_fst_zip hl]
    exact nd
  have ndr : ((ps.zip us).reverse.map (·.1)).Nodup := by
    rw [List.map_reverse]
    exact List.pairwise_reverse.mpr (ndz.imp fun h => Ne.symm h)
  obtain ⟨j, hj⟩ := List.getElem?_of_mem (List.mem_reverse.mpr (List.mem_of_getElem? hz))
  exact get_lookup ndr hj
section
variable {P : Program} {w : World} {K : PySem.W.Frag} {mg : Str → Option Value} {base : Heap}
theorem lam_run {k : Nat} {f c' : Addr} {co : Obj} {name qual : Str} {params : Arguments} {body : Expr} {scope : Scope} {cl : List (Str × Addr)} {pm ctv : Value} {N ps : List Str} {A : Around} {outer : List Env} {s : Shared} {H : Hp} {us : List Value} {vs cvs : List V} {Q : VK}
    (S : LmScope N ps scope cl) (hr : Room (k + 1) A) (e0 : Env0 P w K mg base A outer s H) (hf : H f = some (ObO f (PySem.W.kla_obj name qual params body scope cl pm c' ctv))) (hc : H c' = some (ObO c' co)) (hco : ∃ fs t, co.data = .fields fs ∧ fs[1]? = some (.str qual t))
    (caps : CapsAt H cl cvs) (hl : vs.length = ps.length) (r : Vals vs us) (hb : bindArgs (PySem.W.kla_fn name qual params body scope cl pm (.ref c') ctv) ⟨us, []⟩ = pure (ps.zip us))
    (hbody : ∃ t, PE (cxLam P w K mg base N ps qual scope f (.ref c') cl A outer s (hid H (cl.map (·.2)))) body t ∧ t ((vs ++ cvs).map some) (hid H (cl.map (·.2))) (fun v H' => (∀ c ∈ cl.map (·.2), H' c = none) → Q v (back H H' (cl.map (·.2))))) :
    codeAny (model P w) A (.call (.ref f) ⟨us, []⟩) (CR CX0 outer P w H s Q E0) s := by
  have KX : K.In s.heap := e0.mod.kin.keeps fun b o e => (e0.bs b o e).1
  have lim : s.heap.NoLimit := e0.mod.nolimit.keeps fun b o e => (e0.bs b o e).1
  have gf := ob_get e0.hok hf
  have gc := ob_get e0.hok hc
  obtain ⟨fs, tq, hd, h1⟩ := hco
  have lr := r.length
  refine PySem.W.kla_callFunE hr.depth gf rfl S.co S.gen rfl ⟨c', co, fs, tq, rfl, gc, hd, h1⟩ ?_
  refine wpAny_of_eq hb ?_
  refine wpAny_newFunctionEnv S.nocell (fun y hy => S.par _ (List.of_mem_zip hy).1) (fun h' ns sb => ?_) S.kind
  have keep : ∀ b u, s.heap.get? b = some u → h'.get? b = some u := fun b u e => sb.extBut b u (Nat.ne_of_lt (Heap.lt_size e)) (Heap.get?_push_of_some _ e)
  refine ⟨lim.keeps keep, PySem.W.kla_codeExpr ?_⟩
  obtain ⟨t, ht, hq⟩ := hbody
  have ob := caps.obs
  have e1 := hid_env ob e0
  have ndN := S.nd
  rw [S.eq] at ndN
  have ndc : (cl.map (·.1)).Nodup := (List.nodup_append.mp ndN).2.1
  have ndp : ps.Nodup := (List.nodup_append.mp ndN).1
  have dis : ∀ x ∈ ps, x ∉ cl.map (·.1) := fun x h1 h2 => (List.nodup_append.mp ndN).2.2 x h1 x h2 rfl
  have noA : ∀ b : Addr, b ∉ (cxLam P w K mg base N ps qual scope f (.ref c') cl A outer s (hid H (cl.map (·.2)))).ex := fun b z => absurd (show b ∈ ([] : List Addr) from z) (by simp)
  have cellAt : ∀ {x : Str} {c : Addr}, cl.lookup x = some c → ∃ j v o u, cl[j]? = some (x, c) ∧ cvs[j]? = some v ∧ h'.get? c = some o ∧ o.data = .cell (some u) ∧ RelV v u := fun {x c} h => by
    obtain ⟨j, hj⟩ := List.getElem?_of_mem (lookup_get h)
    have hj2 := (List.getElem?_eq_some_iff.mp hj).1
    have cl2 := caps.len
    have hv : cvs[j]? = some (cvs[j]'(by omega)) := List.getElem?_eq_getElem (by omega)
    obtain ⟨o, u, q1, q2, q3⟩ := caps.get hj hv
    exact ⟨j, _, o, u, hj, hv, keep _ _ (ob_get e0.hok q1), q2, q3⟩
  have I : Inv (cxLam P w K mg base N ps qual scope f (.ref c') cl A outer s (hid H (cl.map (·.2)))) [] ((vs ++ cvs).map some) (hid H (cl.map (·.2))) { s with heap := h', toks := s.toks + (ps.zip us).length } := by
    refine ⟨⟨e1.mod, S.kind, rfl, rfl, Nat.le_refl _, fun y z c h1 h2 => ?_, fun y hy => ?_, fun y c hy h => ?_, fun _ => hr.hd, Around.frames_deeper e1.frames, .inr ⟨rfl, rfl⟩, fun b z => absurd z (noA b), e1.bs, e1.bsz, fun b _ _ => noA b, fun b z => absurd z (noA b), e1.funs, e1.frf⟩,
      rfl, e1.bare, Un.kept keep, ⟨_, ns, fun i y v h1 h2 h3 => ?_⟩, fun y c h => ?_, e1.hok.fresh (Nat.le_refl _), fun y c h => ?_, fun p hp => absurd (show p ∈ ([] : List (Addr × Obj)) from hp) (by simp), e1.hok.kept keep, ?_⟩
    · have m1 := lookup_get (show cl.lookup y = some c from h1)
      have m2 := lookup_get (show cl.lookup z = some c from h2)
      exact name_of_addr S.inj m1 m2
    · have hy : scope.names.lookup y = some .cell ∨ scope.names.lookup y = some .free := hy
      rcases hy with hy | hy
      · exact absurd rfl (S.nocell _ (PySem.mem_of_lookup hy))
      · obtain ⟨p, hp, e⟩ := List.mem_map.mp (S.free y hy)
        obtain ⟨j, hj⟩ := List.getElem?_of_mem hp
        exact ⟨p.2, show cl.lookup y = some p.2 from get_lookup ndc (show cl[j]? = some (y, p.2) by rw [hj, ← e])⟩
    · exfalso
      have hy' : y ∈ ps := of_decide_eq_true hy
      exact dis y hy' (List.mem_map.mpr ⟨(y, c), lookup_get h, rfl⟩)
    · have h1 : N[i]? = some y := h1
      rw [S.eq] at h1
      obtain ⟨v', e2, e3⟩ := map_get (f := some) h2
      cases e3
      by_cases hi : i < ps.length
      · rw [List.getElem?_append_left hi] at h1
        rw [List.getElem?_append_left (by omega)] at e2
        obtain ⟨u, hu, rv⟩ := r.get e2
        exact ⟨u, rv, .inl ⟨S.par y (List.mem_of_getElem? h1), zip_lookup (by omega) ndp h1 hu⟩⟩
      · rw [List.getElem?_append_right (by omega)] at h1
        rw [List.getElem?_append_right (by omega), hl] at e2
        obtain ⟨p, hp, e⟩ := map_get h1
        obtain ⟨o, u, q1, q2, q3⟩ := caps.get hp e2
        subst e
        exact ⟨u, q3, .inr ⟨.inr (S.isfree p.1 (List.mem_map.mpr ⟨p, List.mem_of_getElem? hp, rfl⟩)), p.2, get_lookup ndc hp, o, keep _ _ (ob_get e0.hok q1), q2⟩⟩
    · obtain ⟨j, v, o, u, _, _, q1, q2, _⟩ := cellAt (show cl.lookup y = some c from h)
      exact ⟨some u, o, q1, q2⟩
    · exact hid_in (List.mem_map.mpr ⟨(y, c), lookup_get h, rfl⟩)
    · show ((vs ++ cvs).map some).length = N.length
      rw [S.eq, List.length_map, List.length_append, List.length_append, List.length_map, hl, caps.len]
  refine wpAny_mono (ht [] _ _ _ _ I hq) (fun u s' hs => ?_) fun e s' z => False.elim z
  obtain ⟨v, H', J, rv, q⟩ := hs
  obtain ⟨u1, u2⟩ := back_un ob (fun c m z => by
    obtain ⟨o, y⟩ := ob c m
    rw [e0.frf c z] at y
    cases y) J.base e0.hok J.hok
  refine ⟨v, back H H' (cl.map fun x => x.2), J.os, J.bare, ?_, ?_, rv, q fun c m => ?_⟩
  · exact u1
  · exact u2
  · obtain ⟨pp, hp, rfl⟩ := List.mem_map.mp m
    obtain ⟨j, hj⟩ := List.getElem?_of_mem hp
    exact J.freeC pp.1 pp.2 (get_lookup ndc hj)
/-- a function value that may be called: what it promises -/
def LamOk (P : Program) (w : World) (K : PySem.W.Frag) (mg : Str → Option Value) (base : Heap) (k : Nat) (f : Addr) (sp : List V → Hp → VK → Prop) : Prop :=
  ∀ (A : Around) (outer : List Env) (s : Shared) (H : Hp) (us : List Value) (vs : List V) (Q : VK), Room k A → Env0 P w K mg base A outer s H → Vals vs us → sp vs H Q → codeAny (model P w) A (.call (.ref f) ⟨us, []⟩) (CR CX0 outer P w H s Q E0) s
end
section
variable {X : Cx}
/-- g(e, ..) where the name g holds a function value -/
def tCallV (f : Addr) (fo : Obj) (sp : List V → Hp → VK → Prop) (i : Nat) (t : TA) : TE := fun σ H Q => σ[i]? = some (some (.ref f)) ∧ t σ H fun vs H1 => H1 f = some (ObO f fo) ∧ sp vs H1 Q
theorem pe_callV {f : Addr} {fo : Obj} {fd : FuncData} {sp : List V → Hp → VK → Prop} {k i : Nat} {x : Str} {p pos : Pos} {e : Expr} {es : List Expr} {t : TA} (L : LamOk X.prog X.w X.K X.mg X.base k f sp) (hfd : fo.data = .func fd) (hr : Room k X.A) (hN : X.N[i]? = some x) (hv : Vis X.env.scope x) (ha : PA X (e :: es) t)
    (hd : (x == ("__debug__" : Str)) = false := by decide) (hcd : (x == ("__classdict__" : Str)) = false := by decide) (he : starEach (e :: es) X.env = (false, eval e X.env) :: starEach es X.env := by rfl) (hpl : (backTo pos (starEach es X.env)).any (·.1) = false := by rfl) (hxe : ∀ e s, False → X.xe e s := by exact fun _ _ z => z.elim) :
    PE X (.Call (.Name x p) (e :: es) [] pos) (tCallV f fo sp i t) := by
  intro pins s σ H Q I h
  obtain ⟨h1, h2⟩ := h
  refine wpAny_Call_Name_kw (thn (pe_var hN hv hd hcd pins s σ H (fun v H1 => v = .ref f ∧ t σ H1 fun vs H1 => H1 f = some (ObO f fo) ∧ sp vs H1 Q) I ⟨.ref f, h1, rfl, h2⟩) fun u s1 ⟨v, H1, I1, rv, ev, q1⟩ => ?_)
  subst ev
  cases (show u = Value.ref f from rv)
  refine PySem.Calls.callWith_function (o := fo) (fd := fd) ?_
  rw [he]
  refine PySem.Calls.evalArgs_plain ?_
  show wpAny _ _ (spliced (backTo pos ((false, eval e X.env) :: starEach es X.env))) _ _ _
  rw [← he]
  refine thn (ha pos pins s1 σ H1 _ I1 q1) fun us s2 ⟨vs, H2, I2, r, hf, q2⟩ => ⟨⟨ob_get I2.hok hf, hfd⟩, ?_⟩
  refine wpAny_call (codeAny_mono (L X.A X.stack s2 H2 us vs Q hr I2.env0 r q2) fun r s' hq => ?_)
  cases r with
  | error e => exact hxe _ _ hq
  | ok fl =>
    cases fl with
    | ret u => exact I2.after hq
    | next => exact False.elim hq
    | brk => exact False.elim hq
    | cont => exact False.elim hq
/-- own cells, by their slots -/
structure OwnC (X : Cx) (cl : List (Str × Addr)) (js : List Nat) : Prop where
  len : js.length = cl.length
  it : ∀ (i : Nat) (p : Str × Addr) (j : Nat), cl[i]? = some p → js[i]? = some j → X.env.cells.lookup p.1 = some p.2 ∧ X.fn p.1 = true ∧ X.env.scope.names.lookup p.1 = some .cell ∧ X.env.kindOf p.1 = some .cell ∧ X.N[j]? = some p.1
def tCallC (sp : Sp) (cl : List (Str × Addr)) (js : List Nat) (t : TA) : TE := fun σ H Q => t σ H fun vs H1 => ∃ cvs : List V, cvs.length = cl.length ∧ (∀ (i j : Nat) (v : V), js[i]? = some j → cvs[i]? = some v → σ[j]? = some (some v)) ∧
  ∀ H2 : Hp, (∀ b, b ∉ cl.map (·.2) → H2 b = H1 b) → (∀ c ∈ cl.map (·.2), H1 c = none) → CapsAt H2 cl cvs → sp vs H2 (fun r H3 => (∀ c ∈ cl.map (·.2), H3 c = H2 c) ∧ Q r (hid H3 (cl.map (·.2)))) E0
theorem pe_callC {CX : CXT} {k : Nat} {f : Addr} {fd : FuncData} {ps : List Str} {sp : Sp} {x : Str} {p pos : Pos} {e : Expr} {es : List Expr} {t : TA} {cl : List (Str × Addr)} {js : List Nat} (O : OwnC X cl js) (F : FnOk X.prog X.w X.K X.mg X.base CX0 k f fd ps sp) (hr : Room k X.A) (hg : Gl X x) (hm : X.mg x = some (.ref f)) (hk : PySem.W.keepIn X.K (.ref f) = true) (hb : Binds X.K fd ps [])
    (ha : PA X (e :: es) t) (hdb : (x == ("__debug__" : Str)) = false := by decide) (he : starEach (e :: es) X.env = (false, eval e X.env) :: starEach es X.env := by rfl) (hpl : (backTo pos (starEach es X.env)).any (·.1) = false := by rfl) :
    PE X (.Call (.Name x p) (e :: es) [] pos) (tCallC sp cl js t) := by
  intro pins s σ H Q I h
  refine wpAny_Call_Name_kw (ld_glob I hg hm ?_ hdb)
  refine PySem.W.callWith_K (h₀ := X.base) I.ok.mod.kin hk (thn (ha pos pins s σ H _ I h) fun us s1 ⟨vs, H1, I1, r, cvs, lc, hσ, q⟩ => ⟨I1.kIn, ?_⟩) he hpl
  -- the cells
  have own : ∀ c ∈ cl.map (·.2), ∃ y, X.env.cells.lookup y = some c ∧ X.fn y = true := fun c m => by
    obtain ⟨pp, hp, rfl⟩ := List.mem_map.mp m
    obtain ⟨i, hi⟩ := List.getElem?_of_mem hp
    have hi2 := (List.getElem?_eq_some_iff.mp hi).1
    obtain ⟨a1, a2, _⟩ := O.it i pp (js[i]'(by rw [O.len]; exact hi2)) hi (List.getElem?_eq_getElem _)
    exact ⟨pp.1, a1, a2⟩
  have obj : ∀ c ∈ cl.map (·.2), ∃ o, s1.heap.get? c = some o ∧ H1 c = none ∧ X.s₀.heap.objs.size ≤ c ∧ c ≠ X.env.locals := fun c m => by
    obtain ⟨y, h1, h2⟩ := own c m
    obtain ⟨v, o, ho, _⟩ := I1.cell y c h1
    exact ⟨o, ho, I1.freeC y c h1, I1.ok.cab y c h2 h1, I1.cne y c h1⟩
  let H2 : Hp := fun b => if b ∈ cl.map (·.2) then (s1.heap.get? b).map (fun o => ObO b o) else H1 b
  have h2i : ∀ {c : Addr} {o : Obj}, c ∈ cl.map (·.2) → s1.heap.get? c = some o → H2 c = some (ObO c o) := fun {c o} m e => by
    show (if c ∈ cl.map (·.2) then _ else _) = _
    rw [if_pos m, e]
    rfl
  have h2o : ∀ {b : Addr}, b ∉ cl.map (·.2) → H2 b = H1 b := fun {b} m => if_neg m
  have nst : ∀ c ∈ cl.map (·.2), c ∉ frs X.stack := fun c m z => by
    obtain ⟨o, _, _, h3, h4⟩ := obj c m
    rcases List.mem_cons.mp (I1.stkSub c z) with y | y
    · exact h4 y
    · obtain ⟨_, o', ho', _⟩ := I1.ok.funs.mem y
      exact absurd (Nat.lt_of_lt_of_le (Heap.lt_size ho') h3) (Nat.lt_irrefl _)
  have ok2 : HOk X.prog X.w H2 s1.heap := fun a u e => by
    by_cases m : a ∈ cl.map (·.2)
    · obtain ⟨o, ho, _⟩ := obj a m
      rw [h2i m ho] at e
      cases e
      exact ob_ok ho
    · rw [h2o m] at e
      have ne : ∀ {b : Addr} {v : HO}, H1 b = some v → b ∉ cl.map (·.2) := fun {b v} z y => by
        obtain ⟨_, _, h5, _⟩ := obj b y
        rw [h5] at z
        cases z
      refine (I1.hok a u e).stay (fun _ _ _ z => z) (fun b z => ?_) fun b xs z => ?_
      · rw [h2o (ne z)]; exact z
      · rw [h2o (ne z)]; exact z
  have e0 := I1.env0
  have e2 : Env0 X.prog X.w X.K X.mg X.base X.A X.stack s1 H2 := by
    refine ⟨e0.frames, e0.mod, fun b o z => ⟨(e0.bs b o z).1, ?_⟩, e0.bsz, e0.funs, fun b z => ?_, ok2, e0.bare⟩
    · rw [h2o fun m => ?_]
      · exact (e0.bs b o z).2
      · obtain ⟨_, _, _, h3, _⟩ := obj b m
        exact absurd (Nat.lt_of_lt_of_le (Heap.lt_size z) (Nat.le_trans I1.ok.bsz h3)) (Nat.lt_irrefl _)
    · rw [h2o fun m => nst b m z]
      exact e0.frf b z
  have caps : CapsAt H2 cl cvs := by
    have all : ∀ (n : Nat), n ≤ cl.length → CapsAt H2 (cl.drop (cl.length - n)) (cvs.drop (cl.length - n)) := by
      intro n
      induction n with
      | zero =>
        intro _
        rw [List.drop_of_length_le (by omega), List.drop_of_length_le (by omega)]
        exact .nil
      | succ n ih =>
        intro hn
        have hi : cl.length - (n + 1) < cl.length := by omega
        have e1 : cl[cl.length - (n + 1)]? = some cl[cl.length - (n + 1)] := List.getElem?_eq_getElem hi
        have e3 : cvs[cl.length - (n + 1)]? = some (cvs[cl.length - (n + 1)]'(by omega)) := List.getElem?_eq_getElem (by omega)
        have e4 : js[cl.length - (n + 1)]? = some (js[cl.length - (n + 1)]'(by rw [O.len]; exact hi)) := List.getElem?_eq_getElem _
        rw [List.drop_eq_getElem_cons hi, List.drop_eq_getElem_cons (show cl.length - (n + 1) < cvs.length by omega), show cl.length - (n + 1) + 1 = cl.length - n by omega]
        obtain ⟨a1, a2, a3, a4, a5⟩ := O.it _ _ _ e1 e4
        have hv := hσ _ _ _ e4 e3
        obtain ⟨m, _, loc⟩ := I1.loc
        obtain ⟨u, ru, lk⟩ := loc _ _ _ a5 hv (.inr (.inl a3))
        rcases lk with ⟨k1, _⟩ | ⟨_, c, k2, o, k3, k4⟩
        · rw [a4] at k1
          cases k1
        · rw [a1] at k2
          cases k2
          have mm : (cl[cl.length - (n + 1)]).2 ∈ cl.map (·.2) := List.mem_map.mpr ⟨_, List.getElem_mem hi, rfl⟩
          exact .cons (h2i mm k3) k4 ru (ih (by omega))
    have := all cl.length (Nat.le_refl _)
    rw [Nat.sub_self] at this
    exact this
  have hq := q H2 (fun b m => h2o m) (fun c m => by obtain ⟨_, _, z, _⟩ := obj c m; exact z) caps
  have r2 : Vals (vs ++ []) (us ++ []) := r.append .nil
  rw [List.append_nil, List.append_nil] at r2
  have hl : us.length = ps.length := by rw [← r2.length]; exact F.len _ _ _ _ hq
  refine wpAny_call (codeAny_mono (F.run X.A X.stack s1 H2 ⟨us, []⟩ us vs _ E0 hr e2 (by have := hb s1 us I1.kIn (by rw [List.append_nil]; exact hl); rwa [List.append_nil] at this) r2 hq) fun r s' hq => ?_)
  cases r with
  | error e => exact False.elim hq
  | ok fl =>
    cases fl with
    | next => exact False.elim hq
    | brk => exact False.elim hq
    | cont => exact False.elim hq
    | ret u =>
      obtain ⟨v, H3, os, bare, un, ok3, rv, hc, q3⟩ := hq
      have ob3 : Obs H3 (cl.map (·.2)) := fun c m => by
        obtain ⟨o, ho, _⟩ := obj c m
        exact ⟨o, (hc c m).trans (h2i m ho)⟩
      have st3 : ∀ {c : Addr} {o : Obj}, c ∈ cl.map (·.2) → s1.heap.get? c = some o → s'.heap.get? c = some o := fun {c o} m e => ob_get ok3 ((hc c m).trans (h2i m e))
      have ne : ∀ {b : Addr} {v : HO}, H1 b = some v → b ∉ cl.map (·.2) := fun {b v} z y => by
        obtain ⟨_, _, h5, _⟩ := obj b y
        rw [h5] at z
        cases z
      refine I1.after ⟨v, hid H3 (cl.map (·.2)), os, bare, ⟨fun b o e n hb hx => ?_, fun b o e n hb hx => ?_, fun b o e n hx => ?_, un.there, fun b xs z => ?_, fun b o v z => ?_, fun b ps z => ?_⟩, hid_ok ob3 ok3, rv, q3⟩
      · by_cases m : b ∈ cl.map (·.2)
        · exact st3 m e
        · exact un.keep b o e (by rw [h2o m]; exact n) hb hx
      · by_cases m : b ∈ cl.map (·.2)
        · exact ⟨o.slots, st3 m e⟩
        · exact un.slot b o e (by rw [h2o m]; exact n) hb hx
      · by_cases m : b ∈ cl.map (·.2)
        · exact hid_in m
        · rw [hid_out m]
          exact un.free b o e (by rw [h2o m]; exact n) hx
      · rw [hid_out (ne z)]
        exact un.tups b xs (by rw [h2o (ne z)]; exact z)
      · rw [hid_out (ne z)]
        exact un.frzs b o v (by rw [h2o (ne z)]; exact z)
      · rw [hid_out (ne z)]
        exact un.tbls b ps (by rw [h2o (ne z)]; exact z)
/-- what stands in the table behind a lambda was made -/
abbrev tabAnd (ps : Array Value) (pos : Pos) (c' : Addr) : Array Value := ps ++ #[rawInt pos.line, rawInt pos.col, .ref c']
def tLam (qual : Str) (params : Arguments) (body : Expr) (scope : Scope) (cl : List (Str × Addr)) (pos : Pos) (Pt : Addr) : TE := fun _ H Q => ∃ ps : Array Value, H Pt = some (.tbl ps) ∧ TriplesOk ps.toList ∧ codeAmong pos ps.toList = none ∧
  ∀ (f c' : Addr) (co : Obj) (pm ctv : Value) (H' : Hp), H f = none → H c' = none → f ≠ c' → BtA Pt H H' → H' Pt = some (.tbl (tabAnd ps pos c')) → H' f = some (ObO f (PySem.W.kla_obj "<lambda>" qual params body scope cl pm c' ctv)) → H' c' = some (ObO c' co) → (∃ fs t, co.data = .fields fs ∧ fs[1]? = some (.str qual t)) → Q (.ref f) H'
theorem pe_lam {qual : Str} {params : Arguments} {body : Expr} {scope : Scope} {cl : List (Str × Addr)} {pos : Pos} {c Pt : Addr} (hq : X.env.qual ++ "<lambda>" = qual) (hdef : defaultsOf params X.env = ([], []) := by rfl) (hcl : closureFor scope X.env = pure cl) (hcode : X.env.code = .ref c) (hhd : ∀ h : Heap, X.K.In h → PySem.W.CodeHd h c Pt) (hP : mainGlobals ≠ Pt) (hB : ∀ h : Heap, X.K.In h → h.BuiltinsAt X.mg Pt) :
    PE X (.Lambda params body scope pos) (tLam qual params body scope cl pos Pt) := by
  intro pins s σ H Q I h
  obtain ⟨ps, hPt, htr, hca, q⟩ := h
  have gP : s.heap.get? Pt = some (PySem.W.tabObj ps) := I.hok Pt _ hPt
  have gl : s.heap.Ns mainGlobals X.mg := I.ok.mod.glob.keeps I.bk
  refine PySem.W.kla_eval hdef ?_
  rw [hq]
  refine PySem.W.kla_makeFunction hcl I.ok.glob gl hcode (hhd _ I.kIn) gP htr hca hP (hB _ I.kIn) fun c' ctv h' tk xb lo hi cr ht => ?_
  obtain ⟨c2, co, fs, tq, ec, gc, hd, h1⟩ := cr
  cases ec
  let f := h'.objs.size
  let fo := PySem.W.kla_obj "<lambda>" qual params body scope cl ((X.mg "__name__").getD .none) c' ctv
  have szP : Pt < s.heap.objs.size := Heap.lt_size gP
  have ncP : c' ≠ Pt := Nat.ne_of_gt (Nat.lt_of_lt_of_le szP lo)
  have ltf : s.heap.objs.size < f := Nat.lt_of_le_of_lt lo hi
  have nfP : f ≠ Pt := Nat.ne_of_gt (Nat.lt_trans szP ltf)
  have nfc : f ≠ c' := Nat.ne_of_gt hi
  have frf : H f = none := I.hok.fresh (Nat.le_of_lt ltf)
  have frc : H c' = none := I.hok.fresh lo
  let H' : Hp := upd (upd (upd H Pt (.tbl (tabAnd ps pos c'))) c' (ObO c' co)) f (ObO f fo)
  have e1 : H' f = some (ObO f fo) := upd_same
  have e2 : H' c' = some (ObO c' co) := by
    show upd (upd (upd H Pt _) c' _) f _ c' = _
    rw [upd_ne nfc.symm, upd_same]
  have e3 : H' Pt = some (.tbl (tabAnd ps pos c')) := by
    show upd (upd (upd H Pt _) c' _) f _ Pt = _
    rw [upd_ne nfP.symm, upd_ne ncP.symm, upd_same]
  have eo : ∀ {b : Addr}, b ≠ Pt → b ≠ c' → b ≠ f → H' b = H b := fun {b} n1 n2 n3 => by
    show upd (upd (upd H Pt _) c' _) f _ b = _
    rw [upd_ne n3, upd_ne n2, upd_ne n1]
  have bt : BtA Pt H H' := fun b o n e => by rw [eo n (ne_of_none e frc) (ne_of_none e frf)]; exact e
  have gf : (h'.push fo).get? f = some fo := Heap.get?_push_size _ rfl
  have keep : ∀ b u, b ≠ Pt → s.heap.get? b = some u → (h'.push fo).get? b = some u := fun b u n e => Heap.get?_push_of_some _ (xb b u n e)
  have hok' : HOk X.prog X.w H' (h'.push fo) := fun a u e => by
    by_cases n3 : a = f
    · subst n3
      rw [e1] at e
      cases e
      exact ob_ok gf
    · by_cases n2 : a = c'
      · subst n2
        rw [e2] at e
        cases e
        exact ob_ok (Heap.get?_push_of_some _ gc)
      · by_cases n1 : a = Pt
        · subst n1
          rw [e3] at e
          cases e
          show (h'.push fo).get? _ = some _
          exact Heap.get?_push_of_some _ ht
        · rw [eo n1 n2 n3] at e
          have nP : ∀ {b : Addr} {v : HO}, H b = some v → (∀ ps, v ≠ .tbl ps) → b ≠ Pt := fun {b v} z y w => by
            rw [w, hPt] at z
            cases z
            exact y _ rfl
          refine (I.hok a u e).stay (fun b v hb z => ?_) (fun b z => bt b _ (nP z fun _ y => nomatch y) z) fun b xs z => bt b _ (nP z fun _ y => nomatch y) z
          rcases hb with hb | hb
          · rw [hb]
            exact keep a v n1 (by rw [← hb]; exact z)
          · exact keep b v (nP hb fun _ y => nomatch y) z
  have I' : Inv X pins σ H' { s with heap := h'.push fo, toks := tk } := by
    refine I.call (g' := s.gens) (d' := s.drawn) (ch := []) ⟨fun b o e n _ _ => ?_, fun b o e n _ _ => ?_, fun b o e n _ => ?_, fun b o e _ => ?_, fun b xs e => ?_, fun b o v e => ?_, fun b qs e => ?_⟩ hok' I.bare fun b z => by simp at z
    · exact keep b o (fun z => by rw [z, hPt] at n; cases n) e
    · exact ⟨o.slots, keep b o (fun z => by rw [z, hPt] at n; cases n) e⟩
    · have lb := Heap.lt_size e
      rw [eo (fun z => by rw [z, hPt] at n; cases n) (Nat.ne_of_lt (Nat.lt_of_lt_of_le lb lo)) (Nat.ne_of_lt (Nat.lt_trans lb ltf))]
      exact n
    · by_cases n1 : b = Pt
      · rw [n1]
        exact ⟨_, Heap.get?_push_of_some _ ht⟩
      · exact ⟨o, keep b o n1 e⟩
    · exact bt b _ (fun z => by rw [z, hPt] at e; cases e) e
    · exact bt b _ (fun z => by rw [z, hPt] at e; cases e) e
    · by_cases n1 : b = Pt
      · subst n1
        rw [hPt] at e
        cases e
        exact ⟨_, e3⟩
      · exact ⟨#[], by rw [bt b _ n1 e]; simp⟩
  exact ⟨.ref f, H', I', rfl, q f c' co _ ctv H' frf frc nfc bt e3 e1 e2 ⟨fs, tq, hd, h1⟩⟩
end
end L2
namespace L2
open PySem PySem.Spec PyProof.Rows
section
variable {P : Program} {w : World} {K : PySem.W.Frag} {mg : Str → Option Value} {base : Heap}
/-- a def, with its code -/
structure FunC (K : PySem.W.Frag) (x : Str) (st : Stmt) (f : Addr) (fd : FuncData) (c : Addr) : Prop where
  ex : ∃ (oc : Value) (od : Option Addr) (kV doc pm : Value) (an : Option Addr) (ct : Value) (osl : Array (Option Value)),
    fd = PySem.W.fnOf x x (defArgs st) (defBody st) (defScope st) .none kV doc pm an (.ref c) ct ∧ K.lookup f = some ⟨oc, od, .func fd, osl⟩ ∧ PySem.W.codeIn K (.ref c) x = true
theorem FunC.ok {x : Str} {st : Stmt} {f c : Addr} {fd : FuncData} {N ps : List Str} {k : Nat} {sp : Sp} (F : FunC K x st f fd c) (S : FnScope N ps (defScope st)) (len : ∀ vs H Q E, sp vs H Q E → vs.length = ps.length)
    (hbody : ∀ (A : Around) (outer : List Env) (s : Shared) (H : Hp) (vs : List V) (Q : VK) (E : XK), Room k (A.deeper (envOfC x (defScope st) s.heap.objs.size f (.ref c))) → sp vs H Q E →
      ∃ t, PSs (cxOf CX0 P w K mg base N x (defScope st) f (.ref c) A outer s H E).nox (defBody st) t ∧ t { nx := fun _ H' => Q .non H', rt := Q } (start N vs) H) : FnOk P w K mg base CX0 (k + 1) f fd ps sp := by
  obtain ⟨oc, od, kV, doc, pm, an, ct, osl, rfl, lk, hcd⟩ := F.ex
  refine fn_of lk hcd S len fun A outer s H vs Q E hr hsp => ?_
  obtain ⟨t, h, q⟩ := hbody A outer s H vs Q E hr hsp
  exact ⟨t, h.nox, q⟩
/-- nothing is tracked but the script and one table -/
def OnlyT (Pt : Addr) (ps₀ : Array Value) (H : Hp) : Prop := H Pt = some (.tbl ps₀) ∧ ∀ b, b ≠ Pt → H b = none ∨ ∃ o xs, H b = some (.frz o (.lst xs))
theorem law_callT {mb : Str → Option Value} {k : Nat} {fa a c Pt : Addr} {ps₀ : Array Value} {fd : FuncData} {x : Str} {sp : Sp} {s₁ : Shared} {vs : List Value} {ns : List Int}
    (KX : K.In s₁.heap) (tA : s₁.heap.TableAt c Pt ps₀) (hKP : K.lookup Pt = none) (hne : Pt ≠ cStatics) (hns : s₁.heap.Ns mainGlobals mg) (hb : s₁.heap.Ns builtinsNs mb) (hbb : ∀ x : Str, x ≠ "__name__" → mb x = bootBuiltins x) (hlim : s₁.heap.NoLimit) (hg : s₁.gens = #[])
    (ha : s₁.heap.get? a = some { cls := .type "list", data := .seq vs.toArray }) (hi : IntsAre vs ns) (hl : ns.length ≤ sizeLine) (hr : Room k callerA)
    (F : ∀ base : Heap, K.In base → base.Ns mainGlobals mg → FnOk P w K mg base CX0 k fa fd [x] sp) (hbind : ∀ (s : Shared) (u : Value), BindsTo s fd ⟨[u], []⟩ [(x, u)])
    (hsp : ∀ H : Hp, OnlyT Pt ps₀ H → SqL K H a (ns.map V.int) → sp [.ref a] H (fun v _ => v = .bl true) fun _ _ _ => False) :
    codeAny (model P w) callerA (.call (.ref fa) ⟨[.ref a], []⟩) (fun r s' => r = .ok (.ret (.bool true)) ∧ OldK s₁.heap s'.heap ∧ s'.os = s₁.os ∧ AllBare s'.gens) s₁ := by
  have rv := vals_ints hi
  have lenV := hi.length
  have naP : a ≠ Pt := fun z => by
    have := tA.2
    rw [← z, ha] at this
    cases this
  have core : ∀ H : Hp, OnlyT Pt ps₀ H → SqL K H a (ns.map V.int) → HOk P w H s₁.heap → (∀ b, b ≠ Pt → H b ≠ none → b = a) → (H a ≠ none → K.lookup a = none) →
      codeAny (model P w) callerA (.call (.ref fa) ⟨[.ref a], []⟩) (fun r s' => r = .ok (.ret (.bool true)) ∧ OldK s₁.heap s'.heap ∧ s'.os = s₁.os ∧ AllBare s'.gens) s₁ := by
    intro H hO hS hok hA hK
    have base_of : ∀ {b : Addr} {o : Obj}, s₁.heap.get? b = some o → H b = none → (hidT s₁.heap H).get? b = some o := fun e n => hidT_get e n
    have noA : ∀ {b : Addr} {o : Obj} {es : Array DictEntry} {ep : Nat}, s₁.heap.get? b = some o → o.data = .dict es ep → H b = none := fun {b o es ep} e d => by
      cases q : H b with
      | none => rfl
      | some u =>
        by_cases z : b = Pt
        · subst z
          rw [tA.2] at e
          cases e
          cases d
        · have e' : b = a := hA b z (by rw [q]; simp)
          subst e'
          rw [ha] at e; cases e
          have d' : Data.seq vs.toArray _ = Data.dict es ep := d
          cases d'
    have nsK : ∀ {b : Addr} {m : Str → Option Value}, s₁.heap.Ns b m → (hidT s₁.heap H).Ns b m := fun {b m} ⟨o, es, ep, e, d, r⟩ => ⟨o, es, ep, base_of e (noA e d), d, r⟩
    have hKb : K.In (hidT s₁.heap H) := fun b o e => base_of (KX b o e) (by
      cases q : H b with
      | none => rfl
      | some u =>
        by_cases z : b = Pt
        · subst z
          rw [hKP] at e
          cases e
        · have e' : b = a := hA b z (by rw [q]; simp)
          subst e'
          rw [hK (by rw [q]; simp)] at e; cases e)
    have hM : Mod K mg (hidT s₁.heap H) := ⟨hKb, nsK hns, ⟨mb, nsK hb, hbb⟩, let ⟨mc, h1, h2⟩ := hlim; ⟨mc, nsK h1, h2⟩⟩
    have e0 : Env0 P w K mg (hidT s₁.heap H) callerA [] s₁ H := ⟨rfl, hM, fun b o e => of_hidT e, Nat.le_of_eq (hidT_size _ _), trivial, fun b hb => absurd (show b ∈ ([] : List Addr) from hb) (by simp), hok, .of_eq hg⟩
    refine codeAny_mono ((F _ hKb (nsK hns)).run callerA [] s₁ H ⟨[.ref a], []⟩ [.ref a] [.ref a] _ _ hr e0 (hbind s₁ (.ref a)) (.cons rfl .nil) (hsp H hO hS)) fun r s' h => ?_
    cases r with
    | error e => exact False.elim h
    | ok fl =>
      cases fl with
      | next => exact False.elim h
      | brk => exact False.elim h
      | cont => exact False.elim h
      | ret u =>
        obtain ⟨v, H', os, bare, un, hok', r', q⟩ := h
        have q' : v = .bl true := q
        subst q'
        obtain rfl : u = Value.bool true := r'
        have keep : ∀ b o, b ≠ Pt → s₁.heap.get? b = some o → s'.heap.get? b = some o := fun b o nb e => by
          cases q : H b with
          | none => exact un.keep b o e q (by intro z; exact absurd (show b ∈ ([] : List Addr) from z) (by simp)) (by simp)
          | some u =>
            rcases hO.2 b nb with z | ⟨ob, xs, z⟩
            · rw [q] at z; cases z
            · have z2 := un.frzs b ob _ z
              obtain ⟨e1, _⟩ := hok b _ z
              obtain ⟨e2, _⟩ := hok' b _ z2
              rw [e] at e1; cases e1
              exact e2
        obtain ⟨more, e3⟩ := un.tbls Pt ps₀ hO.1
        have gP : s'.heap.get? Pt = some { cls := .none, data := .fields (ps₀ ++ more) } := hok' Pt _ e3
        obtain ⟨⟨oc, vc, h1, h2, h3, h4⟩, h5⟩ := id tA
        have ncP : c ≠ Pt := fun z => by
          rw [z, h5] at h1
          cases h1
          cases h2
        refine ⟨rfl, OldK.step_table (OldK.refl _) tA tA ⟨⟨oc, vc, keep c oc ncP h1, h2, h3, h4⟩, gP⟩ (fun b o nb e => keep b o nb e) hne, os, bare⟩
  cases hk : K.lookup a with
  | some o =>
    have e := KX a o hk
    rw [ha] at e
    cases e
    refine core (fun b => if b = Pt then some (.tbl ps₀) else none) ⟨if_pos rfl, fun b nb => .inl (if_neg nb)⟩ (.inr ⟨_, vs.toArray, _, hk, rfl, rfl, rfl, by rw [List.size_toArray, lenV]; exact hl, by simpa using rv⟩) (fun b u z => ?_) (fun b nb z => absurd (if_neg nb) z) fun z => absurd (if_neg naP) z
    by_cases hb : b = Pt
    · have z' := (if_pos hb).symm.trans z
      cases z'
      subst hb
      exact tA.2
    · have z' := (if_neg hb).symm.trans z
      cases z'
  | none =>
    refine core (fun b => if b = Pt then some (.tbl ps₀) else if b = a then some (.frz { cls := .type "list", data := .seq vs.toArray } (.lst (ns.map V.int))) else none) ⟨if_pos rfl, fun b nb => ?_⟩ (.inl (.inr ⟨{ cls := .type "list", data := .seq vs.toArray }, by show (if a = Pt then _ else _) = _; rw [if_neg naP, if_pos rfl]⟩)) (fun b u z => ?_) (fun b nb z => ?_) fun _ => hk
    · by_cases hb : b = a
      · exact .inr ⟨_, _, (if_neg nb).trans (if_pos hb)⟩
      · exact .inl ((if_neg nb).trans (if_neg hb))
    · by_cases hP : b = Pt
      · have z' := (if_pos hP).symm.trans z
        cases z'
        subst hP
        exact tA.2
      · have z0 := (if_neg hP).symm.trans z
        by_cases hb : b = a
        · have z' := (if_pos hb).symm.trans z0
          cases z'
          subst hb
          exact ⟨ha, by rw [List.length_map]; exact hl, vs, _, rv, ha⟩
        · have z' := (if_neg hb).symm.trans z0
          cases z'
    · by_cases hb : b = a
      · exact hb
      · exact absurd (by show (if b = Pt then _ else _) = none; rw [if_neg nb, if_neg hb]) z
end
theorem walk_ofT {l : PySem.W.OpenLaw} {n k : Nat} {q : Program} {loose : List Str} {XP : (Str → Option Value) → Heap → Prop} {YP : World → Heap → Prop} {d : DefRec} {K : Params → PySem.W.Frag} {c Pt : Addr} {ps₀ : Array Value} {sp : World → Sp} {x : Str}
    (hn : l.most = some n) (hn2 : n ≤ sizeLine) (hdf : d.params.defaults = []) (hr : Room k callerA)
    (hY : ∀ (w : World) (h : Heap), YP w h → (K w.params).In h ∧ h.TableAt c Pt ps₀) (hKP : ∀ w : World, (K w.params).lookup Pt = none) (hne : Pt ≠ cStatics)
    (F : ∀ (w : World) (mg : Str → Option Value) (fa : Addr) (h : Heap), (K w.params).In h → h.Ns mainGlobals mg → mg d.name = some (.ref fa) →
      ∃ fd : FuncData, (∀ (s : Shared) (u : Value), BindsTo s fd ⟨[u], []⟩ [(x, u)]) ∧
        ∀ base : Heap, (K w.params).In base → base.Ns mainGlobals mg → FnOk l.prog w (K w.params) mg base CX0 k fa fd [x] (sp w))
    (hsp : ∀ (w : World) (H : Hp) (a : Addr) (ns : List Int), ns.length ≤ n → (∀ x ∈ ns, Builtin.Int.intBits x ≤ 2 ^ 20) → OnlyT Pt ps₀ H → SqL (K w.params) H a (ns.map V.int) → sp w [.ref a] H (fun v _ => v = .bl true) fun _ _ _ => False) :
    PySem.W.WalkO q loose XP YP l.row.toRowW d [] (fun f vs => PySem.call f vs) := by
  refine Att.attach_callB hn hdf fun w s₀ s₁ mg mb fa a vs ns G Y hmg hobj hints hlen hbits hg => ?_
  obtain ⟨KX, tA⟩ := hY w _ Y
  obtain ⟨fd, hb, hF⟩ := F w mg fa _ KX G.T.g hmg
  exact law_callT KX tA (hKP w) hne G.T.g G.T.b G.T.builtins G.T.nolimit hg hobj hints (Nat.le_trans hlen hn2) hr hF hb (fun H hO hS => hsp w H a ns hlen hbits hO hS)
end L2
namespace L2
open PySem PySem.Spec PyProof.Rows
/-- the table of a code with one lambda: empty, or with the lambda's code -/
def TabSt (Pt : Addr) (pos : Pos) (qual : Str) (H : Hp) : Prop := H Pt = some (.tbl #[]) ∨ ∃ c' co, H Pt = some (.tbl (tabAnd #[] pos c')) ∧ H c' = some (ObO c' co) ∧ ∃ fs t, co.data = .fields fs ∧ fs[1]? = some (.str qual t)
theorem TabSt.same {Pt : Addr} {pos : Pos} {qual : Str} {H H' : Hp} (h : TabSt Pt pos qual H) (e : Same H H') : TabSt Pt pos qual H' := by
  rcases h with h | ⟨c', co, h1, h2, h3⟩
  · exact .inl (e _ _ h)
  · exact .inr ⟨c', co, e _ _ h1, e _ _ h2, h3⟩
section
variable {X : Cx}
def tLam2 (qual : Str) (params : Arguments) (body : Expr) (scope : Scope) (cl : List (Str × Addr)) (pos : Pos) (Pt : Addr) : TE := fun _ H Q => TabSt Pt pos qual H ∧
  ∀ (f c' : Addr) (co : Obj) (pm ctv : Value) (H' : Hp), H f = none → BtA Pt H H' → H' Pt = some (.tbl (tabAnd #[] pos c')) → H' f = some (ObO f (PySem.W.kla_obj "<lambda>" qual params body scope cl pm c' ctv)) → H' c' = some (ObO c' co) → (∃ fs t, co.data = .fields fs ∧ fs[1]? = some (.str qual t)) → Q (.ref f) H'
theorem pe_lam2 {qual : Str} {params : Arguments} {body : Expr} {scope : Scope} {cl : List (Str × Addr)} {pos : Pos} {c Pt : Addr} (hq : X.env.qual ++ "<lambda>" = qual) (hdef : defaultsOf params X.env = ([], []) := by rfl) (hcl : closureFor scope X.env = pure cl) (hcode : X.env.code = .ref c) (hhd : ∀ h : Heap, X.K.In h → PySem.W.CodeHd h c Pt) (hP : mainGlobals ≠ Pt) (hB : ∀ h : Heap, X.K.In h → h.BuiltinsAt X.mg Pt) :
    PE X (.Lambda params body scope pos) (tLam2 qual params body scope cl pos Pt) := by
  intro pins s σ H Q I h
  obtain ⟨h0 | ⟨c', co, hPt, hc, hco⟩, q⟩ := h
  · exact pe_lam hq hdef hcl hcode hhd hP hB pins s σ H Q I ⟨#[], h0, trivial, rfl, fun f c' co pm ctv H' a1 a2 a3 a4 a5 a6 a7 a8 => q f c' co pm ctv H' a1 a4 a5 a6 a7 a8⟩
  have gP : s.heap.get? Pt = some (PySem.W.tabObj (tabAnd #[] pos c')) := I.hok Pt _ hPt
  have gl : s.heap.Ns mainGlobals X.mg := I.ok.mod.glob.keeps I.bk
  have hf : codeAmong pos (tabAnd #[] pos c').toList = some (.ref c') := by
    have := codeAmong_snoc (pos := pos) (c := .ref c') [] trivial rfl
    simpa using this
  have ht : TriplesOk (tabAnd #[] pos c').toList := by
    show TriplesOk [rawInt pos.line, rawInt pos.col, .ref c']
    exact trivial
  refine PySem.W.kla_eval hdef ?_
  rw [hq]
  refine PySem.W.kla_makeFunctionHit hcl I.ok.glob gl hcode (hhd _ I.kIn) gP ht hf (hB _ I.kIn) fun ctv h' tk keep0 sz => ?_
  let f := h'.objs.size
  let fo := PySem.W.kla_obj "<lambda>" qual params body scope cl ((X.mg "__name__").getD .none) c' ctv
  have frf : H f = none := I.hok.fresh sz
  let H' : Hp := upd H f (ObO f fo)
  have e1 : H' f = some (ObO f fo) := upd_same
  have sm : Same H H' := .upd frf
  have keep : ∀ b u, s.heap.get? b = some u → (h'.push fo).get? b = some u := fun b u e => Heap.get?_push_of_some _ (keep0 b u e)
  have gf : (h'.push fo).get? f = some fo := Heap.get?_push_size _ rfl
  have hok' : HOk X.prog X.w H' (h'.push fo) := fun a u e => by
    by_cases n3 : a = f
    · subst n3
      rw [e1] at e
      cases e
      exact ob_ok gf
    · have e' : H a = some u := by
        have : upd H f (ObO f fo) a = some u := e
        rw [upd_ne n3] at this
        exact this
      exact (I.hok a u e').stay (fun b v _ z => keep b v z) (fun b z => sm _ _ z) fun b xs z => sm _ _ z
  have I' : Inv X pins σ H' { s with heap := h'.push fo, toks := tk } := by
    refine I.call (g' := s.gens) (d' := s.drawn) (ch := []) ⟨fun b o e n _ _ => keep b o e, fun b o e n _ _ => ⟨o.slots, keep b o e⟩, fun b o e n _ => ?_, fun b o e _ => ⟨o, keep b o e⟩, fun b xs e => sm _ _ e, fun b o v e => sm _ _ e, fun b qs e => ⟨#[], by rw [sm _ _ e]; simp⟩⟩ hok' I.bare fun b z => by simp at z
    show upd H f (ObO f fo) b = none
    rw [upd_ne (Nat.ne_of_lt (Nat.lt_of_lt_of_le (Heap.lt_size e) sz))]
    exact n
  exact ⟨.ref f, H', I', rfl, q f c' co _ ctv H' frf (.of sm) (sm _ _ hPt) e1 (sm _ _ hc) hco⟩
end
end L2
namespace L2
open PySem PySem.Spec PyProof.Rows
def tTryA (K : PySem.W.Frag) (Ch : Value) (i : Nat) (sp : Sp) (t : TA) (ts : TS) : TS := fun D σ H => t σ H fun vs H1 => sp vs H1 (fun v H2 => D.nx (σ.set i (some v)) H2)
  (fun cls _ H2 => (∃ C, cls = .ref C) ∧ PySem.W.exmOne K cls Ch = some true ∧ ts { nx := fun σ' H' => D.nx σ' H', rt := fun _ _ => False } σ H2)
section
variable {X : Cx} {k : Nat} {f : Addr} {fd : FuncData} {ps : List Str} {sp : Sp} {x c n : Str} {p cpos epos np hpos pos : Pos} {e : Expr} {es : List Expr} {t : TA} {b₀ : Stmt} {suite : List Stmt} {ts : TS} {i : Nat} {Ch : Value}
theorem ps_tryA {pos' : Pos} (F : FnOk X.prog X.w X.K X.mg X.base (CXe X.prog X.w) k f fd ps sp) (hr : Room k X.A) (hg : Gl X x) (hm : X.mg x = some (.ref f)) (hk : PySem.W.keepIn X.K (.ref f) = true) (hb : Binds X.K fd ps [])
    (ha : PA X (e :: es) t) (hgc : Gl X c) (hmc : X.mg c = some Ch) (hN : X.N.Nodup) (hi : X.N[i]? = some n) (hx0 : Loc X.env.scope n) (hsu : ∀ ea, PSs (X.marked ea) (b₀ :: suite) ts)
    (hcalm : X.calm = true) (hne : ∀ e s, X.xe e s → False) (hex : X.ex = []) (hst : X.stack = X.env :: X.outer) (hfr : X.env.frame = some X.env.locals)
    (hdb : (x == ("__debug__" : Str)) = false := by decide) (hdc : (c == ("__debug__" : Str)) = false := by decide) (he : starEach (e :: es) X.env = (false, eval e X.env) :: starEach es X.env := by rfl) (hpl : (backTo cpos (starEach es X.env)).any (·.1) = false := by rfl)
    (hs : swapsWith (.Call (.Name x p) (e :: es) [] cpos) (some (.Name n pos')) epos.line X.env = pure false := by rfl) (hf : X.fn n = true ∨ X.env.scope.names.lookup n = some .local := by first | exact .inl rfl | exact .inr rfl | assumption) :
    PS X (.Try [.Assign [.Name n pos'] (.Call (.Name x p) (e :: es) [] cpos) epos] [.ExceptHandler (some (.Name c np)) none (b₀ :: suite) hpos] [] [] pos) (tTryA X.K Ch i sp t ts) := by
  intro pins s σ H D I h
  have frm : X.A.frames = some (X.env :: X.outer) := by rw [I.ok.frames, hst]
  refine wpAny_Try_except (wpAny_execs_cons (wpAny_Assign_Name ?_ hs))
  refine wpAny_Call_Name_kw (ld_glob I hg hm ?_ hdb)
  refine PySem.W.callWith_K (h₀ := X.base) I.ok.mod.kin hk (wpAny_mono (ha cpos pins s σ H _ I h) (fun us s1 hq => ?_) fun _ _ z => (hne _ _ z).elim) he hpl
  obtain ⟨vs, H1, I1, r, q⟩ := hq
  refine ⟨I1.kIn, ?_⟩
  have hl : (us ++ []).length = ps.length := by rw [List.append_nil, ← r.length]; exact F.len _ _ _ _ q
  have hbd := hb s1 us I1.kIn hl
  rw [List.append_nil] at hbd
  refine wpAny_call (codeAny_mono (F.run X.A X.stack s1 H1 ⟨us, []⟩ us vs _ _ hr I1.env0 hbd r q) fun res s' hq => ?_)
  cases res with
  | ok fl =>
    cases fl with
    | ret u =>
      obtain ⟨v, H2, I2, rv, q2⟩ := I1.after hq
      exact store_ok I2 hN hi hx0 rv (fun s3 I3 => wpAny_execs_nil (wpAny_execs_nil ⟨_, H2, I3, q2⟩)) hf
    | next => exact False.elim hq
    | brk => exact False.elim hq
    | cont => exact False.elim hq
  | error ev =>
    obtain ⟨ea, cls, a0, H2, B, rfl, hos, bare, un, hok, fl, cov, hea, sea, ⟨C, rfl⟩, hx, hsuite⟩ := hq
    rw [hst] at fl
    refine wpAny_looks_onW frm hfr fl fun h4 held4 sm4 => ?_
    refine wpAny_landsW held4 fun h5 fl5 sm5 => ?_
    have fl5' : Heap.FlyingW B X.stack ea (.ref C) a0 h5 := by rw [hst]; exact fl5
    have I5 : Inv X pins σ H2 { s' with heap := h5 } := cxe_back I1 hos bare un hok fl5' cov (sm4.trans sm5)
    refine wpAny_handleBy_cons (codeAny_handlers_test (ld_glob (I5.marked ea) hgc hmc ?_ hdc)) (by intro q; cases q)
    obtain ⟨ob, hob, hobc⟩ := fl5.there
    have LT : PySem.W.Looks (model X.prog X.w) h5 (typeOf (.ref ea)) (.ref C) := hobc ▸ (PySem.W.Looks.ld hob).andThen .now
    refine (PySem.W.exm_one I5.kIn LT hx).here ?_
    refine codeAny_handlers_suite ?_
    refine lands_againW fl5 fun h6 fl6 sm6 => ?_
    have fl6' : Heap.FlyingW B X.stack ea (.ref C) a0 h6 := by rw [hst]; exact fl6
    have I6 : Inv X pins σ H2 { s' with heap := h6 } := cxe_back I1 hos bare un hok fl6' cov ((sm4.trans sm5).trans sm6)
    refine wpAny_mono (hsu ea pins _ _ _ _ (I6.marked ea) hsuite) (fun fw s9 h9 => ?_) fun _ _ z => z.elim
    cases fw with
    | next =>
      obtain ⟨σ9, H9, I9, q9⟩ := h9
      exact ⟨σ9, H9, I9.unmarked I.ok.hd, q9⟩
    | ret v => obtain ⟨_, _, _, _, _, z⟩ := h9; exact z.elim
    | brk => obtain ⟨_, _, _, z⟩ := h9; exact z.elim
    | cont => obtain ⟨_, _, _, z⟩ := h9; exact z.elim
end
end L2
namespace K09
open PySem L2 FW PyProof.Rows
def top (i : Nat) : Stmt := PySem.Challenge.pw_flipwright_k09_whole_heap_of_tables.main.body.getD i (.Pass ⟨0, 0, 0, 0⟩)
abbrev s_greatest_divisor : Stmt := top 6
abbrev s_plus : Stmt := top 7
abbrev s_times : Stmt := top 8
abbrev s_over : Stmt := top 9
abbrev s_rank : Stmt := top 11
abbrev s_in_order : Stmt := top 12
abbrev s_gathered : Stmt := top 13
abbrev s_table : Stmt := top 14
abbrev s_total : Stmt := top 15
abbrev s_scaled : Stmt := top 16
abbrev s_mixed : Stmt := top 17
abbrev s_without : Stmt := top 18
abbrev s_turned : Stmt := top 19
abbrev s_law_whole : Stmt := top 21
abbrev s_law_divisor : Stmt := top 22
abbrev s_law_lowest : Stmt := top 23
abbrev s_law_is : Stmt := top 24
abbrev s_law_record : Stmt := top 25
abbrev s_law_outcome : Stmt := top 26
abbrev s_law_kind : Stmt := top 27
abbrev s_law_before : Stmt := top 28
abbrev s_law_same : Stmt := top 29
abbrev s_law_laid : Stmt := top 30
abbrev s_law_table_is : Stmt := top 31
abbrev s_law_turned : Stmt := top 32
abbrev s_law_grown : Stmt := top 33
abbrev s_law_shorter : Stmt := top 34
abbrev s_law_left : Stmt := top 35
abbrev s_law : Stmt := top 36
theorem sc_greatest_divisor : FnScope ["one", "other", "rest"] ["one", "other"] (defScope s_greatest_divisor) := ⟨rfl, rfl, rfl, by decide +kernel, rfl, by decide +kernel, by decide +kernel⟩
theorem sc_plus : FnScope ["one", "other", "shared", "lacking", "top", "divisor"] ["one", "other"] (defScope s_plus) := ⟨rfl, rfl, rfl, by decide +kernel, rfl, by decide +kernel, by decide +kernel⟩
theorem sc_times : FnScope ["one", "other", "first", "second"] ["one", "other"] (defScope s_times) := ⟨rfl, rfl, rfl, by decide +kernel, rfl, by decide +kernel, by decide +kernel⟩
theorem sc_rank : FnScope ["outcome"] ["outcome"] (defScope s_rank) := ⟨rfl, rfl, rfl, by decide +kernel, rfl, by decide +kernel, by decide +kernel⟩
theorem sc_in_order : FnScope ["outcomes", "kept", "outcome"] ["outcomes"] (defScope s_in_order) := ⟨rfl, rfl, rfl, by decide +kernel, rfl, by decide +kernel, by decide +kernel⟩
theorem sc_gathered : FnScope ["pairs", "shares", "outcome", "share"] ["pairs"] (defScope s_gathered) := ⟨rfl, rfl, rfl, by decide +kernel, rfl, by decide +kernel, by decide +kernel⟩
theorem sc_mixed : FnScope ["parts", "pairs", "weight", "part", "outcome", "share"] ["parts"] (defScope s_mixed) := ⟨rfl, rfl, rfl, by decide +kernel, rfl, by decide +kernel, by decide +kernel⟩
theorem sc_law_whole : FnScope ["_law_found"] ["_law_found"] (defScope s_law_whole) := ⟨rfl, rfl, rfl, by decide +kernel, rfl, by decide +kernel, by decide +kernel⟩
theorem sc_law_divisor : FnScope ["_law_one", "_law_other"] ["_law_one", "_law_other"] (defScope s_law_divisor) := ⟨rfl, rfl, rfl, by decide +kernel, rfl, by decide +kernel, by decide +kernel⟩
theorem sc_law_lowest : FnScope ["_law_top", "_law_bottom", "_law_by"] ["_law_top", "_law_bottom"] (defScope s_law_lowest) := ⟨rfl, rfl, rfl, by decide +kernel, rfl, by decide +kernel, by decide +kernel⟩
theorem sc_law_is : FnScope ["_law_found", "_law_due"] ["_law_found", "_law_due"] (defScope s_law_is) := ⟨rfl, rfl, rfl, by decide +kernel, rfl, by decide +kernel, by decide +kernel⟩
theorem sc_law_record : FnScope ["_law_shape", "_law_digits", "_law_abc", "_law_wide", "_law_at", "_law_most", "_law_rows", "_law_k", "_law_spelt", "_law_j", "_law_step"] ["_law_shape", "_law_digits"] (defScope s_law_record) := ⟨rfl, rfl, rfl, by decide +kernel, rfl, by decide +kernel, by decide +kernel⟩
theorem sc_law_outcome : FnScope ["_law_cell", "_law_mixed_up", "_law_kind_here", "_law_digits"] ["_law_cell"] (defScope s_law_outcome) := ⟨rfl, rfl, rfl, by decide +kernel, rfl, by decide +kernel, by decide +kernel⟩
theorem sc_law_kind : FnScope ["_law_one"] ["_law_one"] (defScope s_law_kind) := ⟨rfl, rfl, rfl, by decide +kernel, rfl, by decide +kernel, by decide +kernel⟩
theorem sc_law_before : FnScope ["_law_one", "_law_other", "_law_here", "_law_there"] ["_law_one", "_law_other"] (defScope s_law_before) := ⟨rfl, rfl, rfl, by decide +kernel, rfl, by decide +kernel, by decide +kernel⟩
theorem sc_law_same : FnScope ["_law_found", "_law_due", "_law_pair"] ["_law_found", "_law_due"] (defScope s_law_same) := ⟨rfl, rfl, rfl, by decide +kernel, rfl, by decide +kernel, by decide +kernel⟩
theorem sc_law_laid : FnScope ["_law_rows", "_law_outcome_here", "_law_weight", "_law_k"] ["_law_rows", "_law_outcome_here", "_law_weight"] (defScope s_law_laid) := ⟨rfl, rfl, rfl, by decide +kernel, rfl, by decide +kernel, by decide +kernel⟩
theorem sc_law_table_is : FnScope ["_law_found", "_law_rows", "_law_scale", "_law_due", "_law_pair", "_law_row"] ["_law_found", "_law_rows", "_law_scale"] (defScope s_law_table_is) := ⟨rfl, rfl, rfl, by decide +kernel, rfl, by decide +kernel, by decide +kernel⟩
theorem sc_over : FnScope ["one", "other"] ["one", "other"] (defScope s_over) := ⟨rfl, rfl, rfl, by decide +kernel, rfl, by decide +kernel, by decide +kernel⟩
theorem sc_total : FnScope ["table", "whole", "outcome", "share"] ["table"] (defScope s_total) := ⟨rfl, rfl, rfl, by decide +kernel, rfl, by decide +kernel, by decide +kernel⟩
theorem sc_scaled : FnScope ["table", "whole"] ["table"] (defScope s_scaled) := ⟨rfl, rfl, rfl, by decide +kernel, rfl, by decide +kernel, by decide +kernel⟩
theorem sc_without : FnScope ["table", "outcome"] ["table", "outcome"] (defScope s_without) := ⟨rfl, rfl, rfl, by decide +kernel, rfl, by decide +kernel, by decide +kernel⟩
theorem sc_table : FnScope ["pairs"] ["pairs"] (defScope s_table) := ⟨rfl, rfl, rfl, by decide +kernel, rfl, by decide +kernel, by decide +kernel⟩
theorem sc_turned : FnScope ["table", "how"] ["table", "how"] (defScope s_turned) := ⟨rfl, rfl, rfl, by decide +kernel, rfl, by decide +kernel, by decide +kernel⟩
structure Txt (K : PySem.W.Frag) (mg : Str → Option Value) (C0 C2 cN : Addr) : Prop where
  NoShare_ : ExcCls K mg "NoShare" C0
  Never_ : ExcCls K mg "Never" C2
  hit : PySem.W.exmOne K (.ref C2) (.ref C2) = some true
  NOUGHT : mg "NOUGHT" = some (.ref cN)
  nought : ∀ H, SqT K H cN [.int 0, .int 1]
  abs_ : mg "abs" = none
  isinstance_ : mg "isinstance" = none
  int_ : mg "int" = none
  bool_ : mg "bool" = none
  tuple_ : mg "tuple" = none
  len_ : mg "len" = none
  range_ : mg "range" = none
  sorted_ : mg "sorted" = none
  zip_ : mg "zip" = none
  str_ : mg "str" = none
  list_ : mg "list" = none
  sum_ : mg "sum" = none
def sp_gcd : Sp := fun vs H Q _ => ∃ a b, vs = [.int a, .int b] ∧ Q (.int (g a b)) H
def tupQ (H : Hp) (Q : VK) (x y : Int) : Prop := ∀ r H', Same H H' → H' r = some (.tup [.int x, .int y]) → Q (.ref r) H'
def sp_plus (K : PySem.W.Frag) : Sp := fun vs H Q _ => ∃ p q a b c d, vs = [.ref p, .ref q] ∧ SqT K H p [.int a, .int b] ∧ SqT K H q [.int c, .int d] ∧ 0 < b ∧ 0 < d ∧ Sm a ∧ Sm b ∧ Sm c ∧ Sm d ∧
  tupQ H Q (plusM a b c d).1 (plusM a b c d).2
def sp_times (K : PySem.W.Frag) : Sp := fun vs H Q _ => ∃ p q a b c d, vs = [.ref p, .ref q] ∧ SqT K H p [.int a, .int b] ∧ SqT K H q [.int c, .int d] ∧ 0 < b ∧ 0 < d ∧ Sm a ∧ Sm b ∧ Sm c ∧ Sm d ∧
  tupQ H Q (timesM a b c d).1 (timesM a b c d).2
def datQ (K : PySem.W.Frag) (H : Hp) (Q : VK) (d : Dt) : Prop := ∀ v H', Same H H' → DatAt K H' v d → Q v H'
def lstQ (K : PySem.W.Frag) (H : Hp) (Q : VK) (ds : List Dt) : Prop := ∀ D H', Same H H' → H D = none → LsM K H' D ds → Q (.ref D) H'
def sp_whole : Sp := fun vs H Q _ => ∃ i, vs = [.int i] ∧ Q (.bl true) H
def sp_lowest : Sp := fun vs H Q _ => ∃ t b, vs = [.int t, .int b] ∧ 0 < b ∧ Sm b ∧ tupQ H Q (low t b).1 (low t b).2
def sp_is (K : PySem.W.Frag) : Sp := fun vs H Q _ => ∃ v u p q, vs = [v, u] ∧ DatAt K H v (frD p) ∧ DatAt K H u (frD q) ∧ Q (.bl (Dt.beq (frD p) (frD q))) H
def sp_record (K : PySem.W.Frag) : Sp := fun vs H Q _ => ∃ sh dg : Int, vs = [.int sh, .int dg] ∧ (0 ≤ sh ∧ sh < 10 ^ 10) ∧ (0 ≤ dg ∧ dg < 10 ^ 12) ∧ ∀ fs : List (Str × Int), datQ K H Q (.tup (fs.map L2.pairD))
def sp_outcome (K : PySem.W.Frag) : Sp := fun vs H Q _ => ∃ n, vs = [.int n] ∧ Builtin.Int.intBits n ≤ 2 ^ 21 ∧ ∀ o, Oc o → datQ K H Q o
def sp_same (K : PySem.W.Frag) : Sp := fun vs H Q _ => ∃ v u o, vs = [v, u] ∧ DatAt K H v o ∧ DatAt K H u o ∧ Oc o ∧ Q (.bl true) H
abbrev S0 : Int := 1164003492
def sp_common : Sp := fun vs H Q _ => vs = [] ∧ Q (.int S0) H
abbrev Srt (es : List Dt) : Prop := es.Pairwise fun x y => Dt.lt x y = true
def sp_rank (K : PySem.W.Frag) : Sp := fun vs H Q _ => ∃ v o, vs = [v] ∧ DatAt K H v o ∧ Oc o ∧ datQ K H Q (rankD o)
def sp_in_order (K : PySem.W.Frag) : Sp := fun vs H Q _ => ∃ a ws ds, ∃ cov : List Dt, vs = [.ref a] ∧ SqL K H a ws ∧ DatsAt K H ws ds ∧ (∀ d ∈ ds, Oc d) ∧ ds.length ≤ 1000 ∧ (∀ d ∈ ds, d ∈ cov) ∧ cov.length < 64 ∧
  ∀ es, Srt es → (∀ x, x ∈ es ↔ x ∈ ds) → lstQ K H Q es
def sp_kind (K : PySem.W.Frag) : Sp := fun vs H Q _ => ∃ v o, vs = [v] ∧ DatAt K H v o ∧ Oc o ∧ Q (.int (kdN o)) H
def sp_before (K : PySem.W.Frag) : Sp := fun vs H Q _ => ∃ v u o p, vs = [v, u] ∧ DatAt K H v o ∧ DatAt K H u p ∧ Oc o ∧ Oc p ∧ ∀ H', Same H H' → Q (.bl (Dt.lt o p)) H'
section
variable {P : Program} {w : World} {K : PySem.W.Frag} {mg : Str → Option Value} {base : Heap} {C0 C2 cN : Addr}
theorem gcd_end {x a b : Int} (h0 : 0 ≤ x) (h : Int.gcd x 0 = Int.gcd a b) : x = g a b := by
  rw [Int.gcd_zero_right] at h
  show x = ((Int.gcd a b : Nat) : Int)
  rw [← h]
  omega
theorem gcd_start {a b : Int} : Int.gcd (if a < 0 then -a else a) (if b < 0 then -b else b) = Int.gcd a b := by
  split <;> split <;> simp
theorem abs_nn (a : Int) : 0 ≤ (if a < 0 then -a else a) := by split <;> omega
theorem abs_g_le {a b : Int} (h : b ≠ 0) : (g a b).natAbs ≤ b.natAbs := by
  show (((Int.gcd a b : Nat) : Int)).natAbs ≤ b.natAbs
  rw [Int.natAbs_natCast]
  exact Int.gcd_le_natAbs_right a h
theorem ok_greatest_divisor {f : Addr} {fd : FuncData} (A : FnAt K mg "greatest_divisor" s_greatest_divisor ["one", "other"] f fd) (T : Txt K mg C0 C2 cN) : FnOk P w K mg base CX0 1 f fd ["one", "other"] sp_gcd := by
  refine A.F.ok sc_greatest_divisor (fun vs H Q E h => ?_) (fun cdv Ar outer s H vs Q E hr h => ?_)
  · obtain ⟨a, b, rfl, _⟩ := h
    rfl
  · obtain ⟨a, b, rfl, k⟩ := h
    refine ⟨_, (pss_cons (ps_set (i := 0) sc_greatest_divisor.nd rfl (Or.inl rfl) (pe_callB call_abs (by rfl) T.abs_ Boot.«abs» (pa_cons (pv 0) pa_nil)))
      (pss_cons (ps_set (i := 1) sc_greatest_divisor.nd rfl (Or.inl rfl) (pe_callB call_abs (by rfl) T.abs_ Boot.«abs» (pa_cons (pv 1) pa_nil)))
      (pss_cons (ps_while PassesOwn.never (pt_cmpR op_ne (pv 1) pe_int (nomark _)) (pss_cons (ps_set (i := 2) sc_greatest_divisor.nd rfl (Or.inl rfl) (pe_op op_mod (pv 0) (pv 1)))
      (pss_cons (ps_set (i := 0) sc_greatest_divisor.nd rfl (Or.inl rfl) (pv 1))
      (pss_one (ps_set (i := 1) sc_greatest_divisor.nd rfl (Or.inl rfl) (pv 2))))))
      (pss_one (ps_ret (pv 0)))))), ?_⟩
    refine ⟨_, rfl, _, rfl, _, rfl, _, rfl, ?_⟩
    refine while_by (fun σ H' => H' = H ∧ ∃ (x y : Int) (o : Option V), σ = [some (.int x), some (.int y), o] ∧ 0 ≤ x ∧ 0 ≤ y ∧ Int.gcd x y = Int.gcd a b)
      (fun σ _ => match σ with | [_, some (.int y), _] => y.toNat | _ => 0) ⟨rfl, _, _, none, rfl, abs_nn a, abs_nn b, gcd_start⟩ ?_ ?_
    · rintro σ H' ⟨rfl, x, y, o, rfl, hx, hy, hg⟩
      refine ⟨_, rfl, rfl, _, rfl, ?_⟩
      refine iteBB (fun hc => ?_) (fun hc => ?_)
      rotate_left
      · have h0 : y = 0 := by simpa using hc
        subst h0
        refine ⟨_, rfl, ?_⟩
        rw [gcd_end hx hg]
        exact k
      · have h0 : ¬ y = 0 := by simpa using hc
        refine ⟨_, rfl, _, rfl, _, _, rfl, rfl, (by show (0 : Int) < y; omega), _, rfl, _, rfl, ⟨rfl, _, _, _, rfl, hy, Int.emod_nonneg _ h0, ?_⟩, ?_⟩
        · rw [← hg, g_step]
        · show (x % y).toNat < y.toNat
          have := Int.emod_lt_of_pos x (show 0 < y by omega)
          omega
    · rintro σ H' Q1 Q2 hq ⟨v, e, h1, b, e2, h2⟩
      exact ⟨v, e, h1, b, e2, hq _ _ h2⟩
theorem ok_law_divisor {f : Addr} {fd : FuncData} (A : FnAt K mg "_law_divisor" s_law_divisor ["_law_one", "_law_other"] f fd) (T : Txt K mg C0 C2 cN) : FnOk P w K mg base CX0 1 f fd ["_law_one", "_law_other"] sp_gcd := by
  refine A.F.ok sc_law_divisor (fun vs H Q E h => ?_) (fun cdv Ar outer s H vs Q E hr h => ?_)
  · obtain ⟨a, b, rfl, _⟩ := h
    rfl
  · obtain ⟨a, b, rfl, k⟩ := h
    refine ⟨_, (pss_cons (ps_set (i := 0) sc_law_divisor.nd rfl (Or.inl rfl) (pe_callB call_abs (by rfl) T.abs_ Boot.«abs» (pa_cons (pv 0) pa_nil)))
      (pss_cons (ps_set (i := 1) sc_law_divisor.nd rfl (Or.inl rfl) (pe_callB call_abs (by rfl) T.abs_ Boot.«abs» (pa_cons (pv 1) pa_nil)))
      (pss_cons (ps_while PassesOwn.never (pt_cmpR op_ne (pv 1) pe_int (nomark _)) (pss_one (ps_par (i := 0) (j := 1) rfl sc_law_divisor.nd rfl rfl (by decide) rfl rfl (pa_cons (pv 1) (pa_cons (pe_op op_mod (pv 0) (pv 1)) pa_nil)) (by rfl))))
      (pss_one (ps_ret (pv 0)))))), ?_⟩
    refine ⟨_, rfl, _, rfl, _, rfl, _, rfl, ?_⟩
    refine while_by (fun σ H' => H' = H ∧ ∃ (x y : Int), σ = [some (.int x), some (.int y)] ∧ 0 ≤ x ∧ 0 ≤ y ∧ Int.gcd x y = Int.gcd a b)
      (fun σ _ => match σ with | [_, some (.int y)] => y.toNat | _ => 0) ⟨rfl, _, _, rfl, abs_nn a, abs_nn b, gcd_start⟩ ?_ ?_
    · rintro σ H' ⟨rfl, x, y, rfl, hx, hy, hg⟩
      refine ⟨_, rfl, rfl, _, rfl, ?_⟩
      refine iteBB (fun hc => ?_) (fun hc => ?_)
      rotate_left
      · have h0 : y = 0 := by simpa using hc
        subst h0
        refine ⟨_, rfl, ?_⟩
        rw [gcd_end hx hg]
        exact k
      · have h0 : ¬ y = 0 := by simpa using hc
        refine ⟨_, rfl, _, rfl, _, rfl, _, _, rfl, rfl, (by show (0 : Int) < y; omega), _, _, rfl, ⟨rfl, _, _, rfl, hy, Int.emod_nonneg _ h0, ?_⟩, ?_⟩
        · rw [← hg, g_step]
        · show (x % y).toNat < y.toNat
          have := Int.emod_lt_of_pos x (show 0 < y by omega)
          omega
    · rintro σ H' Q1 Q2 hq ⟨v, e, h1, b, e2, h2⟩
      exact ⟨v, e, h1, b, e2, hq _ _ h2⟩
theorem kit_ii : PySem.W.kitOne K (.type "int") (.type "int") = some true := by rfl
theorem kit_ib : PySem.W.kitOne K (.type "int") (.type "bool") = some false := by
  show PySem.W.kitCls K (.type "int") (.type "bool") = some false
  show (if PySem.W.kitMeta "bool" = true then PySem.W.subIn K (.type "int") (.type "bool") else none) = some false
  rw [if_pos (by decide +kernel)]
  show (fastBuiltinMro "int").map (·.contains (.type "bool")) = some false
  decide +kernel
theorem kit_tt : PySem.W.kitOne K (.type "tuple") (.type "tuple") = some true := by rfl
theorem ok_law_whole {f : Addr} {fd : FuncData} (A : FnAt K mg "_law_whole" s_law_whole ["_law_found"] f fd) (T : Txt K mg C0 C2 cN) : FnOk P w K mg base CX0 1 f fd ["_law_found"] sp_whole := by
  refine A.F.ok sc_law_whole (fun vs H Q E h => ?_) (fun cdv Ar outer s H vs Q E hr h => ?_)
  · obtain ⟨a, rfl, _⟩ := h
    rfl
  · obtain ⟨i, rfl, k⟩ := h
    refine ⟨_, (pss_one (ps_ret (pe_and (pe_callB call_isi (by rfl) T.isinstance_ Boot.«isinstance» (pa_cons (pv 0) (pa_cons (pe_bltn rfl T.int_ Boot.«int» (v := .ty "int") rfl) pa_nil))) (pe_one (pe_not (pe_callB call_isi (by rfl) T.isinstance_ Boot.«isinstance» (pa_cons (pv 0) (pa_cons (pe_bltn rfl T.bool_ Boot.«bool» (v := .ty "bool") rfl) pa_nil)))))))), ?_⟩
    refine ⟨_, rfl, _, _, _, _, rfl, .int i, kit_ii, _, rfl, iteT ?_⟩
    exact ⟨_, rfl, _, _, _, _, rfl, .int i, kit_ib, _, rfl, k⟩
theorem g_div {a b : Int} (h : 0 < b) (s : Sm b) : CDivP a (g a b) := ⟨g_pos (by omega), (s.le (abs_g_le (by omega))).log⟩
theorem g_div' {x a b : Int} (h : 0 < b) (s : Sm b) : CDivP x (g a b) := ⟨g_pos (by omega), (s.le (abs_g_le (by omega))).log⟩
theorem ok_law_lowest {f fD : Addr} {fd fdD : FuncData} (A : FnAt K mg "_law_lowest" s_law_lowest ["_law_top", "_law_bottom"] f fd) (A_law_divisor : FnAt K mg "_law_divisor" s_law_divisor ["_law_one", "_law_other"] fD fdD) (T : Txt K mg C0 C2 cN) :
    FnOk P w K mg base CX0 2 f fd ["_law_top", "_law_bottom"] sp_lowest := by
  have G_law_divisor : FnOk P w K mg base CX0 1 fD fdD _ sp_gcd := ok_law_divisor A_law_divisor T
  refine A.F.ok sc_law_lowest (fun vs H Q E h => ?_) (fun cdv Ar outer s H vs Q E hr h => ?_)
  · obtain ⟨t, b, rfl, _⟩ := h
    rfl
  · obtain ⟨t, b, rfl, hb, sb, k⟩ := h
    refine ⟨_, (pss_cons (ps_set (i := 2) sc_law_lowest.nd rfl (Or.inl rfl) (pe_call G_law_divisor (hr.mono (by decide)) rfl A_law_divisor.m A_law_divisor.F.kp A_law_divisor.b .nil pass0 (pa_cons (pv 0) (pa_cons (pv 1) pa_nil))))
      (pss_one (ps_ret (pe_tup (pa_cons (pe_op op_fdivP (pv 0) (pv 2)) (pa_cons (pe_op op_fdivP (pv 1) (pv 2)) pa_nil)))))), ?_⟩
    refine ⟨_, rfl, _, rfl, t, b, rfl, ?_⟩
    refine ⟨_, rfl, _, rfl, _, _, rfl, rfl, g_div hb sb, _, rfl, _, rfl, _, _, rfl, rfl, g_div' hb sb, two_le, fun r hr => ?_⟩
    exact k r _ (.upd hr) upd_same
theorem sm_ediv {x y : Int} (h : Sm x) (d : y ∣ x) : Sm (x / y) := h.le (abs_ediv_le d)
theorem ok_plus {f fG : Addr} {fd fdG : FuncData} (A : FnAt K mg "plus" s_plus ["one", "other"] f fd) (A_greatest_divisor : FnAt K mg "greatest_divisor" s_greatest_divisor ["one", "other"] fG fdG) (T : Txt K mg C0 C2 cN) :
    FnOk P w K mg base CX0 2 f fd ["one", "other"] (sp_plus K) := by
  have G_greatest_divisor : FnOk P w K mg base CX0 1 fG fdG _ sp_gcd := ok_greatest_divisor A_greatest_divisor T
  refine A.F.ok sc_plus (fun vs H Q E h => ?_) (fun cdv Ar outer s H vs Q E hr h => ?_)
  · obtain ⟨p, q, a, b, c, d, rfl, _⟩ := h
    rfl
  · obtain ⟨p, q, a, b, c, d, rfl, hp, hq, hb, hd, sa, sb, sc, sd, k⟩ := h
    refine ⟨_, (pss_cons (ps_set (i := 2) sc_plus.nd rfl (Or.inl rfl) (pe_call G_greatest_divisor (hr.mono (by decide)) rfl A_greatest_divisor.m A_greatest_divisor.F.kp A_greatest_divisor.b .nil pass0 (pa_cons (pe_ix ix_tup (pv 0) pe_int (fun _ _ => rfl)) (pa_cons (pe_ix ix_tup (pv 1) pe_int (fun _ _ => rfl)) pa_nil))))
      (pss_cons (ps_set (i := 3) sc_plus.nd rfl (Or.inl rfl) (pe_op op_fdivP (pe_ix ix_tup (pv 1) pe_int (fun _ _ => rfl)) (pv 2)))
      (pss_cons (ps_set (i := 4) sc_plus.nd rfl (Or.inl rfl) (pe_op op_add (pe_op op_mulB (pe_ix ix_tup (pv 0) pe_int (fun _ _ => rfl)) (pv 3)) (pe_op op_mulB (pe_ix ix_tup (pv 1) pe_int (fun _ _ => rfl)) (pe_op op_fdivP (pe_ix ix_tup (pv 0) pe_int (fun _ _ => rfl)) (pv 2)))))
      (pss_cons (ps_set (i := 5) sc_plus.nd rfl (Or.inl rfl) (pe_call G_greatest_divisor (hr.mono (by decide)) rfl A_greatest_divisor.m A_greatest_divisor.F.kp A_greatest_divisor.b .nil pass0 (pa_cons (pv 4) (pa_cons (pv 2) pa_nil))))
      (pss_one (ps_ret (pe_tup (pa_cons (pe_op op_fdivP (pv 4) (pv 5)) (pa_cons (pe_op op_mulB (pe_op op_fdivP (pe_ix ix_tup (pv 0) pe_int (fun _ _ => rfl)) (pv 5)) (pv 3)) pa_nil))))))))), ?_⟩
    have gp : 0 < g b d := g_pos (by omega)
    have sg : Sm (g b d) := sd.le (abs_g_le (by omega))
    have db : g b d ∣ b := Int.gcd_dvd_left ..
    have dd : g b d ∣ d := Int.gcd_dvd_right ..
    have s1 : Sm (d / g b d) := sm_ediv sd dd
    have s2 : Sm (b / g b d) := sm_ediv sb db
    -- shared = greatest_divisor(one[1], other[1])
    refine ⟨_, rfl, p, _, 1, .int b, rfl, rfl, hp, rfl, _, rfl, q, _, 1, .int d, rfl, rfl, hq, rfl, b, d, rfl, ?_⟩
    -- lacking = other[1] // shared
    refine ⟨_, rfl, q, _, 1, .int d, rfl, rfl, hq, rfl, _, rfl, _, _, rfl, rfl, ⟨gp, sg.log⟩, ?_⟩
    -- top = one[0] * lacking + other[0] * (one[1] // shared)
    refine ⟨_, rfl, p, _, 0, .int a, rfl, rfl, hp, rfl, _, rfl, _, _, rfl, rfl, sa.mul s1, _, rfl, q, _, 0, .int c, rfl, rfl, hq, rfl, _, rfl, p, _, 1, .int b, rfl, rfl, hp, rfl, _, rfl, _, _, rfl, rfl, ⟨gp, sg.log⟩, _, _, rfl, rfl, sc.mul s2, _, _, rfl, rfl, ?_⟩
    -- divisor = greatest_divisor(top, shared)
    refine ⟨_, rfl, _, rfl, _, _, rfl, ?_⟩
    generalize ht : a * (d / g b d) + c * (b / g b d) = t
    have gp2 : 0 < g t (g b d) := g_pos (by omega)
    have sg2 : Sm (g t (g b d)) := sg.le (abs_g_le (by omega))
    have d2 : g t (g b d) ∣ b := Int.dvd_trans (Int.gcd_dvd_right ..) db
    -- (top // divisor, one[1] // divisor * lacking)
    refine ⟨_, rfl, _, rfl, _, _, rfl, rfl, ⟨gp2, sg2.log⟩, _, rfl, p, _, 1, .int b, rfl, rfl, hp, rfl, _, rfl, _, _, rfl, rfl, ⟨gp2, sg2.log⟩, _, rfl, _, _, rfl, rfl, (sm_ediv sb d2).mul s1, two_le, fun r hr => ?_⟩
    refine k r _ (.upd hr) ?_
    rw [upd_same]
    subst ht
    rfl
theorem ok_times {f fG : Addr} {fd fdG : FuncData} (A : FnAt K mg "times" s_times ["one", "other"] f fd) (A_greatest_divisor : FnAt K mg "greatest_divisor" s_greatest_divisor ["one", "other"] fG fdG) (T : Txt K mg C0 C2 cN) :
    FnOk P w K mg base CX0 2 f fd ["one", "other"] (sp_times K) := by
  have G_greatest_divisor : FnOk P w K mg base CX0 1 fG fdG _ sp_gcd := ok_greatest_divisor A_greatest_divisor T
  refine A.F.ok sc_times (fun vs H Q E h => ?_) (fun cdv Ar outer s H vs Q E hr h => ?_)
  · obtain ⟨p, q, a, b, c, d, rfl, _⟩ := h
    rfl
  · obtain ⟨p, q, a, b, c, d, rfl, hp, hq, hb, hd, sa, sb, sc, sd, k⟩ := h
    refine ⟨_, (pss_cons (ps_set (i := 2) sc_times.nd rfl (Or.inl rfl) (pe_call G_greatest_divisor (hr.mono (by decide)) rfl A_greatest_divisor.m A_greatest_divisor.F.kp A_greatest_divisor.b .nil pass0 (pa_cons (pe_ix ix_tup (pv 0) pe_int (fun _ _ => rfl)) (pa_cons (pe_ix ix_tup (pv 1) pe_int (fun _ _ => rfl)) pa_nil))))
      (pss_cons (ps_set (i := 3) sc_times.nd rfl (Or.inl rfl) (pe_call G_greatest_divisor (hr.mono (by decide)) rfl A_greatest_divisor.m A_greatest_divisor.F.kp A_greatest_divisor.b .nil pass0 (pa_cons (pe_ix ix_tup (pv 1) pe_int (fun _ _ => rfl)) (pa_cons (pe_ix ix_tup (pv 0) pe_int (fun _ _ => rfl)) pa_nil))))
      (pss_one (ps_ret (pe_tup (pa_cons (pe_op op_mulB (pe_op op_fdivP (pe_ix ix_tup (pv 0) pe_int (fun _ _ => rfl)) (pv 2)) (pe_op op_fdivP (pe_ix ix_tup (pv 1) pe_int (fun _ _ => rfl)) (pv 3))) (pa_cons (pe_op op_mulB (pe_op op_fdivP (pe_ix ix_tup (pv 0) pe_int (fun _ _ => rfl)) (pv 3)) (pe_op op_fdivP (pe_ix ix_tup (pv 1) pe_int (fun _ _ => rfl)) (pv 2))) pa_nil))))))), ?_⟩
    have gp1 : 0 < g a d := g_pos (by omega)
    have sg1 : Sm (g a d) := sd.le (abs_g_le (by omega))
    have gp2 : 0 < g c b := g_pos (by omega)
    have sg2 : Sm (g c b) := sb.le (abs_g_le (by omega))
    have M1 : IntMulOk (a / g a d) (c / g c b) := (sm_ediv sa (Int.gcd_dvd_left ..)).mul (sm_ediv sc (Int.gcd_dvd_left ..))
    have M2 : IntMulOk (b / g c b) (d / g a d) := (sm_ediv sb (Int.gcd_dvd_right ..)).mul (sm_ediv sd (Int.gcd_dvd_right ..))
    refine ⟨_, rfl, p, _, 0, .int a, rfl, rfl, hp, rfl, _, rfl, q, _, 1, .int d, rfl, rfl, hq, rfl, a, d, rfl, ?_⟩
    refine ⟨_, rfl, q, _, 0, .int c, rfl, rfl, hq, rfl, _, rfl, p, _, 1, .int b, rfl, rfl, hp, rfl, c, b, rfl, ?_⟩
    refine ⟨_, rfl, p, _, 0, .int a, rfl, rfl, hp, rfl, _, rfl, _, _, rfl, rfl, ⟨gp1, sg1.log⟩, _, rfl, q, _, 0, .int c, rfl, rfl, hq, rfl, _, rfl, _, _, rfl, rfl, ⟨gp2, sg2.log⟩, _, _, rfl, rfl, M1, ?_⟩
    refine ⟨_, rfl, p, _, 1, .int b, rfl, rfl, hp, rfl, _, rfl, _, _, rfl, rfl, ⟨gp2, sg2.log⟩, _, rfl, q, _, 1, .int d, rfl, rfl, hq, rfl, _, rfl, _, _, rfl, rfl, ⟨gp1, sg1.log⟩, _, _, rfl, rfl, M2, two_le, fun r hr => ?_⟩
    exact k r _ (.upd hr) upd_same
theorem kit_ff {t n : String} (h : PySem.W.kitMeta n = true) (e : (fastBuiltinMro t).map (·.contains (.type n)) = some false) (hne : (Value.type t == Value.type n) = false) : PySem.W.kitOne K (.type t) (.type n) = some false := by
  unfold PySem.W.kitOne
  rw [hne]
  show PySem.W.kitCls K (.type t) (.type n) = some false
  show (if PySem.W.kitMeta n = true then PySem.W.subIn K (.type t) (.type n) else none) = some false
  rw [if_pos h]
  exact e
theorem kit_it : PySem.W.kitOne K (.type "int") (.type "tuple") = some false := kit_ff (by decide +kernel) (by decide +kernel) (by decide +kernel)
theorem kit_ll : PySem.W.kitOne K (.type "list") (.type "list") = some true := by rfl
theorem kit_ss : PySem.W.kitOne K (.type "str") (.type "str") = some true := by rfl
/-- one more item of a list that was made -/
theorem snoc_ok {H1 H6 : Hp} {D : Addr} {ys : List V} {ds : List Dt} {v : V} {d : Dt} (hD : H1 D = none) (S6 : Same H1 H6) (e6 : H6 D = some (.lst ys)) (hy : DatsAt K H6 ys ds) (hv : DatAt K H6 v d) :
    Same H1 (upd H6 D (.lst (ys ++ [v]))) ∧ (upd H6 D (.lst (ys ++ [v]))) D = some (.lst (ys ++ [v])) ∧ DatsAt K (upd H6 D (.lst (ys ++ [v]))) (ys ++ [v]) (ds ++ [d]) := by
  refine ⟨fun b o e => ?_, upd_same, (hy.append (.cons hv .nil)).updL e6⟩
  rw [upd_ne (ne_of_none e hD)]
  exact S6 _ _ e
theorem ok_law_is {f fW : Addr} {fd fdW : FuncData} (A : FnAt K mg "_law_is" s_law_is ["_law_found", "_law_due"] f fd) (A_law_whole : FnAt K mg "_law_whole" s_law_whole ["_law_found"] fW fdW) (T : Txt K mg C0 C2 cN) :
    FnOk P w K mg base CX0 2 f fd ["_law_found", "_law_due"] (sp_is K) := by
  have G_law_whole : FnOk P w K mg base CX0 1 fW fdW _ sp_whole := ok_law_whole A_law_whole T
  refine A.F.ok sc_law_is (fun vs H Q E h => ?_) (fun cdv Ar outer s H vs Q E hr h => ?_)
  · obtain ⟨v, u, p, q, rfl, _⟩ := h
    rfl
  · obtain ⟨v, u, p, q, rfl, hv, hu, k⟩ := h
    refine ⟨_, (pss_cons (ps_if (PW.pt (pw_or (pt_not (pt_val (pe_callB call_isiT (by rfl) T.isinstance_ Boot.«isinstance» (pa_cons (pv 0) (pa_cons (pe_bltn rfl T.tuple_ Boot.«tuple» (v := .ty "tuple") rfl) pa_nil))))) (pw_or1 (pt_cmpR op_ne (pe_callB call_len_seq (by rfl) T.len_ Boot.«len» (pa_cons (pv 0) pa_nil)) pe_int (nomark _))))) (pss_one (ps_ret pe_bl)) pss_nil)
      (pss_one (ps_ret (pe_and (pe_call G_law_whole (hr.mono (by decide)) rfl A_law_whole.m A_law_whole.F.kp A_law_whole.b .nil pass0 (pa_cons (pe_ix ix_tup (pv 0) pe_int (fun _ _ => rfl)) pa_nil)) (pe_and (pe_call G_law_whole (hr.mono (by decide)) rfl A_law_whole.m A_law_whole.F.kp A_law_whole.b .nil pass0 (pa_cons (pe_ix ix_tup (pv 0) pe_int (fun _ _ => rfl)) pa_nil)) (pe_one (pe_cmpR (op_eqD hr.units) (pv 0) (pv 1) (nomark _)))))))), ?_⟩
    obtain ⟨r, rfl, su⟩ := hv.fr
    refine ⟨_, rfl, r, _, _, _, rfl, su, kit_tt, _, rfl, iteF ?_⟩
    refine ⟨_, rfl, r, _, rfl, .inr su, rfl, _, rfl, iteF ?_⟩
    refine ⟨_, rfl, r, _, 0, .int p.1, rfl, rfl, su, rfl, p.1, rfl, _, rfl, iteT ?_⟩
    refine ⟨_, rfl, r, _, 1, .int p.2, rfl, rfl, su, rfl, p.2, rfl, _, rfl, iteT ?_⟩
    exact ⟨_, rfl, _, rfl, frD p, frD q, hv, hu, Nat.le_trans (hgt_frD _) (by decide), k⟩
abbrev tx (r : List Nat) : Str := ⟨r.toArray⟩
theorem tx_len (r : List Nat) : (tx r).length = r.length := by
  show r.toArray.size = r.length
  simp
theorem tx_cat (a b : List Nat) : tx a ++ tx b = tx (a ++ b) := by
  show (⟨a.toArray ++ b.toArray⟩ : Str) = ⟨(a ++ b).toArray⟩
  simp
def abc : Str := "abcdefghijklmnopqrstuvwxyz"
theorem abc_at : ∀ i, i < 26 → (abc.cps.toList[i]?).isSome = true := by decide +kernel
theorem abc_len : abc.length ≤ sizeLine := by decide +kernel
theorem abc_ix {i : Int} (h0 : 0 ≤ i) (h1 : i < 26) : ∃ c, atI abc.cps.toList i = some c := by
  have q := abc_at i.toNat (by omega)
  obtain ⟨c, hc⟩ := Option.isSome_iff_exists.mp q
  refine ⟨c, ?_⟩
  have := atI_nat hc
  rw [show ((i.toNat : Nat) : Int) = i by omega] at this
  exact this
theorem DatAt.pair {H : Hp} {v : V} {f : Str × Int} (h : DatAt K H v (L2.pairD f)) : ∃ r, v = .ref r ∧ SqT K H r [.str f.1, .int f.2] := by
  obtain ⟨r, vs, rfl, h1, h2⟩ := DatAt.un (ds := [.str f.1, .int f.2]) h
  obtain ⟨a, b, rfl, h3, h4⟩ := h2.two
  rw [h3.str_eq, h4.int_eq] at h1
  exact ⟨r, rfl, h1⟩
theorem datAt_pair {H : Hp} {r : Addr} {f : Str × Int} (h : SqT K H r [.str f.1, .int f.2]) : DatAt K H (.ref r) (L2.pairD f) := .tup h (.cons (.str _) (.cons (.int _) .nil))
theorem menu2 (x y i : Int) (h0 : 0 ≤ i) (h1 : i < 2) : atI [V.int x, V.int y] i = some (.int (if i = 0 then x else y)) := by
  have : i = 0 ∨ i = 1 := by omega
  rcases this with rfl | rfl <;> rfl
theorem small_mul {x y : Int} (h : -(2 ^ 62) ≤ y ∧ y ≤ 2 ^ 62) : IntMulOk x y := .of_right (intBits_le_64 (by omega) (by omega))
set_option maxHeartbeats 4000000 in
theorem ok_law_record {f : Addr} {fd : FuncData} (A : FnAt K mg "_law_record" s_law_record ["_law_shape", "_law_digits"] f fd) (T : Txt K mg C0 C2 cN) : FnOk P w K mg base CX0 1 f fd ["_law_shape", "_law_digits"] (sp_record K) := by
  refine A.F.ok sc_law_record (fun vs H Q E h => ?_) (fun cdv Ar outer s H vs Q E hr h => ?_)
  · obtain ⟨sh, dg, rfl, _⟩ := h
    rfl
  · obtain ⟨sh, dg, rfl, ⟨s0, s1⟩, ⟨g0, g1⟩, k⟩ := h
    refine ⟨_, (pss_cons (ps_set (i := 2) sc_law_record.nd rfl (Or.inl rfl) pe_str)
      (pss_cons (ps_set (i := 3) sc_law_record.nd rfl (Or.inl rfl) (pe_op op_add pe_int (pe_op op_mod (pe_op op_fdivP (pv 0) pe_int) pe_int)))
      (pss_cons (ps_set (i := 4) sc_law_record.nd rfl (Or.inl rfl) (pe_op op_mod (pe_op op_fdivP (pv 0) pe_int) (pv 3)))
      (pss_cons (ps_set (i := 5) sc_law_record.nd rfl (Or.inl rfl) (pe_ix ix_list (pe_lst (pa_cons pe_int (pa_cons (pe_op op_pow pe_int pe_int) pa_nil))) (pe_op op_mod (pv 1) pe_int) (fun _ _ => rfl)))
      (pss_cons (ps_set (i := 6) sc_law_record.nd rfl (Or.inl rfl) (pe_lst pa_nil))
      (pss_cons (ps_for PassesOwn.never rfl (pi_range1 rfl T.range_ (pa_cons (pe_op op_add pe_int (pe_op op_mod (pv 0) pe_int)) pa_nil)) (pg_name (i := 7) sc_law_record.nd rfl (Or.inl rfl)) (pss_cons (ps_set (i := 8) sc_law_record.nd rfl (Or.inl rfl) pe_str)
      (pss_cons (ps_for PassesOwn.never rfl (pi_range1 rfl T.range_ (pa_cons (pv 3) pa_nil)) (pg_name (i := 9) sc_law_record.nd rfl (Or.inl rfl)) (pss_cons (ps_set (i := 10) sc_law_record.nd rfl (Or.inl rfl) (pe_op op_add (pe_op op_mulB (pe_op op_mulB pe_int (pv 9)) (pv 9)) (pe_op op_mulB (pe_op op_mulB pe_int (pv 7)) (pe_callTy call_int1 (by rfl) T.int_ Boot.«int» (pa_cons (pe_cmpR op_eq (pv 9) (pv 4) (nomark _)) pa_nil)))))
      (pss_one (ps_set (i := 8) sc_law_record.nd rfl (Or.inl rfl) (pe_op op_add_str (pv 8) (pe_ix ix_str (pv 2) (pe_op op_mod (pe_op op_add (pe_op op_fdivP (pv 0) pe_int) (pv 10)) pe_int) (fun _ _ => rfl)))))))
      (pss_one (ps_expr (pe_bm PySem.F.plainAttrs_list PySem.F.slot_list_append PySem.F.type_list_append mt_append (pv 6) (pa_cons (pe_tup (pa_cons (pv 8) (pa_cons (pe_op op_mod (pe_op op_add (pe_op op_mulB (pe_op op_fdivP (pv 1) pe_int) (pe_op op_add (pv 7) pe_int)) (pe_op op_mulB (pv 7) (pv 7))) (pv 5)) pa_nil))) pa_nil)))))))
      (pss_one (ps_ret (pe_callTy call_tuple_of (by rfl) T.tuple_ Boot.«tuple» (pa_cons (pe_callB call_sortedP (by rfl) T.sorted_ Boot.«sorted» (pa_cons (pv 6) pa_nil)) pa_nil)))))))))), ?_⟩
    have w0 := Int.emod_nonneg (sh / 6) (show (8 : Int) ≠ 0 by decide)
    have w1 := Int.emod_lt_of_pos (sh / 6) (show (0 : Int) < 8 by decide)
    have p0 := Int.emod_nonneg sh (show (6 : Int) ≠ 0 by decide)
    have p1 := Int.emod_lt_of_pos sh (show (0 : Int) < 6 by decide)
    -- wide, at
    refine ⟨_, rfl, _, _, rfl, rfl, ⟨by decide, by decide +kernel⟩, _, _, rfl, rfl, (by show (0 : Int) < 8; decide), _, _, rfl, rfl, ?_⟩
    refine ⟨_, rfl, _, _, rfl, rfl, ⟨by decide, by decide +kernel⟩, _, rfl, _, _, rfl, rfl, (by show 0 < 1 + sh / 6 % 8; omega), ?_⟩
    -- most
    refine ⟨_, _, rfl, rfl, ⟨by decide, by decide, by decide⟩, two_le, fun l hl => ?_⟩
    refine ⟨_, rfl, _, _, rfl, rfl, (by show (0 : Int) < 2; decide), l, _, _, _, rfl, rfl, SqL.of upd_same, menu2 _ _ (dg % 2) (Int.emod_nonneg _ (by decide)) (Int.emod_lt_of_pos _ (by decide)), ?_⟩
    have S1 : Same H (upd H l (.lst [V.int 3, V.int (10 ^ (12 : Int).toNat)])) := .upd hl
    dsimp only
    generalize upd H l (.lst [V.int 3, V.int (10 ^ (12 : Int).toNat)]) = H1 at S1
    have hm : (0 : Int) < if dg % 2 = 0 then 3 else 10 ^ (12 : Int).toNat := by split <;> decide
    generalize (if dg % 2 = 0 then (3 : Int) else 10 ^ (12 : Int).toNat) = m at hm
    generalize sh / 48 % (1 + sh / 6 % 8) = at_
    generalize hwd : 1 + sh / 6 % 8 = wd
    -- rows = []
    refine ⟨Nat.zero_le _, fun D hD => ?_⟩
    refine ⟨_, rfl, _, _, rfl, rfl, (by show (0 : Int) < 6; decide), _, _, rfl, rfl, 1 + sh % 6, rfl, by omega, by omega, for_range (lo := 0) (n := (1 + sh % 6).toNat)
      (fun i σ H' => Same H1 H' ∧ ∃ (fs : List (Str × Int)) (vs : List V) (o7 o8 o9 o10 : Option V), σ = [some (.int sh), some (.int dg), some (.str abc), some (.int wd), some (.int at_), some (.int m), some (.ref D), o7, o8, o9, o10] ∧
        H' D = some (.lst vs) ∧ DatsAt K H' vs (fs.map L2.pairD) ∧ fs.length = i)
      ⟨.upd hD, [], [], none, none, none, none, rfl, upd_same, .nil, rfl⟩ ?_ ?_⟩
    · rintro i σ H' hi ⟨S2, fs, vs, o7, o8, o9, o10, rfl, eD, hd, hfs⟩
      have ki : (i : Int) ≤ 6 := by omega
      -- for j in range(wide)
      refine ⟨_, rfl, wd, rfl, by omega, by omega, for_range (lo := 0) (n := wd.toNat) (fun j σ H'' => H'' = H' ∧ ∃ (w : List Nat) (o9 o10 : Option V), σ = [some (.int sh), some (.int dg), some (.str abc), some (.int wd), some (.int at_), some (.int m), some (.ref D), some (.int (0 + (i : Int))), some (.str (tx w)), o9, o10] ∧ w.length ≤ j)
        ⟨rfl, [], _, _, rfl, Nat.zero_le _⟩ ?_ ?_⟩
      · rintro j σ H'' hj ⟨rfl, w, o9, o10, rfl, hw⟩
        have kj : (j : Int) ≤ 8 := by omega
        have mj : ∀ x : Int, IntMulOk x (0 + (j : Int)) := fun x => small_mul (by omega)
        have mi : ∀ x : Int, IntMulOk x (0 + (i : Int)) := fun x => small_mul (by omega)
        have mb : ∀ (x : Int) (b : Bool), IntMulOk x (if b then 1 else 0) := fun x b => by cases b <;> exact small_mul (by decide)
        refine ⟨_, rfl, _, _, rfl, rfl, mj _, _, rfl, _, _, rfl, rfl, mj _, _, rfl, _, _, rfl, rfl, mi _, _, rfl, _, rfl, rfl, .inr ⟨_, rfl, _, _, rfl, rfl, mb _ _, _, _, rfl, rfl, ?_⟩⟩
        dsimp only
        generalize 3 * (0 + (j : Int)) * (0 + (j : Int)) + 5 * (0 + (i : Int)) * (if decide (V.int (0 + (j : Int)) = V.int at_) = true then 1 else 0) = st
        obtain ⟨c, hc⟩ := abc_ix (i := (sh / 384 + st) % 26) (Int.emod_nonneg _ (by decide)) (Int.emod_lt_of_pos _ (by decide))
        refine ⟨_, rfl, _, rfl, _, rfl, _, _, rfl, rfl, ⟨by decide, by decide +kernel⟩, _, rfl, _, _, rfl, rfl, _, _, rfl, rfl, (by show (0 : Int) < 26; decide), abc, _, c, rfl, rfl, abc_len, hc, tx w, tx [c], rfl, rfl, ?_, ?_⟩
        · rw [tx_len, tx_len]
          exact Nat.le_trans (show w.length + 1 ≤ 20 by omega) (by decide)
        · rw [tx_cat]
          exact ⟨rfl, w ++ [c], _, _, rfl, by rw [List.length_append]; show w.length + 1 ≤ j + 1; omega⟩
      · rintro σ H'' ⟨rfl, w, o9, o10, rfl, hw⟩
        have m1 : IntMulOk (dg / 2) (0 + (i : Int) + 1) := small_mul (by omega)
        have m2 : IntMulOk (0 + (i : Int)) (0 + (i : Int)) := small_mul (by omega)
        -- rows.append((spelt, ..))
        refine ⟨_, rfl, .inl ⟨rfl, _, SqL.of eD⟩, _, rfl, _, rfl, _, _, rfl, rfl, ⟨by decide, by decide +kernel⟩, _, rfl, _, _, rfl, rfl, _, _, rfl, rfl, m1, _, rfl, _, rfl, _, _, rfl, rfl, m2, _, _, rfl, rfl, _, rfl, _, _, rfl, rfl, hm, two_le, fun t ht => ?_⟩
        have S4 : Same H'' (upd H'' t (.tup [.str (tx w), .int ((dg / 2 * (0 + (i : Int) + 1) + (0 + (i : Int)) * (0 + (i : Int))) % m)])) := .upd ht
        have e4 := S4 _ _ eD
        have hl1 := hd.length
        rw [List.length_map] at hl1
        refine ⟨D, _, _, rfl, rfl, e4, Nat.lt_of_le_of_lt (show vs.length ≤ 1000 by omega) (by decide), ?_⟩
        obtain ⟨q1, q2, q3⟩ := snoc_ok (v := .ref t) (d := L2.pairD (tx w, (dg / 2 * (0 + (i : Int) + 1) + (0 + (i : Int)) * (0 + (i : Int))) % m)) hD (S2.trans S4) e4 (hd.same S4) (datAt_pair (SqT.of upd_same))
        refine ⟨q1, fs ++ [(tx w, (dg / 2 * (0 + (i : Int) + 1) + (0 + (i : Int)) * (0 + (i : Int))) % m)], _, _, _, _, _, rfl, q2, ?_, by rw [List.length_append, hfs]; rfl⟩
        rw [List.map_append]
        exact q3
    · rintro σ H' ⟨S2, fs, vs, o7, o8, o9, o10, rfl, eD, hd, hfs⟩
      have hl1 := hd.length
      rw [List.length_map] at hl1
      -- return tuple(sorted(rows))
      refine ⟨_, rfl, D, vs, fs, rfl, SqL.of eD, hd, by omega, fun D2 p hp hD2 => ⟨D2, _, rfl, .inl ⟨SqL.of upd_same, fun l2 hl2 => ?_⟩⟩⟩
      have all : ∀ i ∈ p, i < vs.length := fun i hi => List.mem_range.mp (hp.mem_iff.mp hi)
      have pk := hd.pick (d0 := L2.pairD ("", 0)) p all
      have ep : (p.map fun i => (fs.map L2.pairD).getD i (L2.pairD ("", 0))) = (p.map fun i => fs.getD i ("", 0)).map L2.pairD := by
        rw [List.map_map]
        refine List.map_congr_left fun i hi => ?_
        show (fs.map L2.pairD).getD i (L2.pairD ("", 0)) = L2.pairD (fs.getD i ("", 0))
        have hi' : i < fs.length := by have := all i hi; omega
        simp [List.getD_eq_getElem?_getD, hi']
      rw [ep] at pk
      have S5 : Same H' (upd (upd H' D2 (.lst (p.map fun i => vs.getD i .non))) l2 (.tup (p.map fun i => vs.getD i .non))) := (Same.upd hD2).updR hl2
      exact k _ (.ref l2) _ ((S1.trans S2).trans S5) (.tup (SqT.of upd_same) (pk.same S5))
theorem ok_law_outcome {f fR : Addr} {fd fdR : FuncData} (A : FnAt K mg "_law_outcome" s_law_outcome ["_law_cell"] f fd) (A_law_record : FnAt K mg "_law_record" s_law_record ["_law_shape", "_law_digits"] fR fdR) (T : Txt K mg C0 C2 cN) : FnOk P w K mg base CX0 2 f fd ["_law_cell"] (sp_outcome K) := by
  have G_law_record : FnOk P w K mg base CX0 1 fR fdR _ (sp_record K) := ok_law_record A_law_record T
  refine A.F.ok sc_law_outcome (fun vs H Q E h => ?_) (fun cdv Ar outer s H vs Q E hr h => ?_)
  · obtain ⟨n, rfl, _⟩ := h
    rfl
  · obtain ⟨n, rfl, hn, k⟩ := h
    refine ⟨_, (pss_cons (ps_set (i := 1) sc_law_outcome.nd rfl (Or.inl rfl) (pe_op op_mod (pe_op op_mulB (pv 0) pe_int) pe_int))
      (pss_cons (ps_set (i := 2) sc_law_outcome.nd rfl (Or.inl rfl) (pe_op op_mod (pv 1) pe_int))
      (pss_cons (ps_if (pt_cmpR op_eq (pv 2) pe_int (nomark _)) (pss_one (ps_ret pe_non)) pss_nil)
      (pss_cons (ps_if (PW.pt (pw_or (pt_cmpR op_eq (pv 2) pe_int (nomark _)) (pw_or1 (pt_cmpR op_eq (pv 2) pe_int (nomark _))))) (pss_one (ps_ret (pe_op op_mod (pe_op op_fdivP (pv 1) pe_int) pe_int))) pss_nil)
      (pss_cons (ps_set (i := 3) sc_law_outcome.nd rfl (Or.inl rfl) (pe_op op_mod (pe_op op_mulB (pv 0) pe_int) (pe_op op_pow pe_int pe_int)))
      (pss_cons (ps_if (pt_cmpR op_eq (pv 2) pe_int (nomark _)) (pss_one (ps_ret (pv 3))) pss_nil)
      (pss_one (ps_ret (pe_call G_law_record (hr.mono (by decide)) rfl A_law_record.m A_law_record.F.kp A_law_record.b .nil pass0 (pa_cons (pe_op op_mod (pe_op op_fdivP (pv 1) pe_int) (pe_ix ix_list (pe_lst (pa_cons pe_int (pa_cons (pe_op op_pow pe_int pe_int) pa_nil))) (pe_op op_mod (pe_op op_fdivP (pv 1) pe_int) pe_int) (fun _ _ => rfl))) (pa_cons (pv 3) pa_nil))))))))))), ?_⟩
    have m1 : IntMulOk n 48271 := .of_right (by decide +kernel)
    have m2 : IntMulOk n 982451653 := .of_right (by decide +kernel)
    have x0 := Int.emod_nonneg (n * 48271) (show (2147483647 : Int) ≠ 0 by decide)
    have x1 := Int.emod_lt_of_pos (n * 48271) (show (0 : Int) < 2147483647 by decide)
    refine ⟨_, rfl, _, _, rfl, rfl, m1, _, _, rfl, rfl, (by show (0 : Int) < 2147483647; decide), ?_⟩
    dsimp only
    generalize n * 48271 % 2147483647 = x at x0 x1
    refine ⟨_, rfl, _, _, rfl, rfl, (by show (0 : Int) < 6; decide), ?_⟩
    have d6 : CDivP x 6 := ⟨by decide, by decide +kernel⟩
    have fin : ∀ n : Int, Q (.int n) H := fun n => k (.int n) (.int n) _ H (.refl _) (.int n)
    refine ⟨_, rfl, rfl, _, rfl, iteBB (fun _ => k .non .non _ H (.refl _) .non) (fun _ => ?_)⟩
    refine ⟨_, rfl, rfl, _, rfl, iteBB (fun _ => iteT ⟨_, rfl, _, _, rfl, rfl, d6, _, _, rfl, rfl, (by show (0 : Int) < 5; decide), fin _⟩) (fun _ => ?_)⟩
    refine ⟨_, rfl, rfl, _, rfl, iteBB (fun _ => ⟨_, rfl, _, _, rfl, rfl, d6, _, _, rfl, rfl, (by show (0 : Int) < 5; decide), fin _⟩) (fun _ => ?_)⟩
    refine ⟨_, rfl, _, _, rfl, rfl, m2, _, _, rfl, rfl, ⟨by decide, by decide, by decide⟩, _, _, rfl, rfl, (by show (0 : Int) < 10 ^ (12 : Int).toNat; decide), ?_⟩
    have g0 := Int.emod_nonneg (n * 982451653) (show (10 ^ 12 : Int) ≠ 0 by decide)
    have g1 := Int.emod_lt_of_pos (n * 982451653) (show (0 : Int) < 10 ^ 12 by decide)
    refine ⟨_, rfl, rfl, _, rfl, iteBB (fun _ => ⟨_, rfl, fin _⟩) (fun _ => ?_)⟩
    refine ⟨_, rfl, _, _, rfl, rfl, ⟨by decide, by decide +kernel⟩, _, _, rfl, rfl, ⟨by decide, by decide, by decide⟩, two_le, fun l hl => ?_⟩
    have hz : (0 : Int) < if x / 6 % 2 = 0 then 60 else 10 ^ (9 : Int).toNat := by split <;> decide
    have hz2 : (if x / 6 % 2 = 0 then (60 : Int) else 10 ^ (9 : Int).toNat) ≤ 10 ^ 9 := by split <;> decide
    refine ⟨_, rfl, _, _, rfl, rfl, d6, _, _, rfl, rfl, (by show (0 : Int) < 2; decide), l, _, _, _, rfl, rfl, SqL.of upd_same, menu2 _ _ (x / 6 % 2) (Int.emod_nonneg _ (by decide)) (Int.emod_lt_of_pos _ (by decide)), _, _, rfl, rfl, hz, _, rfl, _, _, rfl, ⟨?_, ?_⟩, ⟨g0, g1⟩, fun fs v H' S' hv => ?_⟩
    · exact Int.emod_nonneg _ (by omega)
    · have := Int.emod_lt_of_pos (x / 12) hz
      refine Int.lt_of_lt_of_le this (Int.le_trans hz2 (by decide))
    · exact k _ (.recd fs) v H' ((Same.upd hl).trans S') hv
theorem ok_law_kind {f : Addr} {fd : FuncData} (A : FnAt K mg "_law_kind" s_law_kind ["_law_one"] f fd) (T : Txt K mg C0 C2 cN) : FnOk P w K mg base CX0 1 f fd ["_law_one"] (sp_kind K) := by
  refine A.F.ok sc_law_kind (fun vs H Q E h => ?_) (fun cdv Ar outer s H vs Q E hr h => ?_)
  · obtain ⟨v, o, rfl, _⟩ := h
    rfl
  · obtain ⟨v, o, rfl, hv, ho, k⟩ := h
    refine ⟨_, (pss_cons (ps_if (pt_cmpR op_isN (pv 0) pe_non (nomark _)) (pss_one (ps_ret pe_int)) pss_nil)
      (pss_one (ps_ret (pe_op op_add pe_int (pe_callTy call_int1 (by rfl) T.int_ Boot.«int» (pa_cons (pe_callB call_isiD (by rfl) T.isinstance_ Boot.«isinstance» (pa_cons (pv 0) (pa_cons (pe_bltn rfl T.tuple_ Boot.«tuple» (v := .ty "tuple") rfl) pa_nil))) pa_nil)))))), ?_⟩
    cases ho with
    | non =>
      have := hv.non_eq
      subst this
      exact ⟨_, rfl, rfl, _, rfl, iteT k⟩
    | int n =>
      have := hv.int_eq
      subst this
      exact ⟨_, rfl, rfl, _, rfl, iteF ⟨_, rfl, _, _, _, _, rfl, hv, kit_it, .inr ⟨_, rfl, _, _, rfl, rfl, k⟩⟩⟩
    | recd fs =>
      obtain ⟨r, vs, rfl, _, _⟩ := hv.un
      exact ⟨_, rfl, rfl, _, rfl, iteF ⟨_, rfl, _, _, _, _, rfl, hv, kit_tt, .inr ⟨_, rfl, _, _, rfl, rfl, k⟩⟩⟩
theorem ok_law_same {f fW : Addr} {fd fdW : FuncData} (A : FnAt K mg "_law_same" s_law_same ["_law_found", "_law_due"] f fd) (A_law_whole : FnAt K mg "_law_whole" s_law_whole ["_law_found"] fW fdW) (T : Txt K mg C0 C2 cN) : FnOk P w K mg base CX0 2 f fd ["_law_found", "_law_due"] (sp_same K) := by
  have G_law_whole : FnOk P w K mg base CX0 1 fW fdW _ sp_whole := ok_law_whole A_law_whole T
  refine A.F.ok sc_law_same (fun vs H Q E h => ?_) (fun cdv Ar outer s H vs Q E hr h => ?_)
  · obtain ⟨v, u, o, rfl, _⟩ := h
    rfl
  · obtain ⟨v, u, o, rfl, hv, hu, ho, k⟩ := h
    refine ⟨_, (pss_cons (ps_if (pt_cmpR op_isN (pv 1) pe_non (nomark _)) (pss_one (ps_ret (pe_cmpR op_isN (pv 0) pe_non (nomark _)))) pss_nil)
      (pss_cons (ps_if (pt_not (pt_val (pe_callB call_isiD (by rfl) T.isinstance_ Boot.«isinstance» (pa_cons (pv 1) (pa_cons (pe_bltn rfl T.tuple_ Boot.«tuple» (v := .ty "tuple") rfl) pa_nil))))) (pss_one (ps_ret (pe_and (pe_call G_law_whole (hr.mono (by decide)) rfl A_law_whole.m A_law_whole.F.kp A_law_whole.b .nil pass0 (pa_cons (pv 0) pa_nil)) (pe_one (pe_cmpR op_eq (pv 0) (pv 1) (nomark _)))))) pss_nil)
      (pss_cons (ps_if (PW.pt (pw_or (pt_not (pt_val (pe_callB call_isiD (by rfl) T.isinstance_ Boot.«isinstance» (pa_cons (pv 0) (pa_cons (pe_bltn rfl T.tuple_ Boot.«tuple» (v := .ty "tuple") rfl) pa_nil))))) (pw_or1 (pt_cmpR (op_neD hr.units) (pv 0) (pv 1) (nomark _))))) (pss_one (ps_ret pe_bl)) pss_nil)
      (pss_cons (ps_for PassesOwn.never rfl (pi_tup (pv 0)) (pg_name (i := 2) sc_law_same.nd rfl (Or.inl rfl)) (pss_one (ps_if (PW.pt (pw_or (pt_not (pt_val (pe_callB call_isiD (by rfl) T.isinstance_ Boot.«isinstance» (pa_cons (pv 2) (pa_cons (pe_bltn rfl T.tuple_ Boot.«tuple» (v := .ty "tuple") rfl) pa_nil))))) (pw_or (pt_not (pt_val (pe_callB call_isi (by rfl) T.isinstance_ Boot.«isinstance» (pa_cons (pe_ix ix_tup (pv 2) pe_int (fun _ _ => rfl)) (pa_cons (pe_bltn rfl T.str_ Boot.«str» (v := .ty "str") rfl) pa_nil))))) (pw_or1 (pt_not (pt_val (pe_call G_law_whole (hr.mono (by decide)) rfl A_law_whole.m A_law_whole.F.kp A_law_whole.b .nil pass0 (pa_cons (pe_ix ix_tup (pv 2) pe_int (fun _ _ => rfl)) pa_nil)))))))) (pss_one (ps_ret pe_bl)) pss_nil)))
      (pss_one (ps_ret pe_bl)))))), ?_⟩
    have hg := ho.hgt
    cases ho with
    | non =>
      have := hv.non_eq
      subst this
      have := hu.non_eq
      subst this
      exact ⟨_, rfl, rfl, _, rfl, iteT ⟨_, rfl, rfl, k⟩⟩
    | int n =>
      have := hv.int_eq
      subst this
      have := hu.int_eq
      subst this
      refine ⟨_, rfl, rfl, _, rfl, iteF ⟨_, rfl, _, _, _, _, rfl, hu, kit_it, _, rfl, iteT ⟨_, rfl, n, rfl, _, rfl, iteT ⟨_, rfl, _, rfl, rfl, ?_⟩⟩⟩⟩
      rw [decide_eq_true rfl]
      exact k
    | recd fs =>
      obtain ⟨r, vs, rfl, sv, dv⟩ := hv.un
      obtain ⟨q, ws, rfl, su, du⟩ := hu.un
      refine ⟨_, rfl, rfl, _, rfl, iteF ⟨_, rfl, _, _, _, _, rfl, hu, kit_tt, _, rfl, iteF ⟨_, rfl, _, _, _, _, rfl, hv, kit_tt, _, rfl, iteF ⟨_, rfl, _, rfl, _, _, hv, hu, Nat.le_trans hg (by decide), _, rfl, ?_⟩⟩⟩⟩
      rw [Dt.beq_self]
      refine iteF ?_
      refine ⟨_, rfl, r, rfl, ⟨_, sv⟩, for_tup (K := K) (a := r) (xs := vs) (fun i σ H' => H' = H ∧ ∃ o2, σ = [some (.ref r), some (.ref q), o2]) ⟨rfl, none, rfl⟩ (fun i σ H' _ z => by rw [z.1]; exact sv) ?_ ?_⟩
      · rintro i x σ H' hx ⟨rfl, o2, rfl⟩
        obtain ⟨d1, e1, h1⟩ := dv.get' hx
        obtain ⟨f1, _, rfl⟩ := map_get e1
        obtain ⟨rx, rfl, sx⟩ := DatAt.pair h1
        refine ⟨_, rfl, _, _, _, _, rfl, h1, kit_tt, _, rfl, iteF ?_⟩
        refine ⟨_, rfl, rx, _, 0, .str f1.1, rfl, rfl, sx, rfl, _, _, _, _, rfl, .str _, kit_ss, _, rfl, iteF ?_⟩
        refine ⟨_, rfl, rx, _, 1, .int f1.2, rfl, rfl, sx, rfl, f1.2, rfl, _, rfl, iteF ?_⟩
        exact ⟨rfl, _, rfl⟩
      · rintro σ H' ⟨rfl, o2, rfl⟩
        exact k
theorem kit_ti : PySem.W.kitOne K (.type "tuple") (.type "int") = some false := kit_ff (by decide +kernel) (by decide +kernel) (by decide +kernel)
theorem ok_rank {f : Addr} {fd : FuncData} (A : FnAt K mg "rank" s_rank ["outcome"] f fd) (T : Txt K mg C0 C2 cN) : FnOk P w K mg base CX0 1 f fd ["outcome"] (sp_rank K) := by
  refine A.F.ok sc_rank (fun vs H Q E h => ?_) (fun cdv Ar outer s H vs Q E hr h => ?_)
  · obtain ⟨v, o, rfl, _⟩ := h
    rfl
  · obtain ⟨v, o, rfl, hv, ho, k⟩ := h
    refine ⟨_, (pss_cons (ps_if (pt_cmpR op_isN (pv 0) pe_non (nomark _)) (pss_one (ps_ret (pe_tup (pa_cons pe_int pa_nil)))) pss_nil)
      (pss_cons (ps_if (pt_val (pe_callB call_isiD (by rfl) T.isinstance_ Boot.«isinstance» (pa_cons (pv 0) (pa_cons (pe_bltn rfl T.int_ Boot.«int» (v := .ty "int") rfl) pa_nil)))) (pss_one (ps_ret (pe_tup (pa_cons pe_int (pa_cons (pv 0) pa_nil))))) pss_nil)
      (pss_one (ps_ret (pe_tup (pa_cons pe_int (pa_cons (pv 0) pa_nil))))))), ?_⟩
    cases ho with
    | non =>
      have := hv.non_eq
      subst this
      exact ⟨_, rfl, rfl, _, rfl, iteT ⟨(by show 1 ≤ sizeLine; decide), fun t ht => k _ _ (.upd ht) (.tup (SqT.of upd_same) (.cons (.int 0) .nil))⟩⟩
    | int n =>
      have := hv.int_eq
      subst this
      exact ⟨_, rfl, rfl, _, rfl, iteF ⟨_, rfl, _, _, _, _, rfl, hv, kit_ii, _, rfl, iteT ⟨_, rfl, two_le, fun t ht => k _ _ (.upd ht) (.tup (SqT.of upd_same) (.cons (.int 1) (.cons (.int n) .nil)))⟩⟩⟩
    | recd fs =>
      obtain ⟨r, vs, rfl, h1, h2⟩ := hv.un
      exact ⟨_, rfl, rfl, _, rfl, iteF ⟨_, rfl, _, _, _, _, rfl, hv, kit_ti, _, rfl, iteF ⟨_, rfl, two_le, fun t ht => k _ _ (.upd ht) (.tup (SqT.of upd_same) (.cons (.int 2) (.cons (hv.same (.upd ht)) .nil)))⟩⟩⟩
theorem nd_le : ∀ {l c : List Dt}, l.Nodup → (∀ x ∈ l, x ∈ c) → l.length ≤ c.length
  | [], _, _, _ => Nat.zero_le _
  | x :: l, c, h, m => by
    obtain ⟨c1, c2, rfl⟩ := List.append_of_mem (m x (List.mem_cons_self ..))
    rw [List.nodup_cons] at h
    have := nd_le (c := c1 ++ c2) h.2 fun y hy => by
      have hm := m y (List.mem_cons_of_mem _ hy)
      rcases List.mem_append.mp hm with z | z
      · exact List.mem_append_left _ z
      · rcases List.mem_cons.mp z with z | z
        · subst z; exact absurd hy h.1
        · exact List.mem_append_right _ z
    simp only [List.length_append, List.length_cons] at this ⊢
    omega
set_option maxHeartbeats 2000000 in
theorem ok_in_order {f fR : Addr} {fd fdR : FuncData} (A : FnAt K mg "in_order" s_in_order ["outcomes"] f fd) (A_rank : FnAt K mg "rank" s_rank ["outcome"] fR fdR) (T : Txt K mg C0 C2 cN) : FnOk P w K mg base CX0 4 f fd ["outcomes"] (sp_in_order K) := by
  have G_rank : FnOk P w K mg base CX0 1 fR fdR _ (sp_rank K) := ok_rank A_rank T
  refine A.F.ok sc_in_order (fun vs H Q E h => ?_) (fun cdv Ar outer s H vs Q E hr h => ?_)
  · obtain ⟨a, ws, ds, cov, rfl, _⟩ := h
    rfl
  · obtain ⟨a, ws, ds, cov, rfl, hl, hd, oc, few, hc, cl, k⟩ := h
    refine ⟨_, (pss_cons (ps_set (i := 1) sc_in_order.nd rfl (Or.inl rfl) pe_dnewD)
      (pss_cons (ps_for PassesOwn.never rfl (pi_list (pv 0)) (pg_name (i := 2) sc_in_order.nd rfl (Or.inl rfl)) (pss_one (ps_asg pe_bl (pg_sub (pv 1) (pv 2) (st_dk hr.units)))))
      (pss_one (ps_ret (pe_sortedK G_rank (hr.mono (by decide)) A_rank.b (fun H' v d Q o h q => ⟨v, d, rfl, h, o, q⟩) rfl T.sorted_ Boot.«sorted» (pa_cons (pv 1) pa_nil) (pk_cons (pe_glob rfl A_rank.m (v := .ref fR) rfl) pk_nil)))))), ?_⟩
    have hlen := hd.length
    intro p hp
    refine ⟨_, rfl, a, rfl, ⟨_, (Same.upd hp).seq hl⟩, for_list (K := K) (a := a) (xs := ws) (fun i σ H' => Same H H' ∧ ∃ kvs o2, σ = [some (.ref a), some (.ref p), o2] ∧ DkM K w H' p kvs ∧ ∀ x, x ∈ kvs.map (·.1) ↔ x ∈ ds.take i)
      ⟨.upd hp, [], none, rfl, ⟨upd_same, (fun _ h => nomatch h), (fun _ h => nomatch h), .nil⟩, fun x => by simp⟩ (fun i σ H' _ z => z.1.seq hl) ?_ ?_⟩
    · rintro i x σ H' hx ⟨S1, kvs, o2, rfl, M, mem⟩
      obtain ⟨d, ed, hxd⟩ := (hd.same S1).get' hx
      have dm := List.mem_of_getElem? ed
      have sub : kvs.length ≤ 1000 := by
        have := nd_le M.nd fun y hy => hc y (List.mem_of_mem_take ((mem y).mp hy))
        rw [List.length_map] at this
        omega
      refine ⟨_, rfl, _, rfl, p, kvs, d, rfl, M, sub, hxd, oc d dm, ?_⟩
      refine ⟨fun b o e => ?_, _, _, rfl, M.put hxd (oc d dm), fun y => ?_⟩
      · rw [upd_ne (ne_of_none e hp)]
        exact S1 _ _ e
      · rw [putD_keys, take_snoc' ed]
        split
        · rename_i hh
          have hm := (mem d).mp (hasD_iff.mp hh)
          rw [mem y, List.mem_append, List.mem_singleton]
          exact ⟨.inl, fun z => z.elim (fun z => z) fun z => z ▸ hm⟩
        · rw [List.mem_append, List.mem_append, mem y]
    · rintro σ H' ⟨S1, kvs, o2, rfl, M, mem⟩
      rw [List.take_of_length_le (by omega)] at mem
      have sub : kvs.length < 64 := by
        have := nd_le M.nd fun y hy => hc y ((mem y).mp hy)
        rw [List.length_map] at this
        omega
      refine ⟨_, rfl, p, kvs, rfl, rfl, M, sub, fun D H2 es S2 hD pm srt at2 => ?_⟩
      refine k (es.map (·.1)) srt (fun x => ?_) D H2 (S1.trans S2) (S1.free hD) ⟨_, at2, dk_dats fun x hx => (M.dat x (pm.mem_iff.mp hx)).same S2⟩
      rw [← mem x]
      exact (pm.map _).mem_iff
theorem drop_at {α : Type} {xs : List α} {i : Nat} {x : α} (h : xs[i]? = some x) : xs.drop i = x :: xs.drop (i + 1) := by
  obtain ⟨hi, e⟩ := List.getElem?_eq_some_iff.mp h
  rw [← e]
  exact List.drop_eq_getElem_cons hi
theorem pair_lt (f g : Str × Int) : Dt.lt (L2.pairD f) (L2.pairD g) = if f.1 = g.1 then (if f.2 = g.2 then false else decide (f.2 < g.2)) else decide (f.1.cps.toList < g.1.cps.toList) := by
  by_cases h1 : f.1 = g.1
  · rw [if_pos h1]
    have b1 : Dt.beq (.str f.1) (.str g.1) = true := (Dt.beq_iff _ _).mpr (by rw [h1])
    by_cases h2 : f.2 = g.2
    · have b2 : Dt.beq (.int f.2) (.int g.2) = true := (Dt.beq_iff _ _).mpr (by rw [h2])
      simp [L2.pairD, Dt.lt, Dt.lts, b1, b2, h2]
    · have b2 : Dt.beq (.int f.2) (.int g.2) = false := Dt.beq_ne fun z => h2 (Dt.int.inj z)
      simp [L2.pairD, Dt.lt, Dt.lts, b1, b2, h2]
  · rw [if_neg h1]
    have b1 : Dt.beq (.str f.1) (.str g.1) = false := Dt.beq_ne fun z => h1 (Dt.str.inj z)
    simp [L2.pairD, Dt.lt, Dt.lts, b1]
set_option maxHeartbeats 2000000 in
theorem ok_law_before {f fK : Addr} {fd fdK : FuncData} (A : FnAt K mg "_law_before" s_law_before ["_law_one", "_law_other"] f fd) (A_law_kind : FnAt K mg "_law_kind" s_law_kind ["_law_one"] fK fdK) (T : Txt K mg C0 C2 cN) : FnOk P w K mg base CX0 2 f fd ["_law_one", "_law_other"] (sp_before K) := by
  have G_law_kind : FnOk P w K mg base CX0 1 fK fdK _ (sp_kind K) := ok_law_kind A_law_kind T
  refine A.F.ok sc_law_before (fun vs H Q E h => ?_) (fun cdv Ar outer s H vs Q E hr h => ?_)
  · obtain ⟨v, u, o, p, rfl, _⟩ := h
    rfl
  · obtain ⟨v, u, o, p, rfl, hv, hu, ho, hp, k⟩ := h
    refine ⟨_, (pss_cons (ps_if (pt_cmpR op_ne (pe_call G_law_kind (hr.mono (by decide)) rfl A_law_kind.m A_law_kind.F.kp A_law_kind.b .nil pass0 (pa_cons (pv 0) pa_nil)) (pe_call G_law_kind (hr.mono (by decide)) rfl A_law_kind.m A_law_kind.F.kp A_law_kind.b .nil pass0 (pa_cons (pv 1) pa_nil)) (nomark _)) (pss_one (ps_ret (pe_cmpR op_lt (pe_call G_law_kind (hr.mono (by decide)) rfl A_law_kind.m A_law_kind.F.kp A_law_kind.b .nil pass0 (pa_cons (pv 0) pa_nil)) (pe_call G_law_kind (hr.mono (by decide)) rfl A_law_kind.m A_law_kind.F.kp A_law_kind.b .nil pass0 (pa_cons (pv 1) pa_nil)) (nomark _)))) pss_nil)
      (pss_cons (ps_if (pt_cmpR op_lt (pe_call G_law_kind (hr.mono (by decide)) rfl A_law_kind.m A_law_kind.F.kp A_law_kind.b .nil pass0 (pa_cons (pv 0) pa_nil)) pe_int (nomark _)) (pss_one (ps_ret (pe_and (pe_cmpR op_notN (pv 0) pe_non (nomark _)) (pe_one (pe_cmpR op_lt (pv 0) (pv 1) (nomark _)))))) pss_nil)
      (pss_cons (ps_for PassesOwn.never rfl (pi_zipT rfl T.zip_ (pa_cons (pv 0) (pa_cons (pv 1) pa_nil))) (pg_tup rfl (pgs_cons (pg_name (i := 2) sc_law_before.nd rfl (Or.inl rfl)) (pgs_cons (pg_name (i := 3) sc_law_before.nd rfl (Or.inl rfl)) pgs_nil))) (pss_cons (ps_if (pt_cmpR op_ne (pe_ix ix_tup (pv 2) pe_int (fun _ _ => rfl)) (pe_ix ix_tup (pv 3) pe_int (fun _ _ => rfl)) (nomark _)) (pss_one (ps_ret (pe_cmpR op_lt_str (pe_ix ix_tup (pv 2) pe_int (fun _ _ => rfl)) (pe_ix ix_tup (pv 3) pe_int (fun _ _ => rfl)) (nomark _)))) pss_nil)
      (pss_one (ps_if (pt_cmpR op_ne (pe_ix ix_tup (pv 2) pe_int (fun _ _ => rfl)) (pe_ix ix_tup (pv 3) pe_int (fun _ _ => rfl)) (nomark _)) (pss_one (ps_ret (pe_cmpR op_lt (pe_ix ix_tup (pv 2) pe_int (fun _ _ => rfl)) (pe_ix ix_tup (pv 3) pe_int (fun _ _ => rfl)) (nomark _)))) pss_nil))))
      (pss_one (ps_ret (pe_cmpR op_lt (pe_callB call_len_seq (by rfl) T.len_ Boot.«len» (pa_cons (pv 0) pa_nil)) (pe_callB call_len_seq (by rfl) T.len_ Boot.«len» (pa_cons (pv 1) pa_nil)) (nomark _))))))), ?_⟩
    refine ⟨_, rfl, v, o, rfl, hv, ho, _, rfl, u, p, rfl, hu, hp, rfl, _, rfl, iteBB (fun hc => ?_) (fun hc => ?_)⟩
    · have hk : kdN o ≠ kdN p := by simpa using hc
      have kk := k H (.refl _)
      rw [oc_lt ho hp, if_neg hk] at kk
      exact ⟨_, rfl, v, o, rfl, hv, ho, _, rfl, u, p, rfl, hu, hp, _, _, rfl, rfl, kk⟩
    have hk : kdN o = kdN p := by simpa using hc
    refine ⟨_, rfl, v, o, rfl, hv, ho, _, _, rfl, rfl, _, rfl, iteBB (fun h2 => ?_) (fun h2 => ?_)⟩
    · have h2' : kdN o < 2 := by simpa using h2
      cases ho with
      | non =>
        have := hv.non_eq
        subst this
        cases hp with
        | int m => exact absurd hk (show ¬ (0 : Int) = 1 by decide)
        | recd gs => exact absurd hk (show ¬ (0 : Int) = 2 by decide)
        | non =>
          have kk := k H (.refl _)
          rw [Dt.lt_self] at kk
          exact ⟨_, rfl, rfl, _, rfl, iteF kk⟩
      | int n =>
        cases hp with
        | non => exact absurd hk (show ¬ (1 : Int) = 0 by decide)
        | recd gs => exact absurd hk (show ¬ (1 : Int) = 2 by decide)
        | int m =>
          have := hv.int_eq
          subst this
          have := hu.int_eq
          subst this
          have kk := k H (.refl _)
          have el : Dt.lt (.int n) (.int m) = decide (n < m) := by simp [Dt.lt]
          rw [el] at kk
          exact ⟨_, rfl, rfl, _, rfl, iteT ⟨_, rfl, _, rfl, _, _, rfl, rfl, kk⟩⟩
      | recd fs => exact absurd h2' (show ¬ (2 : Int) < 2 by decide)
    · have h2' : ¬ kdN o < 2 := by simpa using h2
      cases ho with
      | non => exact absurd (show (0 : Int) < 2 by decide) h2'
      | int n => exact absurd (show (1 : Int) < 2 by decide) h2'
      | recd fs =>
        cases hp with
        | non => exact absurd hk (show ¬ (2 : Int) = 0 by decide)
        | int m => exact absurd hk (show ¬ (2 : Int) = 1 by decide)
        | recd gs =>
          obtain ⟨r, vs, rfl, sv, dv⟩ := hv.un
          obtain ⟨q, ws, rfl, su, du⟩ := hu.un
          have lv := dv.length
          have lu := du.length
          have e0 : Dt.lt (.tup (fs.map L2.pairD)) (.tup (gs.map L2.pairD)) = Dt.lts (fs.map L2.pairD) (gs.map L2.pairD) := by simp [Dt.lt]
          rw [e0] at k
          refine ⟨_, rfl, _, rfl, r, q, rfl, ⟨_, sv⟩, ⟨_, su⟩, for_zipT (K := K) (a := r) (b := q) (xs := vs) (ys := ws) (fun i σ H' => Same H H' ∧ Dt.lts (fs.map L2.pairD) (gs.map L2.pairD) = Dt.lts ((fs.map L2.pairD).drop i) ((gs.map L2.pairD).drop i) ∧ ∃ o2 o3, σ = [some (.ref r), some (.ref q), o2, o3]) ⟨.refl _, rfl, none, none, rfl⟩
            (fun i σ H' _ z => ⟨z.1.tup sv, z.1.tup su⟩) ?_ ?_⟩
          · rintro i x y σ H' t hx hy ⟨S1, el, o2, o3, rfl⟩ ht
            obtain ⟨d1, e1, h1⟩ := (dv.same S1).get' hx
            obtain ⟨d2, e2, h3⟩ := (du.same S1).get' hy
            rw [drop_at e1, drop_at e2, Dt.lts_cons] at el
            obtain ⟨f1, _, rfl⟩ := map_get e1
            obtain ⟨f2, _, rfl⟩ := map_get e2
            obtain ⟨rx, rfl, sx⟩ := DatAt.pair h1
            obtain ⟨ry, rfl, sy⟩ := DatAt.pair h3
            refine ⟨t, _, rfl, SqT.of upd_same, rfl, _, _, rfl, _, _, rfl, rfl, ?_⟩
            have S2 : Same H' (upd H' t (.tup [.ref rx, .ref ry])) := .upd ht
            have sx2 := S2.tup sx
            have sy2 := S2.tup sy
            generalize upd H' t (HO.tup [V.ref rx, V.ref ry]) = H2 at S2 sx2 sy2
            refine ⟨_, rfl, rx, _, 0, .str f1.1, rfl, rfl, sx2, rfl, _, rfl, ry, _, 0, .str f2.1, rfl, rfl, sy2, rfl, rfl, _, rfl, iteBB (fun c1 => ?_) (fun c1 => ?_)⟩
            · have n1 : f1.1 ≠ f2.1 := by simpa using c1
              have nb : ¬ Dt.beq (L2.pairD f1) (L2.pairD f2) = true := fun z => n1 (by
                have := (Dt.beq_iff _ _).mp z
                simp [L2.pairD] at this
                exact this.1)
              have kk := k H2 (S1.trans S2)
              rw [el, if_neg nb, pair_lt, if_neg n1] at kk
              exact ⟨_, rfl, rx, _, 0, .str f1.1, rfl, rfl, sx2, rfl, _, rfl, ry, _, 0, .str f2.1, rfl, rfl, sy2, rfl, _, _, rfl, rfl, kk⟩
            · have n1 : f1.1 = f2.1 := by simpa using c1
              refine ⟨_, rfl, rx, _, 1, .int f1.2, rfl, rfl, sx2, rfl, _, rfl, ry, _, 1, .int f2.2, rfl, rfl, sy2, rfl, rfl, _, rfl, iteBB (fun c2 => ?_) (fun c2 => ?_)⟩
              · have n2 : f1.2 ≠ f2.2 := by simpa using c2
                have nb : ¬ Dt.beq (L2.pairD f1) (L2.pairD f2) = true := fun z => n2 (by
                  have := (Dt.beq_iff _ _).mp z
                  simp [L2.pairD] at this
                  exact this.2)
                have kk := k H2 (S1.trans S2)
                rw [el, if_neg nb, pair_lt, if_pos n1, if_neg n2] at kk
                exact ⟨_, rfl, rx, _, 1, .int f1.2, rfl, rfl, sx2, rfl, _, rfl, ry, _, 1, .int f2.2, rfl, rfl, sy2, rfl, _, _, rfl, rfl, kk⟩
              · have n2 : f1.2 = f2.2 := by simpa using c2
                have yb : Dt.beq (L2.pairD f1) (L2.pairD f2) = true := (Dt.beq_iff _ _).mpr (by unfold L2.pairD; rw [n1, n2])
                rw [if_pos yb] at el
                exact ⟨S1.trans S2, el, _, _, rfl⟩
          · rintro σ H' ⟨S1, el, o2, o3, rfl⟩
            have kk := k H' S1
            have fin : Dt.lts (fs.map L2.pairD) (gs.map L2.pairD) = decide ((vs.length : Int) < (ws.length : Int)) := by
              rw [el, lv, lu]
              rcases Nat.lt_trichotomy (fs.map L2.pairD).length (gs.map L2.pairD).length with c | c | c
              · rw [Nat.min_eq_left (Nat.le_of_lt c), List.drop_length]
                obtain ⟨y, ys, e⟩ := List.exists_cons_of_length_pos (l := (gs.map L2.pairD).drop (fs.map L2.pairD).length) (by rw [List.length_drop]; omega)
                rw [e, decide_eq_true (by omega)]
                simp [Dt.lts]
              · rw [← c, Nat.min_self, List.drop_length, c, List.drop_length, decide_eq_false (by omega)]
                simp [Dt.lts]
              · rw [Nat.min_eq_right (Nat.le_of_lt c), List.drop_length (l := gs.map L2.pairD)]
                obtain ⟨y, ys, e⟩ := List.exists_cons_of_length_pos (l := (fs.map L2.pairD).drop (gs.map L2.pairD).length) (by rw [List.length_drop]; omega)
                rw [e, decide_eq_false (by omega)]
                simp [Dt.lts]
            rw [fin] at kk
            exact ⟨_, rfl, r, _, rfl, .inr (S1.tup sv), _, rfl, q, _, rfl, .inr (S1.tup su), _, _, rfl, rfl, kk⟩
end
end K09
namespace K09
open PySem L2 FW PyProof.Rows
section
variable {P : Program} {w : World} {K : PySem.W.Frag} {mg : Str → Option Value} {base : Heap} {C0 C2 cN : Addr}
def wOf (rows : List (Dt × Int)) (o : Dt) : Int := sumW (rows.filter fun r => Dt.beq r.1 o)
theorem wOf_snoc (rows : List (Dt × Int)) (r : Dt × Int) (o : Dt) : wOf (rows ++ [r]) o = wOf rows o + (if Dt.beq r.1 o = true then r.2 else 0) := by
  unfold wOf
  rw [List.filter_append, sumW_append]
  cases h : Dt.beq r.1 o with
  | true =>
    have e : [r].filter (fun r => Dt.beq r.1 o) = [r] := by simp [List.filter, h]
    rw [e, if_pos rfl, sumW_cons, sumW_nil]
    omega
  | false =>
    have e : [r].filter (fun r => Dt.beq r.1 o) = [] := by simp [List.filter, h]
    rw [e, if_neg Bool.false_ne_true, sumW_nil]
theorem wOf_bd : ∀ {rows : List (Dt × Int)} (o : Dt), (∀ r ∈ rows, 0 ≤ r.2) → 0 ≤ wOf rows o ∧ wOf rows o ≤ sumW rows
  | [], o, _ => ⟨Int.le_refl 0, Int.le_refl 0⟩
  | r :: rows, o, h => by
    have ih := wOf_bd (rows := rows) o fun q hq => h q (List.mem_cons_of_mem _ hq)
    have h0 := h r (List.mem_cons_self ..)
    unfold wOf at ih ⊢
    rw [sumW_cons, List.filter_cons]
    split
    · rw [sumW_cons]
      omega
    · omega
theorem wOf_none {rows : List (Dt × Int)} {o : Dt} (h : o ∉ rows.map (·.1)) : wOf rows o = 0 := by
  unfold wOf
  have : rows.filter (fun r => Dt.beq r.1 o) = [] := List.filter_eq_nil_iff.mpr fun r hr z => h (List.mem_map.mpr ⟨r, hr, (Dt.beq_iff _ _).mp z⟩)
  rw [this]
  rfl
theorem putD_val {α : Type} {ks : List (Dt × α × α)} {k : Dt} {key v : α} {x : Dt × α × α} (h : x ∈ putD ks k key v) : (x ∈ ks ∧ x.1 ≠ k) ∨ (x.1 = k ∧ x.2.2 = v) := by
  unfold putD at h
  split at h
  · obtain ⟨y, hy, rfl⟩ := List.mem_map.mp h
    split
    · rename_i hb
      exact .inr ⟨(Dt.beq_iff _ _).mp hb, rfl⟩
    · rename_i hb
      exact .inl ⟨hy, fun z => hb ((Dt.beq_iff _ _).mpr z)⟩
  · rename_i hn
    rcases List.mem_append.mp h with h | h
    · exact .inl ⟨h, fun z => hn (hasD_iff.mpr (List.mem_map.mpr ⟨x, h, z⟩))⟩
    · cases List.mem_singleton.mp h
      exact .inr ⟨rfl, rfl⟩
def gath (S : Int) (rows : List (Dt × Int)) (es : List Dt) : List (Dt × Int) := (es.filter fun o => !decide (wOf rows o = 0)).map fun o => (o, wOf rows o)
def sp_gathered (K : PySem.W.Frag) : Sp := fun vs H Q _ => ∃ a ws rows S, ∃ cov : List Dt, vs = [.ref a] ∧ SqL K H a ws ∧ DatsAt K H ws (rows.map (parD S)) ∧ Sc S rows ∧ (∀ r ∈ rows, Oc r.1) ∧ rows.length ≤ 1000 ∧ (∀ r ∈ rows, r.1 ∈ cov) ∧ cov.length < 64 ∧
  ∀ es, Srt es → (∀ x, x ∈ es ↔ x ∈ rows.map (·.1)) → lstQ K H Q ((gath S rows es).map (parD S))
set_option maxHeartbeats 4000000 in
theorem ok_gathered {f fP fG fO fR : Addr} {fd fdP fdG fdO fdR : FuncData} (A : FnAt K mg "gathered" s_gathered ["pairs"] f fd) (A_plus : FnAt K mg "plus" s_plus ["one", "other"] fP fdP) (A_greatest_divisor : FnAt K mg "greatest_divisor" s_greatest_divisor ["one", "other"] fG fdG)
    (A_in_order : FnAt K mg "in_order" s_in_order ["outcomes"] fO fdO) (A_rank : FnAt K mg "rank" s_rank ["outcome"] fR fdR) (T : Txt K mg C0 C2 cN) : FnOk P w K mg base CX0 5 f fd ["pairs"] (sp_gathered K) := by
  have G_plus : FnOk P w K mg base CX0 2 fP fdP _ (sp_plus K) := ok_plus A_plus A_greatest_divisor T
  have G_in_order : FnOk P w K mg base CX0 4 fO fdO _ (sp_in_order K) := ok_in_order A_in_order A_rank T
  refine A.F.ok sc_gathered (fun vs H Q E h => ?_) (fun cdv Ar outer s H vs Q E hr h => ?_)
  · obtain ⟨a, ws, rows, S, cov, rfl, _⟩ := h
    rfl
  · obtain ⟨a, ws, rows, S, cov, rfl, hl, hd, sc, oc, few, hc, cl, k⟩ := h
    refine ⟨_, (pss_cons (ps_set (i := 1) sc_gathered.nd rfl (Or.inr rfl) pe_dnewD)
      (pss_cons (ps_for PassesOwn.never rfl (pi_list (pv 0)) (pg_tup rfl (pgs_cons (pg_name (i := 2) sc_gathered.nd rfl (Or.inl rfl)) (pgs_cons (pg_name (i := 3) sc_gathered.nd rfl (Or.inl rfl)) pgs_nil))) (pss_one (ps_asg (pe_call G_plus (hr.mono (by decide)) rfl A_plus.m A_plus.F.kp A_plus.b .nil pass0 (pa_cons (pe_bmD PySem.F.slot_dict_get PySem.F.type_dict_get (mt_getD hr.units) (pv 1) (pa_cons (pv 2) (pa_cons (pe_glob rfl T.NOUGHT (v := .ref cN) rfl) pa_nil))) (pa_cons (pv 3) pa_nil))) (pg_sub (pv 1) (pv 2) (st_dk hr.units)))))
      (pss_one (ps_ret (pe_comp rfl (Nc := ["outcome", "shares"]) (caps1 1 1 [(".0", .local), ("outcome", .local), ("NOUGHT", .globalImplicit), ("shares", .cell)] rfl rfl rfl (by decide +kernel) (by decide +kernel) rfl (by decide +kernel) rfl rfl rfl rfl) (pi_list (pe_call G_in_order (hr.mono (by decide)) rfl A_in_order.m A_in_order.F.kp A_in_order.b .nil pass0 (pa_cons (pe_callTy (call_listD rfl) (by rfl) T.list_ Boot.«list» (pa_cons (pv 1) pa_nil)) pa_nil))) (fun _ _ _ _ => (pg_name (i := 0) (show List.Nodup (["outcome", "shares"] : List Str) by decide +kernel) rfl (Or.inl rfl))) (fun _ _ _ _ => by exact (pts_one (pt_cmpR (op_neDK (K := K) rfl hr.units) (pe_ix (ix_dkK (K := K) (w := w) rfl rfl hr.units) (pv 1) (pv 0) (fun _ _ => rfl)) (pe_glob rfl T.NOUGHT (v := .ref cN) rfl) (nomark _)))) (fun _ _ _ _ => by exact (pe_tup (pa_cons (pv 0) (pa_cons (pe_ix (ix_dkK (K := K) (w := w) rfl rfl hr.units) (pv 1) (pv 0) (fun _ _ => rfl)) pa_nil))))))))), ?_⟩
    have hlen := hd.length
    rw [List.length_map] at hlen
    intro p hp
    refine ⟨_, rfl, a, rfl, ⟨_, (Same.upd hp).seq hl⟩, for_list (K := K) (a := a) (xs := ws) (fun i σ H' => Same H H' ∧ ∃ kvs o2 o3, σ = [some (.ref a), some (.ref p), o2, o3] ∧ DkM K w H' p kvs ∧ (∀ x, x ∈ kvs.map (·.1) ↔ x ∈ (rows.take i).map (·.1)) ∧ ∀ x ∈ kvs, DatAt K H' x.2.2 (frD (low (wOf (rows.take i) x.1) S)))
      ⟨.upd hp, [], none, none, rfl, ⟨upd_same, (fun _ h => nomatch h), (fun _ h => nomatch h), .nil⟩, fun x => by simp, fun _ h => nomatch h⟩ (fun i σ H' _ z => z.1.seq hl) ?_ ?_⟩
    · rintro i x σ H' hx ⟨S1, kvs, o2, o3, rfl, M, mem, dat⟩
      obtain ⟨d, ed, hxd⟩ := (hd.same S1).get' hx
      obtain ⟨r, er, rfl⟩ := map_get ed
      obtain ⟨q, va, vb, rfl, h1, h2, h3⟩ := DatAt.pr (p := (r.1, frD (low r.2 S))) hxd
      have rm := List.mem_of_getElem? er
      have sub : kvs.length ≤ 1000 := by
        have := nd_le M.nd fun y hy => by
          obtain ⟨r', hr', e'⟩ := List.mem_map.mp ((mem y).mp hy)
          rw [← e']
          exact hc r' (List.mem_of_mem_take hr')
        rw [List.length_map] at this
        omega
      have hr2 := sc.nn r rm
      have nnT : ∀ r ∈ rows.take i, 0 ≤ r.2 := fun r hr => sc.nn r (List.mem_of_mem_take hr)
      have b0 := wOf_bd (rows := rows.take i) r.1 nnT
      have b1 := sumW_take sc.nn i
      have b2 := sumW_mem sc.nn r rm
      have t := sc.top
      have m1 := low_sm b0.1 (Int.le_trans b0.2 (Int.le_trans b1.2 t)) sc.pos sc.big
      have m2 := low_sm hr2 (Int.le_trans b2 t) sc.pos sc.big
      refine ⟨q, _, rfl, h1, rfl, _, _, rfl, _, _, rfl, rfl, ?_⟩
      refine ⟨_, rfl, ⟨p, kvs, rfl, M⟩, _, rfl, p, kvs, _, _, r.1, rfl, rfl, M, h2, oc r rm, fun j e ej ek => ?_, fun no => ?_⟩
      · have hu : DatAt K H' e.2.2 (frD (low (wOf (rows.take i) r.1) S)) := ek ▸ dat e (List.mem_of_getElem? ej)
        generalize e.2.2 = u at hu
        obtain ⟨ru, rfl, su⟩ := hu.fr
        obtain ⟨rs, rfl, ss⟩ := DatAt.fr (p := low r.2 S) h3
        refine ⟨_, rfl, ru, rs, _, _, _, _, rfl, su, ss, (low_Low sc.pos).pos, (low_Low sc.pos).pos, m1.1, m1.2, m2.1, m2.2, fun r1 H2 S2 hr1 => ?_⟩
        rw [plus_low sc.pos] at hr1
        have M2 := M.same S2
        refine ⟨_, rfl, _, rfl, p, kvs, r.1, rfl, M2, sub, h2.same S2, oc r rm, ?_⟩
        refine ⟨fun b o e => ?_, _, _, _, rfl, M2.put (h2.same S2) (oc r rm), fun y => ?_, fun x hx => ?_⟩
        · rw [upd_ne (ne_of_none e hp)]
          exact S2 _ _ (S1 _ _ e)
        · rw [putD_keys, take_snoc' er, List.map_append, List.mem_append]
          split
          · rename_i hh
            have hm := (mem r.1).mp (hasD_iff.mp hh)
            rw [mem y]
            exact ⟨.inl, fun z => z.elim (fun z => z) fun z => (List.mem_singleton.mp z) ▸ hm⟩
          · rw [List.mem_append, mem y]
            rfl
        · refine DatAt.updX (show H2 p = some (.ext _) from M2.at_) ?_
          rw [take_snoc' er, wOf_snoc]
          rcases putD_val hx with ⟨hx1, hx2⟩ | ⟨hx1, hx2⟩
          · rw [if_neg (fun z => hx2 ((Dt.beq_iff _ _).mp z).symm), Int.add_zero]
            exact (dat x hx1).same S2
          · rw [hx1, hx2, if_pos (Dt.beq_self _)]
            exact datAt_fr (SqT.of hr1)
      · have hu : DatAt K H' (.ref cN) (frD (low (wOf (rows.take i) r.1) S)) := by
          rw [wOf_none fun z => no ((mem _).mpr z), low_zero sc.pos]
          exact datAt_fr (T.nought H')
        generalize (V.ref cN) = u at hu
        obtain ⟨ru, rfl, su⟩ := hu.fr
        obtain ⟨rs, rfl, ss⟩ := DatAt.fr (p := low r.2 S) h3
        refine ⟨_, rfl, ru, rs, _, _, _, _, rfl, su, ss, (low_Low sc.pos).pos, (low_Low sc.pos).pos, m1.1, m1.2, m2.1, m2.2, fun r1 H2 S2 hr1 => ?_⟩
        rw [plus_low sc.pos] at hr1
        have M2 := M.same S2
        refine ⟨_, rfl, _, rfl, p, kvs, r.1, rfl, M2, sub, h2.same S2, oc r rm, ?_⟩
        refine ⟨fun b o e => ?_, _, _, _, rfl, M2.put (h2.same S2) (oc r rm), fun y => ?_, fun x hx => ?_⟩
        · rw [upd_ne (ne_of_none e hp)]
          exact S2 _ _ (S1 _ _ e)
        · rw [putD_keys, take_snoc' er, List.map_append, List.mem_append]
          split
          · rename_i hh
            have hm := (mem r.1).mp (hasD_iff.mp hh)
            rw [mem y]
            exact ⟨.inl, fun z => z.elim (fun z => z) fun z => (List.mem_singleton.mp z) ▸ hm⟩
          · rw [List.mem_append, mem y]
            rfl
        · refine DatAt.updX (show H2 p = some (.ext _) from M2.at_) ?_
          rw [take_snoc' er, wOf_snoc]
          rcases putD_val hx with ⟨hx1, hx2⟩ | ⟨hx1, hx2⟩
          · rw [if_neg (fun z => hx2 ((Dt.beq_iff _ _).mp z).symm), Int.add_zero]
            exact (dat x hx1).same S2
          · rw [hx1, hx2, if_pos (Dt.beq_self _)]
            exact datAt_fr (SqT.of hr1)
    · rintro σ H1 ⟨S1, kvs, o2, o3, rfl, M, mem, dat⟩
      rw [List.take_of_length_le (by omega)] at mem dat
      have memc : ∀ y ∈ kvs.map (·.1), y ∈ cov := fun y hy => by
        obtain ⟨r', hr', e'⟩ := List.mem_map.mp ((mem y).mp hy)
        rw [← e']
        exact hc r' hr'
      have sub : kvs.length < 64 := by
        have := nd_le M.nd memc
        rw [List.length_map] at this
        omega
      refine ⟨_, rfl, p, kvs, rfl, M, by omega, fun D1 hD1 => ?_⟩
      have T1 := Same.upd (o := .lst (kvs.map (·.2.1))) hD1
      have e1 : (upd H1 D1 (.lst (kvs.map (·.2.1)))) D1 = some (.lst (kvs.map (·.2.1))) := upd_same
      generalize upd H1 D1 (.lst (kvs.map (·.2.1))) = H2 at T1 e1
      have M2 := M.same T1
      refine ⟨D1, _, kvs.map (·.1), cov, rfl, SqL.of e1, dk_dats M2.dat, fun d hd => ?_, by rw [List.length_map]; omega, memc, cl, fun es srt memE D2 H3 S3 hD2 ls2 => ?_⟩
      · obtain ⟨x, hx, rfl⟩ := List.mem_map.mp hd
        exact M.oc x hx
      have M3 := M2.same S3
      have dat3 : ∀ x ∈ kvs, DatAt K H3 x.2.2 (frD (low (wOf rows x.1) S)) := fun x hx => (dat x hx).same (T1.trans S3)
      obtain ⟨w2, e2, d2⟩ := ls2
      have l2 := d2.length
      have lE : es.length ≤ cov.length := nd_le (srt.imp fun {x y} h z => by rw [z, Dt.lt_self] at h; cases h) fun x hx => memc x ((memE x).mp hx)
      have ocE : ∀ d ∈ es, Oc d := fun d hd => by
        obtain ⟨x, hx, rfl⟩ := List.mem_map.mp ((memE d).mp hd)
        exact M.oc x hx
      refine ⟨D2, rfl, ⟨_, SqL.of e2⟩, fun D hD => ?_⟩
      refine comp_list (K := K) (a := D2) (D := D) (xs := w2) (fun i σ ys H' => (∃ o1, σ = [o1, some (.ref p)]) ∧ Same H3 H' ∧ H' D = some (.lst ys) ∧ DatsAt K H' ys ((gath S rows (es.take i)).map (parD S)))
        ⟨⟨none, rfl⟩, .upd hD, upd_same, .nil⟩ ?_ ?_ ?_
      · rintro i σ ys H' hi ⟨_, S4, eD, hy⟩
        have e3 := hy.length
        unfold gath at e3
        rw [List.length_map, List.length_map] at e3
        have e4 := List.length_filter_le (fun o => !decide (wOf rows o = 0)) (es.take i)
        rw [List.length_take] at e4
        exact ⟨SqL.of (S4 _ _ e2), eD, Nat.lt_of_le_of_lt (show ys.length ≤ 1000 by omega) (by decide)⟩
      · rintro i x σ ys H' hx ⟨⟨o1, rfl⟩, S4, eD, hy⟩ N hN
        obtain ⟨d, ed, hxd⟩ := (d2.same S4).get' hx
        have dm := List.mem_of_getElem? ed
        obtain ⟨kv, hkv, ekv⟩ := List.mem_map.mp ((memE d).mp dm)
        obtain ⟨j, hj⟩ := List.getElem?_of_mem hkv
        have M4 := M3.same S4
        have hval : DatAt K H' kv.2.2 (frD (low (wOf rows d) S)) := by
          rw [← ekv]
          exact (dat3 kv hkv).same S4
        refine ⟨_, rfl, _, rfl, p, kvs, d, j, kv, rfl, M4, hxd, ocE d dm, hj, ekv, ?_⟩
        refine ⟨_, _, hval, datAt_fr (p := (0, 1)) (T.nought H'), Nat.le_trans (hgt_frD _) (by decide), _, rfl, iteBB (fun hc2 => ?_) (fun hc2 => ?_)⟩
        · have nz : wOf rows d ≠ 0 := fun z => by
            rw [z, low_zero sc.pos, Dt.beq_self] at hc2
            cases hc2
          refine ⟨_, rfl, _, rfl, _, rfl, p, kvs, d, j, kv, rfl, M4, hxd, ocE d dm, hj, ekv, two_le, fun t ht => ?_⟩
          have S5 : Same H' (upd H' t (.tup [x, kv.2.2])) := .upd ht
          have e5 := S5 _ _ eD
          refine ⟨e5, hN _ _ _ ?_⟩
          obtain ⟨w1, w2', w3⟩ := snoc_ok (v := .ref t) (d := parD S (d, wOf rows d)) hD (S4.trans S5) e5 (hy.same S5) (datAt_pr (p := (d, frD (low (wOf rows d) S))) (SqT.of upd_same) (hxd.same S5) (hval.same S5))
          refine ⟨⟨_, rfl⟩, w1, w2', ?_⟩
          unfold gath
          rw [take_snoc' ed, List.filter_append, List.map_append, List.map_append]
          have ef : [d].filter (fun o => !decide (wOf rows o = 0)) = [d] := by simp [List.filter, nz]
          rw [ef]
          exact w3
        · have nz : wOf rows d = 0 := by
            have : Dt.beq (frD (low (wOf rows d) S)) (frD (0, 1)) = true := by simpa using hc2
            exact low_is_zero sc.pos (frD_inj ((Dt.beq_iff _ _).mp this))
          refine hN _ _ _ ⟨⟨_, rfl⟩, S4, eD, ?_⟩
          unfold gath
          rw [take_snoc' ed, List.filter_append]
          have ef : [d].filter (fun o => !decide (wOf rows o = 0)) = [] := by simp [List.filter, nz]
          rw [ef, List.append_nil]
          exact hy
      · rintro σ ys H' ⟨_, S4, eD, hy⟩
        rw [List.take_of_length_le (by omega)] at hy
        have ST := ((S1.trans T1).trans S3)
        exact k es srt (fun x => (memE x).trans (mem x)) D H' (ST.trans S4) (ST.free hD) ⟨ys, eD, hy⟩
def sp_share (K : PySem.W.Frag) : Sp := fun vs H Q _ => ∃ n, vs = [.int n] ∧ Builtin.Int.intBits n ≤ 2 ^ 20 ∧ ∀ W : Int, 0 ≤ W → W ≤ 10 ^ 18 * S0 → datQ K H Q (frD (low W S0))
structure Lw (rows : List (Dt × Int)) : Prop where
  oc : ∀ r ∈ rows, Oc r.1
  nn : ∀ r ∈ rows, 0 ≤ r.2
  srt : Srt (rows.map (·.1))
/-- a while that counts -/
theorem while_nat {c : TT} {tb : TS} {D : Ends} {σ : L2.St} {H : Hp} (Pv : Nat → L2.St → Hp → Prop) (Xv : L2.St → Hp → Prop) (n : Nat) (h0 : Pv 0 σ H)
    (hs : ∀ i σ H, i ≤ n → Pv i σ H → ∀ R : (L2.St → Hp → Prop) → Prop, (i < n → R (Pv (i + 1))) → ∀ Y : L2.St → Hp → Prop, (∀ σ H, Xv σ H → Y σ H) →
      c σ H fun b H1 => if b = true then ∃ N, R N ∧ tb { D with nx := N, ct := N, bk := D.nx } σ H1 else Y σ H1)
    (hx : ∀ σ H, Xv σ H → D.nx σ H) : tWhile c tb D σ H := by
  refine ⟨fun m σ H => ∃ i, m = n - i ∧ i ≤ n ∧ Pv i σ H, ⟨n, 0, by omega, Nat.zero_le _, h0⟩, ?_⟩
  rintro m σ H ⟨i, rfl, hi, p⟩
  exact hs i σ H hi p (fun N => ∀ σ' H', N σ' H' → ∃ m', m' < n - i ∧ ∃ j, m' = n - j ∧ j ≤ n ∧ Pv j σ' H') (fun lt σ' H' q => ⟨n - (i + 1), by omega, i + 1, rfl, lt, q⟩) _ hx
theorem cut_take (xs : List V) (k : Nat) : cutV xs none (some (k : Int)) = xs.take k := by
  unfold cutV
  rw [HT.sIx_none, HT.sIx_nat, List.drop_zero, Nat.sub_zero]
  rw [List.take_eq_take_iff]
  omega
theorem cut_drop (xs : List V) (k : Nat) : cutV xs (some (k : Int)) none = xs.drop k := by
  unfold cutV
  rw [HT.sIx_none, HT.sIx_nat]
  rcases Nat.le_total k xs.length with h | h
  · rw [Nat.min_eq_left h, List.take_of_length_le (by rw [List.length_drop]; omega)]
  · rw [Nat.min_eq_right h, Nat.sub_self, List.take_zero, List.drop_eq_nil_of_le h]
theorem lay_dats {H : Hp} {ws : List V} {rows : List (Dt × Int)} {t : Addr} {r : Dt × Int} (hd : DatsAt K H ws (rows.map rowD)) (ht : DatAt K H (.ref t) (rowD r)) (k j : Nat) :
    DatsAt K H ((ws.take k ++ [.ref t]) ++ ws.drop j) ((rows.take k ++ [r] ++ rows.drop j).map rowD) := by
  rw [List.map_append, List.map_append, List.map_take, List.map_drop]
  exact ((hd.take k).append (.cons ht .nil)).append (hd.drop j)
theorem ins_srt {es : List Dt} {d : Dt} {kk : Nat} (srt : Srt es) (lo : ∀ y ∈ es.take kk, Dt.lt y d = true) (up : ∀ y ∈ es.drop kk, Dt.lt d y = true) : Srt (es.take kk ++ [d] ++ es.drop kk) := by
  have s0 : Srt (es.take kk ++ es.drop kk) := by rw [List.take_append_drop]; exact srt
  have s1 := List.pairwise_append.mp s0
  refine List.pairwise_append.mpr ⟨List.pairwise_append.mpr ⟨s1.1, List.pairwise_singleton .., fun a ha b hb => ?_⟩, s1.2.1, fun a ha b hb => ?_⟩
  · cases List.mem_singleton.mp hb
    exact lo a ha
  · rcases List.mem_append.mp ha with ha | ha
    · exact s1.2.2 a ha b hb
    · cases List.mem_singleton.mp ha
      exact up b hb
theorem wOf_app (a b : List (Dt × Int)) (x : Dt) : wOf (a ++ b) x = wOf a x + wOf b x := by
  unfold wOf
  rw [List.filter_append, sumW_append]
theorem wOf_one (r : Dt × Int) (x : Dt) : wOf [r] x = if Dt.beq r.1 x = true then r.2 else 0 := by
  have := wOf_snoc [] r x
  rw [List.nil_append] at this
  rw [this]
  show 0 + _ = _
  omega
def LayOk (rows rows' : List (Dt × Int)) (o : Dt) (wt : Int) : Prop := Lw rows' ∧ rows'.length ≤ rows.length + 1 ∧ (∀ x, x ∈ rows'.map (·.1) ↔ x ∈ rows.map (·.1) ∨ x = o) ∧ ∀ x, wOf rows' x = wOf rows x + if Dt.beq o x = true then wt else 0
theorem lay_new {rows : List (Dt × Int)} {o : Dt} {wt : Int} (L : Lw rows) (ho : Oc o) (hw : 0 ≤ wt) {i : Nat} (hi : i ≤ rows.length) (lo : ∀ y ∈ (rows.take i).map (·.1), Dt.lt y o = true) (up : ∀ y ∈ (rows.drop i).map (·.1), Dt.lt o y = true) : LayOk rows (rows.take i ++ [(o, wt)] ++ rows.drop i) o wt := by
  refine ⟨⟨fun r hr => ?_, fun r hr => ?_, ?_⟩, ?_, fun x => ?_, fun x => ?_⟩
  · rcases List.mem_append.mp hr with hr | hr
    · rcases List.mem_append.mp hr with hr | hr
      · exact L.oc r (List.mem_of_mem_take hr)
      · cases List.mem_singleton.mp hr; exact ho
    · exact L.oc r (List.mem_of_mem_drop hr)
  · rcases List.mem_append.mp hr with hr | hr
    · rcases List.mem_append.mp hr with hr | hr
      · exact L.nn r (List.mem_of_mem_take hr)
      · cases List.mem_singleton.mp hr; exact hw
    · exact L.nn r (List.mem_of_mem_drop hr)
  · rw [List.map_append, List.map_append, List.map_take, List.map_drop]
    rw [List.map_take] at lo
    rw [List.map_drop] at up
    exact ins_srt L.srt lo up
  · rw [List.length_append, List.length_append, List.length_take, List.length_drop]
    show min i rows.length + 1 + _ ≤ _
    omega
  · have e : x ∈ rows.map (·.1) ↔ x ∈ (rows.take i).map (·.1) ∨ x ∈ (rows.drop i).map (·.1) := by
      rw [← List.mem_append, ← List.map_append, List.take_append_drop]
    rw [List.map_append, List.map_append, List.mem_append, List.mem_append, e]
    show (_ ∨ x ∈ [o]) ∨ _ ↔ _
    rw [List.mem_singleton]
    constructor
    · rintro ((h | h) | h)
      · exact .inl (.inl h)
      · exact .inr h
      · exact .inl (.inr h)
    · rintro ((h | h) | h)
      · exact .inl (.inl h)
      · exact .inr h
      · exact .inl (.inr h)
  · rw [wOf_app, wOf_app, wOf_one]
    have e : wOf rows x = wOf (rows.take i) x + wOf (rows.drop i) x := by rw [← wOf_app, List.take_append_drop]
    rw [e]
    show _ + (if Dt.beq o x = true then wt else 0) + _ = _
    omega
theorem lay_old {rows : List (Dt × Int)} {o : Dt} {wt : Int} (L : Lw rows) (hw : 0 ≤ wt) {i : Nat} {q : Dt × Int} (hq : rows[i]? = some q) (eq : q.1 = o) : LayOk rows (rows.take i ++ [(o, q.2 + wt)] ++ rows.drop (i + 1)) o wt := by
  have qm := List.mem_of_getElem? hq
  have em : (rows.take i ++ [(o, q.2 + wt)] ++ rows.drop (i + 1)).map (·.1) = rows.map (·.1) := by
    have e1 : rows.map (·.1) = (rows.take (i + 1) ++ rows.drop (i + 1)).map (·.1) := by rw [List.take_append_drop]
    rw [e1, take_snoc' hq, List.map_append, List.map_append, List.map_append, List.map_append]
    show _ ++ [o] ++ _ = _ ++ [q.1] ++ _
    rw [eq]
  refine ⟨⟨fun r hr => ?_, fun r hr => ?_, by rw [em]; exact L.srt⟩, ?_, fun x => ?_, fun x => ?_⟩
  · rcases List.mem_append.mp hr with hr | hr
    · rcases List.mem_append.mp hr with hr | hr
      · exact L.oc r (List.mem_of_mem_take hr)
      · cases List.mem_singleton.mp hr; exact eq ▸ L.oc q qm
    · exact L.oc r (List.mem_of_mem_drop hr)
  · rcases List.mem_append.mp hr with hr | hr
    · rcases List.mem_append.mp hr with hr | hr
      · exact L.nn r (List.mem_of_mem_take hr)
      · cases List.mem_singleton.mp hr
        have := L.nn q qm
        show 0 ≤ q.2 + wt
        omega
    · exact L.nn r (List.mem_of_mem_drop hr)
  · have := congrArg List.length em
    rw [List.length_map, List.length_map] at this
    omega
  · rw [em]
    refine ⟨.inl, fun z => z.elim (fun z => z) fun z => ?_⟩
    rw [z, ← eq]
    exact List.mem_map.mpr ⟨q, qm, rfl⟩
  · rw [wOf_app, wOf_app, wOf_one]
    have e : wOf rows x = wOf (rows.take (i + 1)) x + wOf (rows.drop (i + 1)) x := by rw [← wOf_app, List.take_append_drop]
    rw [e, take_snoc' hq, wOf_snoc, eq]
    show _ + (if Dt.beq o x = true then q.2 + wt else 0) + _ = _
    split <;> omega
def sp_laid (K : PySem.W.Frag) : Sp := fun vs H Q _ => ∃ a ws rows v o wt, vs = [.ref a, v, .int wt] ∧ SqL K H a ws ∧ DatsAt K H ws (rows.map rowD) ∧ DatAt K H v o ∧ Oc o ∧ Lw rows ∧ 0 ≤ wt ∧ rows.length ≤ 1000 ∧
  ∀ rows', LayOk rows rows' o wt → lstQ K H Q (rows'.map rowD)
theorem up_of {rows : List (Dt × Int)} {o : Dt} {i : Nat} {q : Dt × Int} (L : Lw rows) (hq : rows[i]? = some q) (hl : Dt.lt q.1 o = false) (he : Dt.beq q.1 o = false) : ∀ y ∈ (rows.drop i).map (·.1), Dt.lt o y = true := by
  have ne : q.1 ≠ o := fun z => by
    rw [z, Dt.beq_self] at he
    cases he
  have h0 : Dt.lt o q.1 = true := Dt.lt_tri _ _ ne hl
  rw [drop_at hq, List.map_cons]
  have s0 : Srt ((rows.take i).map (·.1) ++ (rows.drop i).map (·.1)) := by rw [← List.map_append, List.take_append_drop]; exact L.srt
  have s1 := (List.pairwise_append.mp s0).2.1
  rw [drop_at hq, List.map_cons, List.pairwise_cons] at s1
  intro y hy
  rcases List.mem_cons.mp hy with z | z
  · rw [z]; exact h0
  · exact Dt.lt_trans _ _ _ h0 (s1.1 y z)
set_option maxHeartbeats 2000000 in
theorem ok_law_laid {f fB fK : Addr} {fd fdB fdK : FuncData} (A : FnAt K mg "_law_laid" s_law_laid ["_law_rows", "_law_outcome_here", "_law_weight"] f fd) (A_law_before : FnAt K mg "_law_before" s_law_before ["_law_one", "_law_other"] fB fdB)
    (A_law_kind : FnAt K mg "_law_kind" s_law_kind ["_law_one"] fK fdK) (T : Txt K mg C0 C2 cN) : FnOk P w K mg base CX0 3 f fd ["_law_rows", "_law_outcome_here", "_law_weight"] (sp_laid K) := by
  have G_law_before : FnOk P w K mg base CX0 2 fB fdB _ (sp_before K) := ok_law_before A_law_before A_law_kind T
  refine A.F.ok sc_law_laid (fun vs H Q E h => ?_) (fun cdv Ar outer s H vs Q E hr h => ?_)
  · obtain ⟨a, ws, rows, v, o, w, rfl, _⟩ := h
    rfl
  · obtain ⟨a, ws, rows, v, o, wt, rfl, hl, hd, hv, ho, hw, hp, few, kk⟩ := h
    refine ⟨_, (pss_cons (ps_set (i := 3) sc_law_laid.nd rfl (Or.inl rfl) pe_int)
      (pss_cons (ps_while PassesOwn.never (PW.pt (pw_and (pt_cmpR op_lt (pv 3) (pe_callB call_len_seq (by rfl) T.len_ Boot.«len» (pa_cons (pv 0) pa_nil)) (nomark _)) (pw_and1 (pt_val (pe_call G_law_before (hr.mono (by decide)) rfl A_law_before.m A_law_before.F.kp A_law_before.b .nil pass0 (pa_cons (pe_ix ix_tup (pe_ix ix_list (pv 0) (pv 3) (fun _ _ => rfl)) pe_int (fun _ _ => rfl)) (pa_cons (pv 1) pa_nil))))))) (pss_one (ps_set (i := 3) sc_law_laid.nd rfl (Or.inl rfl) (pe_op op_add (pv 3) pe_int))))
      (pss_cons (ps_if (PW.pt (pw_and (pt_cmpR op_lt (pv 3) (pe_callB call_len_seq (by rfl) T.len_ Boot.«len» (pa_cons (pv 0) pa_nil)) (nomark _)) (pw_and1 (pt_cmpR (op_eqD hr.units) (pe_ix ix_tup (pe_ix ix_list (pv 0) (pv 3) (fun _ _ => rfl)) pe_int (fun _ _ => rfl)) (pv 1) (nomark _))))) (pss_one (ps_ret (pe_op op_cat (pe_op op_cat (pe_slice sl_list (pv 0) po_none (po_some (pv 3))) (pe_lst (pa_cons (pe_tup (pa_cons (pv 1) (pa_cons (pe_op op_add (pe_ix ix_tup (pe_ix ix_list (pv 0) (pv 3) (fun _ _ => rfl)) pe_int (fun _ _ => rfl)) (pv 2)) pa_nil))) pa_nil))) (pe_slice sl_list (pv 0) (po_some (pe_op op_add (pv 3) pe_int)) po_none)))) pss_nil)
      (pss_one (ps_ret (pe_op op_cat (pe_op op_cat (pe_slice sl_list (pv 0) po_none (po_some (pv 3))) (pe_lst (pa_cons (pe_tup (pa_cons (pv 1) (pa_cons (pv 2) pa_nil))) pa_nil))) (pe_slice sl_list (pv 0) (po_some (pv 3)) po_none))))))), ?_⟩
    have hlen := hd.length
    rw [List.length_map] at hlen
    refine while_nat (fun i σ H' => Same H H' ∧ σ = [some (.ref a), some v, some (.int wt), some (.int (i : Int))] ∧ ∀ y ∈ (rows.take i).map (·.1), Dt.lt y o = true) (fun σ H' => Same H H' ∧ ∃ i : Nat, i ≤ rows.length ∧ σ = [some (.ref a), some v, some (.int wt), some (.int (i : Int))] ∧ (∀ y ∈ (rows.take i).map (·.1), Dt.lt y o = true) ∧ ∀ q, rows[i]? = some q → Dt.lt q.1 o = false) rows.length ⟨.refl _, rfl, by simp⟩ ?_ ?_
    · rintro i σ H1 hi ⟨S1, rfl, lo⟩ R hR Y hY
      refine ⟨_, rfl, _, rfl, a, ws, rfl, .inl (S1.seq hl), _, _, rfl, rfl, _, rfl, iteBB (fun hc => ?_) (fun hc => ?_)⟩
      · have lt : i < rows.length := by
          have := of_decide_eq_true hc
          omega
        have er : rows[i]? = some rows[i] := List.getElem?_eq_getElem lt
        have ek : (rows.map rowD)[i]? = some (rowD rows[i]) := by rw [List.getElem?_map, er]; rfl
        obtain ⟨x, ex, hx⟩ := (hd.same S1).get ek
        obtain ⟨q, va, rfl, sq, hva⟩ := DatAt.row hx
        refine ⟨_, rfl, _, rfl, a, ws, _, _, rfl, rfl, S1.seq hl, atI_nat ex, q, _, 0, va, rfl, rfl, sq, rfl, _, rfl, va, v, _, o, rfl, hva, hv.same S1, hw.oc _ (List.mem_of_getElem? er), ho, fun H2 S2 => ⟨_, rfl, ?_⟩⟩
        refine iteBB (fun hb => ⟨_, hR lt, ?_⟩) (fun hb => hY _ _ ⟨S1.trans S2, i, hi, rfl, lo, fun q hq => ?_⟩)
        · refine ⟨_, rfl, _, _, rfl, rfl, S1.trans S2, rfl, fun y hy => ?_⟩
          rw [take_snoc' er, List.map_append] at hy
          rcases List.mem_append.mp hy with z | z
          · exact lo y z
          · cases List.mem_singleton.mp z
            exact hb
        · rw [er] at hq
          cases hq
          exact hb
      · refine hY _ _ ⟨S1, i, hi, rfl, lo, fun q hq => ?_⟩
        have := (List.getElem?_eq_some_iff.mp hq).1
        have := of_decide_eq_false hc
        omega
    · rintro σ H1 ⟨S1, i, hi, rfl, lo, stop⟩
      refine ⟨_, rfl, _, rfl, a, ws, rfl, .inl (S1.seq hl), _, _, rfl, rfl, _, rfl, ?_⟩
      refine iteBB (fun hc => ?_) (fun hc => iteF ?_)
      · have lt : i < rows.length := by
          have := of_decide_eq_true hc
          omega
        have er : rows[i]? = some rows[i] := List.getElem?_eq_getElem lt
        have ek : (rows.map rowD)[i]? = some (rowD rows[i]) := by rw [List.getElem?_map, er]; rfl
        obtain ⟨x, ex, hx⟩ := (hd.same S1).get ek
        obtain ⟨q, va, rfl, sq, hva⟩ := DatAt.row hx
        have oq := hw.oc _ (List.mem_of_getElem? er)
        refine ⟨_, rfl, _, rfl, a, ws, _, _, rfl, rfl, S1.seq hl, atI_nat ex, q, _, 0, va, rfl, rfl, sq, rfl, _, rfl, _, o, hva, hv.same S1, Nat.le_trans oq.hgt (by decide), _, rfl, iteBB (fun he => ?_) (fun he => ?_)⟩
        · refine ⟨_, rfl, _, rfl, _, rfl, a, ws, rfl, S1.seq hl, fun p1 hp1 => ?_⟩
          rw [cut_take]
          have s1 := Same.upd (o := .lst (ws.take i)) hp1
          have e1 : (upd H1 p1 (.lst (ws.take i))) p1 = some (.lst (ws.take i)) := upd_same
          generalize upd H1 p1 (.lst (ws.take i)) = H2 at s1 e1
          refine ⟨_, rfl, _, rfl, _, rfl, a, ws, _, _, rfl, rfl, (S1.trans s1).seq hl, atI_nat ex, q, _, 1, .int _, rfl, rfl, s1.tup sq, rfl, _, rfl, _, _, rfl, rfl, two_le, fun t ht => ?_⟩
          have s2 := Same.upd (o := .tup [v, .int (rows[i].2 + wt)]) ht
          have e2 : (upd H2 t (.tup [v, .int (rows[i].2 + wt)])) t = some (.tup [v, .int (rows[i].2 + wt)]) := upd_same
          generalize upd H2 t (.tup [v, .int (rows[i].2 + wt)]) = H3 at s2 e2
          refine ⟨(by show 1 ≤ sizeLine; decide), fun l hl3 => ?_⟩
          have s3 := Same.upd (o := .lst [.ref t]) hl3
          have e3 : (upd H3 l (.lst [.ref t])) l = some (.lst [.ref t]) := upd_same
          generalize upd H3 l (.lst [.ref t]) = H4 at s3 e3
          have tl : (ws.take i).length ≤ 1000 := by rw [List.length_take]; omega
          refine ⟨p1, l, _, _, rfl, rfl, (s2.trans s3) _ _ e1, e3, Nat.le_trans (show (ws.take i).length + 1 ≤ 2000 by omega) (by decide), fun p2 hp2 => ?_⟩
          have s4 := Same.upd (o := .lst (ws.take i ++ [.ref t])) hp2
          have e4 : (upd H4 p2 (.lst (ws.take i ++ [.ref t]))) p2 = some (.lst (ws.take i ++ [.ref t])) := upd_same
          generalize upd H4 p2 (.lst (ws.take i ++ [.ref t])) = H5 at s4 e4
          have S5 : Same H1 H5 := ((s1.trans s2).trans s3).trans s4
          refine ⟨_, rfl, _, rfl, _, _, rfl, rfl, _, rfl, a, ws, rfl, (S1.trans S5).seq hl, fun p3 hp3 => ?_⟩
          have ec : cutV ws (some ((i : Int) + 1)) none = ws.drop (i + 1) := cut_drop ws (i + 1)
          rw [ec]
          have s5 := Same.upd (o := .lst (ws.drop (i + 1))) hp3
          have e5 : (upd H5 p3 (.lst (ws.drop (i + 1)))) p3 = some (.lst (ws.drop (i + 1))) := upd_same
          generalize upd H5 p3 (.lst (ws.drop (i + 1))) = H6 at s5 e5
          have dl : (ws.drop (i + 1)).length ≤ 1000 := by rw [List.length_drop]; omega
          refine ⟨p2, p3, _, _, rfl, rfl, s5 _ _ e4, e5, Nat.le_trans (show (ws.take i ++ [V.ref t]).length + (ws.drop (i + 1)).length ≤ 3000 by rw [List.length_append]; show (ws.take i).length + 1 + _ ≤ 3000; omega) (by decide), fun p4 hp4 => ?_⟩
          have s6 := Same.upd (o := .lst ((ws.take i ++ [.ref t]) ++ ws.drop (i + 1))) hp4
          have e6 : (upd H6 p4 (.lst ((ws.take i ++ [.ref t]) ++ ws.drop (i + 1)))) p4 = some (.lst ((ws.take i ++ [.ref t]) ++ ws.drop (i + 1))) := upd_same
          have S6 : Same H3 (upd H6 p4 (.lst ((ws.take i ++ [.ref t]) ++ ws.drop (i + 1)))) := ((s3.trans s4).trans s5).trans s6
          have S7 := (S1.trans s1).trans (s2.trans S6)
          refine kk (rows.take i ++ [(o, rows[i].2 + wt)] ++ rows.drop (i + 1)) (lay_old hw hp er ((Dt.beq_iff _ _).mp he)) p4 _ S7 ((S1.trans S5).free (s5.free hp4)) ⟨_, e6, lay_dats (hd.same S7) ?_ i (i + 1)⟩
          · exact datAt_row (p := (o, rows[i].2 + wt)) (SqT.of (S6 _ _ e2)) (hv.same S7)
        · have up : ∀ y ∈ (rows.drop i).map (·.1), Dt.lt o y = true := up_of hw er (stop _ er) he
          refine ⟨_, rfl, _, rfl, _, rfl, a, ws, rfl, S1.seq hl, fun p1 hp1 => ?_⟩
          rw [cut_take]
          have s1 := Same.upd (o := .lst (ws.take i)) hp1
          have e1 : (upd H1 p1 (.lst (ws.take i))) p1 = some (.lst (ws.take i)) := upd_same
          generalize upd H1 p1 (.lst (ws.take i)) = H2 at s1 e1
          refine ⟨_, rfl, _, rfl, two_le, fun t ht => ?_⟩
          have s2 := Same.upd (o := .tup [v, .int wt]) ht
          have e2 : (upd H2 t (.tup [v, .int wt])) t = some (.tup [v, .int wt]) := upd_same
          generalize upd H2 t (.tup [v, .int wt]) = H3 at s2 e2
          refine ⟨(by show 1 ≤ sizeLine; decide), fun l hl3 => ?_⟩
          have s3 := Same.upd (o := .lst [.ref t]) hl3
          have e3 : (upd H3 l (.lst [.ref t])) l = some (.lst [.ref t]) := upd_same
          generalize upd H3 l (.lst [.ref t]) = H4 at s3 e3
          have tl : (ws.take i).length ≤ 1000 := by rw [List.length_take]; omega
          refine ⟨p1, l, _, _, rfl, rfl, (s2.trans s3) _ _ e1, e3, Nat.le_trans (show (ws.take i).length + 1 ≤ 2000 by omega) (by decide), fun p2 hp2 => ?_⟩
          have s4 := Same.upd (o := .lst (ws.take i ++ [.ref t])) hp2
          have e4 : (upd H4 p2 (.lst (ws.take i ++ [.ref t]))) p2 = some (.lst (ws.take i ++ [.ref t])) := upd_same
          generalize upd H4 p2 (.lst (ws.take i ++ [.ref t])) = H5 at s4 e4
          have S5 : Same H1 H5 := ((s1.trans s2).trans s3).trans s4
          refine ⟨_, rfl, _, rfl, _, rfl, a, ws, rfl, (S1.trans S5).seq hl, fun p3 hp3 => ?_⟩
          rw [cut_drop]
          have s5 := Same.upd (o := .lst (ws.drop i)) hp3
          have e5 : (upd H5 p3 (.lst (ws.drop i))) p3 = some (.lst (ws.drop i)) := upd_same
          generalize upd H5 p3 (.lst (ws.drop i)) = H6 at s5 e5
          have dl : (ws.drop i).length ≤ 1000 := by rw [List.length_drop]; omega
          refine ⟨p2, p3, _, _, rfl, rfl, s5 _ _ e4, e5, Nat.le_trans (show (ws.take i ++ [V.ref t]).length + (ws.drop i).length ≤ 3000 by rw [List.length_append]; show (ws.take i).length + 1 + _ ≤ 3000; omega) (by decide), fun p4 hp4 => ?_⟩
          have s6 := Same.upd (o := .lst ((ws.take i ++ [.ref t]) ++ ws.drop i)) hp4
          have e6 : (upd H6 p4 (.lst ((ws.take i ++ [.ref t]) ++ ws.drop i))) p4 = some (.lst ((ws.take i ++ [.ref t]) ++ ws.drop i)) := upd_same
          have S6 : Same H3 (upd H6 p4 (.lst ((ws.take i ++ [.ref t]) ++ ws.drop i))) := ((s3.trans s4).trans s5).trans s6
          have S7 := (S1.trans s1).trans (s2.trans S6)
          refine kk (rows.take i ++ [(o, wt)] ++ rows.drop i) (lay_new hw ho hp hi lo up) p4 _ S7 ((S1.trans S5).free (s5.free hp4)) ⟨_, e6, lay_dats (hd.same S7) ?_ i i⟩
          · exact datAt_row (p := (o, wt)) (SqT.of (S6 _ _ e2)) (hv.same S7)
      · have up : ∀ y ∈ (rows.drop i).map (·.1), Dt.lt o y = true := by
          have : rows.length ≤ i := by
            have := of_decide_eq_false hc
            omega
          rw [List.drop_eq_nil_of_le this]
          exact fun _ h => nomatch h
        refine ⟨_, rfl, _, rfl, _, rfl, a, ws, rfl, S1.seq hl, fun p1 hp1 => ?_⟩
        rw [cut_take]
        have s1 := Same.upd (o := .lst (ws.take i)) hp1
        have e1 : (upd H1 p1 (.lst (ws.take i))) p1 = some (.lst (ws.take i)) := upd_same
        generalize upd H1 p1 (.lst (ws.take i)) = H2 at s1 e1
        refine ⟨_, rfl, _, rfl, two_le, fun t ht => ?_⟩
        have s2 := Same.upd (o := .tup [v, .int wt]) ht
        have e2 : (upd H2 t (.tup [v, .int wt])) t = some (.tup [v, .int wt]) := upd_same
        generalize upd H2 t (.tup [v, .int wt]) = H3 at s2 e2
        refine ⟨(by show 1 ≤ sizeLine; decide), fun l hl3 => ?_⟩
        have s3 := Same.upd (o := .lst [.ref t]) hl3
        have e3 : (upd H3 l (.lst [.ref t])) l = some (.lst [.ref t]) := upd_same
        generalize upd H3 l (.lst [.ref t]) = H4 at s3 e3
        have tl : (ws.take i).length ≤ 1000 := by rw [List.length_take]; omega
        refine ⟨p1, l, _, _, rfl, rfl, (s2.trans s3) _ _ e1, e3, Nat.le_trans (show (ws.take i).length + 1 ≤ 2000 by omega) (by decide), fun p2 hp2 => ?_⟩
        have s4 := Same.upd (o := .lst (ws.take i ++ [.ref t])) hp2
        have e4 : (upd H4 p2 (.lst (ws.take i ++ [.ref t]))) p2 = some (.lst (ws.take i ++ [.ref t])) := upd_same
        generalize upd H4 p2 (.lst (ws.take i ++ [.ref t])) = H5 at s4 e4
        have S5 : Same H1 H5 := ((s1.trans s2).trans s3).trans s4
        refine ⟨_, rfl, _, rfl, _, rfl, a, ws, rfl, (S1.trans S5).seq hl, fun p3 hp3 => ?_⟩
        rw [cut_drop]
        have s5 := Same.upd (o := .lst (ws.drop i)) hp3
        have e5 : (upd H5 p3 (.lst (ws.drop i))) p3 = some (.lst (ws.drop i)) := upd_same
        generalize upd H5 p3 (.lst (ws.drop i)) = H6 at s5 e5
        have dl : (ws.drop i).length ≤ 1000 := by rw [List.length_drop]; omega
        refine ⟨p2, p3, _, _, rfl, rfl, s5 _ _ e4, e5, Nat.le_trans (show (ws.take i ++ [V.ref t]).length + (ws.drop i).length ≤ 3000 by rw [List.length_append]; show (ws.take i).length + 1 + _ ≤ 3000; omega) (by decide), fun p4 hp4 => ?_⟩
        have s6 := Same.upd (o := .lst ((ws.take i ++ [.ref t]) ++ ws.drop i)) hp4
        have e6 : (upd H6 p4 (.lst ((ws.take i ++ [.ref t]) ++ ws.drop i))) p4 = some (.lst ((ws.take i ++ [.ref t]) ++ ws.drop i)) := upd_same
        have S6 : Same H3 (upd H6 p4 (.lst ((ws.take i ++ [.ref t]) ++ ws.drop i))) := ((s3.trans s4).trans s5).trans s6
        have S7 := (S1.trans s1).trans (s2.trans S6)
        refine kk (rows.take i ++ [(o, wt)] ++ rows.drop i) (lay_new hw ho hp hi lo up) p4 _ S7 ((S1.trans S5).free (s5.free hp4)) ⟨_, e6, lay_dats (hd.same S7) ?_ i i⟩
        · exact datAt_row (p := (o, wt)) (SqT.of (S6 _ _ e2)) (hv.same S7)
end
end K09
namespace K09
open PySem L2 FW PyProof.Rows
section
variable {P : Program} {w : World} {K : PySem.W.Frag} {mg : Str → Option Value} {base : Heap} {C0 C2 cN : Addr}
def sp_table_is (K : PySem.W.Frag) : Sp := fun vs H Q _ => ∃ a b, ∃ rows : List (Dt × Int), ∃ S, vs = [.ref a, .ref b, .int S] ∧ LsM K H a ((rows.filter fun r => decide (0 < r.2)).map (parD S)) ∧ LsM K H b (rows.map rowD) ∧ (∀ r ∈ rows, Oc r.1) ∧ (0 < S ∧ S ≤ 10 ^ 160) ∧ rows.length ≤ 1000 ∧ ∀ H', Same H H' → Q (.bl true) H'
set_option maxHeartbeats 2000000 in
theorem ok_law_table_is {f fS fW fI fL fD : Addr} {fd fdS fdW fdI fdL fdD : FuncData} (A : FnAt K mg "_law_table_is" s_law_table_is ["_law_found", "_law_rows", "_law_scale"] f fd) (A_law_same : FnAt K mg "_law_same" s_law_same ["_law_found", "_law_due"] fS fdS)
    (A_law_whole : FnAt K mg "_law_whole" s_law_whole ["_law_found"] fW fdW) (A_law_is : FnAt K mg "_law_is" s_law_is ["_law_found", "_law_due"] fI fdI) (A_law_lowest : FnAt K mg "_law_lowest" s_law_lowest ["_law_top", "_law_bottom"] fL fdL)
    (A_law_divisor : FnAt K mg "_law_divisor" s_law_divisor ["_law_one", "_law_other"] fD fdD) (T : Txt K mg C0 C2 cN) : FnOk P w K mg base CX0 3 f fd ["_law_found", "_law_rows", "_law_scale"] (sp_table_is K) := by
  have G_law_same : FnOk P w K mg base CX0 2 fS fdS _ (sp_same K) := ok_law_same A_law_same A_law_whole T
  have G_law_is : FnOk P w K mg base CX0 2 fI fdI _ (sp_is K) := ok_law_is A_law_is A_law_whole T
  have G_law_lowest : FnOk P w K mg base CX0 2 fL fdL _ sp_lowest := ok_law_lowest A_law_lowest A_law_divisor T
  refine A.F.ok sc_law_table_is (fun vs H Q E h => ?_) (fun cdv Ar outer s H vs Q E hr h => ?_)
  · obtain ⟨a, b, rows, S, rfl, _⟩ := h
    rfl
  · obtain ⟨a, b, rows, S, rfl, ⟨us, ea, hu⟩, ⟨ws, eb, hd⟩, hw, ⟨S0p, S1p⟩, few, kk⟩ := h
    refine ⟨_, (pss_cons (ps_comp (i := 3) rfl sc_law_table_is.nd rfl (Or.inl rfl) (Nc := ["_law_row"]) (caps0 rfl (by decide +kernel) (by decide +kernel) (by decide +kernel)) (pi_list (pv 1)) (fun _ _ _ _ => (pg_name (i := 0) (show List.Nodup (["_law_row"] : List Str) by decide +kernel) rfl (Or.inl rfl))) (fun _ _ _ _ => by exact (pts_one (pt_cmpR op_gt (pe_ix (ix_tupK (K := K) rfl) (pv 0) pe_int (fun _ _ => rfl)) pe_int (nomark _)))) (fun _ _ _ _ => (pv 0)))
      (pss_cons (ps_if (PW.pt (pw_or (pt_not (pt_val (pe_callB call_isi (by rfl) T.isinstance_ Boot.«isinstance» (pa_cons (pv 0) (pa_cons (pe_bltn rfl T.list_ Boot.«list» (v := .ty "list") rfl) pa_nil))))) (pw_or1 (pt_cmpR op_ne (pe_callB call_len_seq (by rfl) T.len_ Boot.«len» (pa_cons (pv 0) pa_nil)) (pe_callB call_len_seq (by rfl) T.len_ Boot.«len» (pa_cons (pv 3) pa_nil)) (nomark _))))) (pss_one (ps_ret pe_bl)) pss_nil)
      (pss_cons (ps_for PassesOwn.never rfl (pi_zip rfl T.zip_ (pa_cons (pv 0) (pa_cons (pv 3) pa_nil))) (pg_tup rfl (pgs_cons (pg_name (i := 4) sc_law_table_is.nd rfl (Or.inl rfl)) (pgs_cons (pg_name (i := 5) sc_law_table_is.nd rfl (Or.inl rfl)) pgs_nil))) (pss_cons (ps_if (PW.pt (pw_or (pt_not (pt_val (pe_callB call_isiT (by rfl) T.isinstance_ Boot.«isinstance» (pa_cons (pv 4) (pa_cons (pe_bltn rfl T.tuple_ Boot.«tuple» (v := .ty "tuple") rfl) pa_nil))))) (pw_or (pt_cmpR op_ne (pe_callB call_len_seq (by rfl) T.len_ Boot.«len» (pa_cons (pv 4) pa_nil)) pe_int (nomark _)) (pw_or1 (pt_not (pt_val (pe_call G_law_same (hr.mono (by decide)) rfl A_law_same.m A_law_same.F.kp A_law_same.b .nil pass0 (pa_cons (pe_ix ix_tup (pv 4) pe_int (fun _ _ => rfl)) (pa_cons (pe_ix ix_tup (pv 5) pe_int (fun _ _ => rfl)) pa_nil))))))))) (pss_one (ps_ret pe_bl)) pss_nil)
      (pss_one (ps_if (pt_not (pt_val (pe_call G_law_is (hr.mono (by decide)) rfl A_law_is.m A_law_is.F.kp A_law_is.b .nil pass0 (pa_cons (pe_ix ix_tup (pv 4) pe_int (fun _ _ => rfl)) (pa_cons (pe_call G_law_lowest (hr.mono (by decide)) rfl A_law_lowest.m A_law_lowest.F.kp A_law_lowest.b .nil pass0 (pa_cons (pe_ix ix_tup (pv 5) pe_int (fun _ _ => rfl)) (pa_cons (pv 2) pa_nil))) pa_nil))))) (pss_one (ps_ret pe_bl)) pss_nil))))
      (pss_one (ps_ret pe_bl))))), ?_⟩
    have hlen := hd.length
    rw [List.length_map] at hlen
    refine ⟨_, rfl, b, rfl, ⟨_, SqL.of eb⟩, fun D hD => ?_⟩
    refine comp_list (K := K) (a := b) (D := D) (xs := ws) (fun i σ ys H' => (∃ o1, σ = [o1]) ∧ Same H H' ∧ H' D = some (.lst ys) ∧ DatsAt K H' ys (((rows.take i).filter fun r => decide (0 < r.2)).map rowD))
      ⟨⟨none, rfl⟩, .upd hD, upd_same, .nil⟩ ?_ ?_ ?_
    · rintro i σ ys H' hi ⟨_, S2, eD, hy⟩
      have : ys.length ≤ 1000 := by
        have e1 := hy.length
        rw [List.length_map] at e1
        have e2 := List.length_filter_le (fun r : Dt × Int => decide (0 < r.2)) (rows.take i)
        rw [List.length_take] at e2
        omega
      exact ⟨SqL.of (S2 _ _ eb), eD, Nat.lt_of_le_of_lt this (by decide)⟩
    · rintro i x σ ys H' hx ⟨⟨o1, rfl⟩, S2, eD, hy⟩ N hN
      obtain ⟨d, ed, hxd⟩ := (hd.same S2).get' hx
      obtain ⟨r, er, rfl⟩ := map_get ed
      obtain ⟨q, va, rfl, sq, hva⟩ := DatAt.row hxd
      refine ⟨_, rfl, q, _, 1, .int r.2, rfl, rfl, sq, rfl, _, _, rfl, rfl, _, rfl, iteBB (fun hc => ?_) (fun hc => ?_)⟩
      · refine ⟨_, rfl, eD, hN _ _ _ ?_⟩
        obtain ⟨x1, x2, x3⟩ := snoc_ok (v := .ref q) (d := rowD r) hD S2 eD hy hxd
        refine ⟨⟨_, rfl⟩, x1, x2, ?_⟩
        rw [take_snoc' er, List.filter_append, List.map_append]
        have ef : [r].filter (fun r => decide (0 < r.2)) = [r] := by simp only [List.filter, hc]
        rw [ef]
        exact x3
      · refine hN _ _ _ ⟨⟨_, rfl⟩, S2, eD, ?_⟩
        rw [take_snoc' er, List.filter_append]
        have ef : [r].filter (fun r => decide (0 < r.2)) = [] := by simp only [List.filter, hc]
        rw [ef, List.append_nil]
        exact hy
    · rintro σ ys H1 ⟨_, S1, eD, hy⟩
      rw [List.take_of_length_le (by omega)] at hy
      have ocF : ∀ r ∈ rows.filter (fun r => decide (0 < r.2)), Oc r.1 := fun r hr => hw r (List.mem_filter.mp hr).1
      generalize (rows.filter fun r => decide (0 < r.2)) = fr at hu hy ocF
      have ea1 := S1 _ _ ea
      have hu1 := hu.same S1
      have hd1 := hy
      have k1 := hu1.length
      have k2 := hd1.length
      rw [List.length_map] at k1 k2
      refine ⟨_, rfl, _, _, _, _, rfl, .lst ea1, kit_ll, _, rfl, iteF ?_⟩
      refine ⟨_, rfl, a, _, rfl, .inl (SqL.of ea1), _, rfl, D, _, rfl, .inl (SqL.of eD), rfl, _, rfl, iteBB (fun hc => ?_) (fun _ => ?_)⟩
      · rw [show us.length = ys.length by omega] at hc
        simp at hc
      refine ⟨_, rfl, _, rfl, a, D, rfl, ⟨_, SqL.of ea1⟩, ⟨_, SqL.of eD⟩, for_zip (K := K) (a := a) (b := D) (xs := us) (ys := ys) (fun i σ H' => Same H1 H' ∧ ∃ o4 o5, σ = [some (.ref a), some (.ref b), some (.int S), some (.ref D), o4, o5]) ⟨.refl _, none, none, rfl⟩
            (fun i σ H' _ z => ⟨SqL.of (z.1 _ _ ea1), SqL.of (z.1 _ _ eD)⟩) ?_ ?_⟩
      · rintro i x y σ H' t hx hy ⟨S2, o4, o5, rfl⟩ ht
        have St : Same H' (upd H' t (.tup [x, y])) := .upd ht
        have et : (upd H' t (.tup [x, y])) t = some (.tup [x, y]) := upd_same
        generalize upd H' t (.tup [x, y]) = H2 at St et
        have S3 := S2.trans St
        obtain ⟨d1, ed1, h1⟩ := (hu1.same S3).get' hx
        obtain ⟨r, er, rfl⟩ := map_get ed1
        obtain ⟨d2, ed2, h2⟩ := (hd1.same S3).get' hy
        obtain ⟨r', er', rfl⟩ := map_get ed2
        cases er.symm.trans er'
        obtain ⟨q1, va, vf, rfl, sq1, hva, hvf⟩ := DatAt.pr (p := (r.1, frD (low r.2 S))) h1
        obtain ⟨q2, vb, rfl, sq2, hvb⟩ := DatAt.row h2
        refine ⟨t, _, rfl, SqT.of et, rfl, _, _, rfl, _, _, rfl, rfl, ?_⟩
        refine ⟨_, rfl, q1, _, _, _, rfl, sq1, kit_tt, _, rfl, iteF ?_⟩
        refine ⟨_, rfl, q1, _, rfl, .inr sq1, rfl, _, rfl, iteF ?_⟩
        refine ⟨_, rfl, q1, _, 0, va, rfl, rfl, sq1, rfl, _, rfl, q2, _, 0, vb, rfl, rfl, sq2, rfl, va, vb, r.1, rfl, hva, hvb, ocF _ (List.mem_of_getElem? er), _, rfl, iteF ?_⟩
        refine ⟨_, rfl, q1, _, 1, vf, rfl, rfl, sq1, rfl, _, rfl, q2, _, 1, .int r.2, rfl, rfl, sq2, rfl, _, rfl, r.2, S, rfl, S0p, sm60 (by omega) S1p, fun r3 H3 S4 hr3 => ?_⟩
        refine ⟨vf, .ref r3, low r.2 S, low r.2 S, rfl, hvf.same S4, datAt_fr (SqT.of hr3), ?_⟩
        rw [Dt.beq_self]
        exact ⟨_, rfl, iteF ⟨S3.trans S4, _, _, rfl⟩⟩
      · rintro σ H' ⟨S2, o4, o5, rfl⟩
        exact kk _ (S1.trans S2)
theorem wOf_self : ∀ {R : List (Dt × Int)}, Srt (R.map (·.1)) → ∀ r ∈ R, wOf R r.1 = r.2
  | q :: R, s0, r, hr => by
    rw [List.map_cons] at s0
    have s := List.pairwise_cons.mp s0
    have nq : q.1 ∉ R.map (·.1) := fun z => by
      have := s.1 _ z
      rw [Dt.lt_self] at this
      cases this
    have e : wOf (q :: R) r.1 = (if Dt.beq q.1 r.1 = true then q.2 else 0) + wOf R r.1 := by
      have := wOf_app [q] R r.1
      rw [wOf_one] at this
      exact this
    rw [e]
    rcases List.mem_cons.mp hr with z | z
    · subst z
      rw [if_pos (Dt.beq_self _), wOf_none nq]
      omega
    · have ne : ¬ Dt.beq q.1 r.1 = true := fun b => nq ((Dt.beq_iff _ _).mp b ▸ List.mem_map.mpr ⟨r, z, rfl⟩)
      rw [if_neg ne, wOf_self s.2 r z]
      omega
theorem gath_eq {R rows : List (Dt × Int)} {S : Int} (L : Lw R) (h : ∀ x, wOf R x = wOf rows x) : gath S rows (R.map (·.1)) = R.filter fun r => decide (0 < r.2) := by
  unfold gath
  rw [List.filter_map, List.map_map]
  have e1 : R.filter ((fun o => !decide (wOf rows o = 0)) ∘ (·.1)) = R.filter fun r => decide (0 < r.2) := List.filter_congr fun r hr => by
    have e := wOf_self L.srt r hr
    rw [h] at e
    have h0 := L.nn r hr
    show (!decide (wOf rows r.1 = 0)) = decide (0 < r.2)
    rw [e]
    by_cases z : r.2 = 0
    · simp [z]
    · have : 0 < r.2 := by omega
      simp [z, this]
  rw [e1]
  refine (List.map_congr_left (g := id) fun r hr => ?_).trans (List.map_id _)
  have e := wOf_self L.srt r (List.mem_filter.mp hr).1
  rw [h] at e
  show (r.1, wOf rows r.1) = r
  rw [e]
theorem cut_ints (ns : List Int) (lo hi : Option Int) : ∃ ms : List Int, cutV (ns.map V.int) lo hi = ms.map V.int ∧ (∀ m ∈ ms, m ∈ ns) ∧ ms.length ≤ ns.length := by
  refine ⟨(ns.drop (HT.sIx (ns.map V.int).length 0 lo)).take (HT.sIx (ns.map V.int).length (ns.map V.int).length hi - HT.sIx (ns.map V.int).length 0 lo), ?_, fun m hm => List.mem_of_mem_drop (List.mem_of_mem_take hm), ?_⟩
  · unfold cutV
    rw [← List.map_drop, ← List.map_take]
  · rw [List.length_take, List.length_drop]
    omega
abbrev WB : Int := 10 ^ 18 * S0
/-- the one constant, by what the top has written -/
theorem nought_mk {K : PySem.W.Frag} {a : Addr} {o : Obj} (hk : K.lookup a = some o) (h : o.cls = .type "tuple" ∧ ∃ n t0 t1, o.data = .seq #[.int 0 t0, .int 1 t1] n) : ∀ H, SqT K H a [.int 0, .int 1] := by
  intro H
  obtain ⟨h1, n, t0, t1, h2⟩ := h
  exact .inr ⟨o, _, n, hk, h1, h2, (by show 2 ≤ sizeLine; decide), .cons ⟨t0, rfl⟩ (.cons ⟨t1, rfl⟩ .nil)⟩
end
end K09
namespace K09
open PySem L2 FW PyProof.Rows
/-- a part: its weight, where its table stands, its rows -/
abbrev Pa := Int × Addr × List (Dt × Int)
def allR (ps : List Pa) : List (Dt × Int) := ps.flatMap fun p => p.2.2.map fun r => (r.1, p.1 * r.2)
theorem allR_app (a b : List Pa) : allR (a ++ b) = allR a ++ allR b := by
  unfold allR
  rw [List.flatMap_append]
theorem allR_one (p : Pa) : allR [p] = p.2.2.map fun r => (r.1, p.1 * r.2) := by
  unfold allR
  simp
theorem allR_mem {ps : List Pa} {q : Dt × Int} (h : q ∈ allR ps) : ∃ p ∈ ps, ∃ r ∈ p.2.2, q = (r.1, p.1 * r.2) := by
  unfold allR at h
  obtain ⟨p, hp, hq⟩ := List.mem_flatMap.mp h
  obtain ⟨r, hr, e⟩ := List.mem_map.mp hq
  exact ⟨p, hp, r, hr, e.symm⟩
section
variable {P : Program} {w : World} {K : PySem.W.Frag} {mg : Str → Option Value} {base : Heap} {C0 C2 cN : Addr}
/-- parts in a list: pairs of a fraction (over Sa) and a table (over Sb) -/
def PM (K : PySem.W.Frag) (H : Hp) (a : Addr) (Sa Sb : Int) (ps : List Pa) : Prop :=
  ∃ vs, H a = some (.lst vs) ∧ vs.length = ps.length ∧ ∀ (i : Nat) (v : V) (p : Pa), vs[i]? = some v → ps[i]? = some p → PrL K H v (frD (low p.1 Sa)) p.2.1 (p.2.2.map (parD Sb))
structure PBd (Sa Sb : Int) (ps : List Pa) (cov : List Dt) : Prop where
  sa : 0 < Sa ∧ Sa ≤ 10 ^ 160
  sb : 0 < Sb ∧ Sb ≤ 10 ^ 160
  wt : ∀ p ∈ ps, 0 ≤ p.1 ∧ p.1 ≤ 10 ^ 160
  rw_ : ∀ p ∈ ps, ∀ r ∈ p.2.2, Oc r.1 ∧ 0 ≤ r.2 ∧ r.2 ≤ 10 ^ 160
  sc : Sc (Sa * Sb) (allR ps)
  few : (allR ps).length ≤ 1000
  cv : ∀ r ∈ allR ps, r.1 ∈ cov
  cl : cov.length < 64
def sp_mixed (K : PySem.W.Frag) : Sp := fun vs H Q _ => ∃ a Sa Sb ps cov, vs = [.ref a] ∧ PM K H a Sa Sb ps ∧ PBd Sa Sb ps cov ∧
  ∀ es, Srt es → (∀ x, x ∈ es ↔ x ∈ (allR ps).map (·.1)) → lstQ K H Q ((gath (Sa * Sb) (allR ps) es).map (parD (Sa * Sb)))
theorem allR_take {ps : List Pa} {i : Nat} {p : Pa} (h : ps[i]? = some p) : allR (ps.take (i + 1)) = allR (ps.take i) ++ p.2.2.map fun r => (r.1, p.1 * r.2) := by
  rw [take_snoc' h, allR_app, allR_one]
theorem allR_pre (ps : List Pa) (i : Nat) : (allR (ps.take i)).length ≤ (allR ps).length := by
  have e : allR ps = allR (ps.take i) ++ allR (ps.drop i) := by rw [← allR_app, List.take_append_drop]
  rw [e, List.length_append]
  omega
theorem low_times {W V S T : Int} (hS : 0 < S) (hT : 0 < T) : timesM (low W S).1 (low W S).2 (low V T).1 (low V T).2 = low (W * V) (S * T) := ((isQ_low (W := W) hS).times (isQ_low (W := V) hT) hS hT).low (Int.mul_pos hS hT)
set_option maxHeartbeats 4000000 in
theorem ok_mixed {f f1 f2 f3 f4 f5 f6 : Addr} {fd d1 d2 d3 d4 d5 d6 : FuncData} (A : FnAt K mg "mixed" s_mixed ["parts"] f fd) (A_times : FnAt K mg "times" s_times ["one", "other"] f1 d1) (A_gathered : FnAt K mg "gathered" s_gathered ["pairs"] f2 d2) (A_plus : FnAt K mg "plus" s_plus ["one", "other"] f3 d3) (A_greatest_divisor : FnAt K mg "greatest_divisor" s_greatest_divisor ["one", "other"] f4 d4)
    (A_in_order : FnAt K mg "in_order" s_in_order ["outcomes"] f5 d5) (A_rank : FnAt K mg "rank" s_rank ["outcome"] f6 d6) (T : Txt K mg C0 C2 cN) : FnOk P w K mg base CX0 6 f fd ["parts"] (sp_mixed K) := by
  have G_times : FnOk P w K mg base CX0 2 f1 d1 _ (sp_times K) := ok_times A_times A_greatest_divisor T
  have G_gathered : FnOk P w K mg base CX0 5 f2 d2 _ (sp_gathered K) := ok_gathered A_gathered A_plus A_greatest_divisor A_in_order A_rank T
  refine A.F.ok sc_mixed (fun vs H Q E h => ?_) (fun cdv Ar outer s H vs Q E hr h => ?_)
  · obtain ⟨a, Sa, Sb, ps, cov, rfl, _⟩ := h
    rfl
  · obtain ⟨a, Sa, Sb, ps, cov, rfl, pm, B, k⟩ := h
    refine ⟨_, (pss_cons (ps_set (i := 1) sc_mixed.nd rfl (Or.inl rfl) (pe_lst pa_nil))
      (pss_cons (ps_for PassesOwn.never rfl (pi_list (pv 0)) (pg_tup rfl (pgs_cons (pg_name (i := 2) sc_mixed.nd rfl (Or.inl rfl)) (pgs_cons (pg_name (i := 3) sc_mixed.nd rfl (Or.inl rfl)) pgs_nil))) (pss_one (ps_for PassesOwn.never rfl (pi_list (pv 3)) (pg_tup rfl (pgs_cons (pg_name (i := 4) sc_mixed.nd rfl (Or.inl rfl)) (pgs_cons (pg_name (i := 5) sc_mixed.nd rfl (Or.inl rfl)) pgs_nil))) (pss_one (ps_expr (pe_bm PySem.F.plainAttrs_list PySem.F.slot_list_append PySem.F.type_list_append mt_append (pv 1) (pa_cons (pe_tup (pa_cons (pv 4) (pa_cons (pe_call G_times (hr.mono (by decide)) rfl A_times.m A_times.F.kp A_times.b .nil pass0 (pa_cons (pv 2) (pa_cons (pv 5) pa_nil))) pa_nil))) pa_nil)))))))
      (pss_one (ps_ret (pe_call G_gathered (hr.mono (by decide)) rfl A_gathered.m A_gathered.F.kp A_gathered.b .nil pass0 (pa_cons (pv 1) pa_nil)))))), ?_⟩
    obtain ⟨vs, ea, lv, itm⟩ := pm
    refine ⟨Nat.zero_le _, fun D hD => ?_⟩
    refine ⟨_, rfl, a, rfl, ⟨_, SqL.of (Same.upd hD _ _ ea)⟩, for_list (K := K) (a := a) (xs := vs) (fun i σ H' => Same H H' ∧ ∃ ys o2 o3 o4 o5, σ = [some (.ref a), some (.ref D), o2, o3, o4, o5] ∧ H' D = some (.lst ys) ∧ DatsAt K H' ys ((allR (ps.take i)).map (parD (Sa * Sb))))
      ⟨.upd hD, [], none, none, none, none, rfl, upd_same, .nil⟩ (fun i σ H' _ z => SqL.of (z.1 _ _ ea)) ?_ ?_⟩
    · rintro i x σ H1 hx ⟨S1, ys, o2, o3, o4, o5, rfl, eD, hy⟩
      have hi : i < ps.length := by
        have := (List.getElem?_eq_some_iff.mp hx).1
        omega
      have ep : ps[i]? = some ps[i] := List.getElem?_eq_getElem hi
      generalize ps[i] = p at ep
      have pmem := List.mem_of_getElem? ep
      obtain ⟨r, u, rfl, sr, hu, ⟨us, eu, du⟩⟩ := itm i x p hx ep
      have lu := du.length
      rw [List.length_map] at lu
      refine ⟨r, _, rfl, S1.tup sr, rfl, _, _, rfl, _, _, rfl, rfl, ?_⟩
      refine ⟨_, rfl, p.2.1, rfl, ⟨_, SqL.of (S1 _ _ eu)⟩, for_list (K := K) (a := p.2.1) (xs := us) (fun j σ H' => Same H H' ∧ ∃ ys o4 o5, σ = [some (.ref a), some (.ref D), some u, some (.ref p.2.1), o4, o5] ∧ H' D = some (.lst ys) ∧ DatsAt K H' ys ((allR (ps.take i) ++ (p.2.2.take j).map fun r => (r.1, p.1 * r.2)).map (parD (Sa * Sb))))
        ⟨S1, ys, _, _, rfl, eD, by rw [List.take_zero, List.map_nil, List.append_nil]; exact hy⟩ (fun j σ H' _ z => SqL.of (z.1 _ _ eu)) ?_ ?_⟩
      · rintro j y σ H2 hy2 ⟨S2, zs, o4, o5, rfl, eD2, hz⟩
        obtain ⟨d, ed, hyd⟩ := (du.same S2).get' hy2
        obtain ⟨q, eq, rfl⟩ := map_get ed
        have qmem := List.mem_of_getElem? eq
        obtain ⟨t, va, vb, rfl, g1, g2, g3⟩ := DatAt.pr (p := (q.1, frD (low q.2 Sb))) hyd
        obtain ⟨ru, rfl, su⟩ := (hu.same S2).fr
        obtain ⟨rs, rfl, ss⟩ := DatAt.fr (p := low q.2 Sb) g3
        have bw := B.wt p pmem
        have br := B.rw_ p pmem q qmem
        have m1 := low_sm bw.1 bw.2 B.sa.1 B.sa.2
        have m2 := low_sm br.2.1 br.2.2 B.sb.1 B.sb.2
        have lz := hz.length
        have hj : j < p.2.2.length := (List.getElem?_eq_some_iff.mp eq).1
        have fz : zs.length ≤ 1000 := by
          have h1 := allR_pre ps (i + 1)
          have h2 := B.few
          rw [allR_take ep, List.length_append, List.length_map] at h1
          rw [List.length_map, List.length_append, List.length_map, List.length_take] at lz
          omega
        refine ⟨t, _, rfl, g1, rfl, _, _, rfl, _, _, rfl, rfl, ?_⟩
        refine ⟨_, rfl, .inl ⟨rfl, _, SqL.of eD2⟩, _, rfl, _, rfl, _, rfl, ru, rs, _, _, _, _, rfl, su, ss, (low_Low B.sa.1).pos, (low_Low B.sb.1).pos, m1.1, m1.2, m2.1, m2.2, fun r1 H3 S3 hr1 => ⟨two_le, fun t2 ht2 => ?_⟩⟩
        rw [low_times B.sa.1 B.sb.1] at hr1
        have S4 : Same H2 (upd H3 t2 (.tup [va, .ref r1])) := S3.updR ht2
        have et2 : (upd H3 t2 (.tup [va, .ref r1])) t2 = some (.tup [va, .ref r1]) := upd_same
        have hr2 := (Same.upd (o := .tup [va, .ref r1]) ht2) _ _ hr1
        generalize upd H3 t2 (.tup [va, .ref r1]) = H4 at S4 et2 hr2
        refine ⟨D, zs, _, rfl, rfl, S4 _ _ eD2, Nat.lt_of_le_of_lt fz (by decide), ?_⟩
        obtain ⟨w1, w2, w3⟩ := snoc_ok (v := .ref t2) (d := parD (Sa * Sb) (q.1, p.1 * q.2)) hD (S2.trans S4) (S4 _ _ eD2) (hz.same S4) (datAt_pr (p := (q.1, frD (low (p.1 * q.2) (Sa * Sb)))) (SqT.of et2) (g2.same S4) (datAt_fr (SqT.of hr2)))
        refine ⟨w1, _, _, _, rfl, w2, ?_⟩
        have e9 : allR (ps.take i) ++ (p.2.2.take (j + 1)).map (fun r => (r.1, p.1 * r.2)) = (allR (ps.take i) ++ (p.2.2.take j).map fun r => (r.1, p.1 * r.2)) ++ [(q.1, p.1 * q.2)] := by
          rw [take_snoc' eq, List.map_append, ← List.append_assoc]
          rfl
        rw [e9, List.map_append]
        exact w3
      · rintro σ H2 ⟨S2, zs, o4, o5, rfl, eD2, hz⟩
        refine ⟨S2, zs, _, _, _, _, rfl, eD2, ?_⟩
        have e9 : p.2.2.take us.length = p.2.2 := List.take_of_length_le (by omega)
        rw [e9] at hz
        rw [allR_take ep]
        exact hz
    · rintro σ H1 ⟨S1, ys, o2, o3, o4, o5, rfl, eD, hy⟩
      rw [List.take_of_length_le (by omega)] at hy
      refine ⟨_, rfl, D, ys, allR ps, Sa * Sb, cov, rfl, SqL.of eD, hy, B.sc, fun r hr => ?_, B.few, B.cv, B.cl, fun es srt mem D2 H2 S2 hD2 ls => k es srt mem D2 H2 (S1.trans S2) (S1.free hD2) ls⟩
      obtain ⟨p, hp, q, hq, e⟩ := allR_mem hr
      rw [e]
      exact (B.rw_ p hp q hq).1
end
end K09
namespace K09
open PySem L2 FW PyProof.Rows
def overM (a b c d : Int) : Int × Int := if c < 0 then timesM a b (-d) (-c) else timesM a b d c
def sp_over (K : PySem.W.Frag) (C : Addr) : Sp := fun vs H Q E => ∃ p q a b c d, vs = [.ref p, .ref q] ∧ SqT K H p [.int a, .int b] ∧ SqT K H q [.int c, .int d] ∧ 0 < b ∧ 0 < d ∧ Sm a ∧ Sm b ∧ Sm c ∧ Sm d ∧
  (c = 0 → E (.ref C) none H) ∧ (c ≠ 0 → tupQ H Q (overM a b c d).1 (overM a b c d).2)
def sp_total (K : PySem.W.Frag) : Sp := fun vs H Q _ => ∃ a ws rows S, vs = [.ref a] ∧ SqL K H a ws ∧ DatsAt K H ws (rows.map (parD S)) ∧ Sc S rows ∧ datQ K H Q (frD (low (sumW rows) S))
def sp_scaled (K : PySem.W.Frag) (C : Addr) : Sp := fun vs H Q E => ∃ a ws rows S, vs = [.ref a] ∧ SqL K H a ws ∧ DatsAt K H ws (rows.map (parD S)) ∧ Sc S rows ∧ rows.length ≤ 1000 ∧
  (sumW rows = 0 → ∀ H', Same H H' → E (.ref C) none H') ∧ (sumW rows ≠ 0 → lstQ K H Q (rows.map (parD (sumW rows))))
def sp_without (K : PySem.W.Frag) : Sp := fun vs H Q _ => ∃ a ws, ∃ ps : List (Dt × Dt), ∃ v o, vs = [.ref a, v] ∧ SqL K H a ws ∧ DatsAt K H ws (ps.map prD) ∧ DatAt K H v o ∧ (∀ p ∈ ps, p.1.hgt ≤ 30) ∧ ps.length ≤ 1000 ∧
  lstQ K H Q ((ps.filter fun p => !Dt.beq p.1 o).map prD)
section
variable {P : Program} {w : World} {K : PySem.W.Frag} {mg : Str → Option Value} {base : Heap} {C0 C2 cN : Addr}
theorem ok_over {f fT fG : Addr} {fd fdT fdG : FuncData} (A : FnAt K mg "over" s_over ["one", "other"] f fd) (A_times : FnAt K mg "times" s_times ["one", "other"] fT fdT) (A_greatest_divisor : FnAt K mg "greatest_divisor" s_greatest_divisor ["one", "other"] fG fdG) (T : Txt K mg C0 C2 cN) :
    FnOk P w K mg base (CXe P w) 3 f fd ["one", "other"] (sp_over K C0) := by
  have G_times : FnOk P w K mg base CX0 2 fT fdT _ (sp_times K) := ok_times A_times A_greatest_divisor T
  refine A.F.okE sc_over (fun vs H Q E h => ?_) (fun cdv Ar outer s H vs Q E hr h => ?_)
  · obtain ⟨p, q, a, b, c, d, rfl, _⟩ := h
    rfl
  · obtain ⟨p, q, a, b, c, d, rfl, hp, hq, hb, hd, sa, sb, sc, sd, k0, k1⟩ := h
    refine ⟨_, (pss_cons (ps_if (pt_cmpR op_eq (pe_ix ix_tup (pv 1) pe_int (fun _ _ => rfl)) pe_int (nomark _)) (pss_one (ps_raise T.NoShare_ rfl rfl pe_str throws_of)) pss_nil)
      (pss_cons (ps_if (pt_cmpR op_lt (pe_ix ix_tup (pv 1) pe_int (fun _ _ => rfl)) pe_int (nomark _)) (pss_one (ps_ret (pe_call G_times (hr.mono (by decide)) rfl A_times.m A_times.F.kp A_times.b .nil pass0 (pa_cons (pv 0) (pa_cons (pe_tup (pa_cons (pe_un un_neg (pe_ix ix_tup (pv 1) pe_int (fun _ _ => rfl))) (pa_cons (pe_un un_neg (pe_ix ix_tup (pv 1) pe_int (fun _ _ => rfl))) pa_nil))) pa_nil))))) pss_nil)
      (pss_one (ps_ret (pe_call G_times (hr.mono (by decide)) rfl A_times.m A_times.F.kp A_times.b .nil pass0 (pa_cons (pv 0) (pa_cons (pe_tup (pa_cons (pe_ix ix_tup (pv 1) pe_int (fun _ _ => rfl)) (pa_cons (pe_ix ix_tup (pv 1) pe_int (fun _ _ => rfl)) pa_nil))) pa_nil))))))), ?_⟩
    refine ⟨_, rfl, q, _, 0, .int c, rfl, rfl, hq, rfl, rfl, _, rfl, iteBB (fun hc => ?_) (fun hc => ?_)⟩
    · have h0 : c = 0 := by simpa using hc
      exact ⟨rfl, k0 h0⟩
    · have h0 : c ≠ 0 := by simpa using hc
      have k := k1 h0
      unfold overM at k
      refine ⟨_, rfl, q, _, 0, .int c, rfl, rfl, hq, rfl, _, _, rfl, rfl, _, rfl, iteBB (fun hn => ?_) (fun hn => ?_)⟩
      · have hb' : c < 0 := by simpa using hn
        rw [if_pos hb'] at k
        refine ⟨_, rfl, _, rfl, q, _, 1, .int d, rfl, rfl, hq, rfl, d, rfl, _, rfl, q, _, 0, .int c, rfl, rfl, hq, rfl, c, rfl, two_le, fun t ht => ?_⟩
        refine ⟨p, t, a, b, -d, -c, rfl, (Same.upd ht).tup hp, SqT.of upd_same, hb, by omega, sa, sb, sd.le (by omega), sc.le (by omega), fun r H' e hr => ?_⟩
        exact k r H' ((Same.upd ht).trans e) hr
      · have hb' : ¬ c < 0 := by simpa using hn
        rw [if_neg hb'] at k
        refine ⟨_, rfl, _, rfl, q, _, 1, .int d, rfl, rfl, hq, rfl, _, rfl, q, _, 0, .int c, rfl, rfl, hq, rfl, two_le, fun t ht => ?_⟩
        refine ⟨p, t, a, b, d, c, rfl, (Same.upd ht).tup hp, SqT.of upd_same, hb, by omega, sa, sb, sd, sc, fun r H' e hr => ?_⟩
        exact k r H' ((Same.upd ht).trans e) hr
theorem ok_total {f fP fG : Addr} {fd fdP fdG : FuncData} (A : FnAt K mg "total" s_total ["table"] f fd) (A_plus : FnAt K mg "plus" s_plus ["one", "other"] fP fdP) (A_greatest_divisor : FnAt K mg "greatest_divisor" s_greatest_divisor ["one", "other"] fG fdG) (T : Txt K mg C0 C2 cN) :
    FnOk P w K mg base CX0 3 f fd ["table"] (sp_total K) := by
  have G_plus : FnOk P w K mg base CX0 2 fP fdP _ (sp_plus K) := ok_plus A_plus A_greatest_divisor T
  refine A.F.ok sc_total (fun vs H Q E h => ?_) (fun cdv Ar outer s H vs Q E hr h => ?_)
  · obtain ⟨a, ws, rows, S, rfl, _⟩ := h
    rfl
  · obtain ⟨a, ws, rows, S, rfl, hl, hd, sc, k⟩ := h
    refine ⟨_, (pss_cons (ps_set (i := 1) sc_total.nd rfl (Or.inl rfl) (pe_glob rfl T.NOUGHT (v := .ref cN) rfl))
      (pss_cons (ps_for PassesOwn.never rfl (pi_list (pv 0)) (pg_tup rfl (pgs_cons (pg_name (i := 2) sc_total.nd rfl (Or.inl rfl)) (pgs_cons (pg_name (i := 3) sc_total.nd rfl (Or.inl rfl)) pgs_nil))) (pss_one (ps_set (i := 1) sc_total.nd rfl (Or.inl rfl) (pe_call G_plus (hr.mono (by decide)) rfl A_plus.m A_plus.F.kp A_plus.b .nil pass0 (pa_cons (pv 1) (pa_cons (pv 3) pa_nil))))))
      (pss_one (ps_ret (pv 1))))), ?_⟩
    have hlen := hd.length
    rw [List.length_map] at hlen
    refine ⟨_, rfl, a, rfl, ⟨_, hl⟩, for_list (K := K) (a := a) (xs := ws) (fun i σ H' => Same H H' ∧ ∃ u o1 o2, σ = [some (.ref a), some u, o1, o2] ∧ DatAt K H' u (frD (low (sumW (rows.take i)) S)))
      ⟨.refl _, .ref cN, none, none, rfl, ?z⟩ (fun i σ H' _ z => z.1.seq hl) ?_ ?_⟩
    case z =>
      rw [List.take_zero, sumW_nil, low_zero sc.pos]
      exact datAt_fr (T.nought H)
    · rintro i x σ H' hx ⟨S1, u, o1, o2, rfl, hu⟩
      obtain ⟨d, ed, hxd⟩ := (hd.same S1).get' hx
      obtain ⟨r, er, rfl⟩ := map_get ed
      obtain ⟨q, va, vb, rfl, h1, h2, h3⟩ := DatAt.pr (p := (r.1, frD (low r.2 S))) hxd
      refine ⟨q, _, rfl, h1, rfl, _, _, rfl, _, _, rfl, rfl, ?_⟩
      obtain ⟨ru, rfl, su⟩ := hu.fr
      obtain ⟨rs, rfl, ss⟩ := DatAt.fr (p := low r.2 S) h3
      have hr2 := sc.nn r (List.mem_of_getElem? er)
      have b1 := sumW_take sc.nn i
      have b2 := sumW_mem sc.nn r (List.mem_of_getElem? er)
      have t := sc.top
      have m1 := low_sm b1.1 (Int.le_trans b1.2 t) sc.pos sc.big
      have m2 := low_sm hr2 (Int.le_trans b2 t) sc.pos sc.big
      refine ⟨_, rfl, _, rfl, ru, rs, _, _, _, _, rfl, su, ss, (low_Low sc.pos).pos, (low_Low sc.pos).pos, m1.1, m1.2, m2.1, m2.2, fun r1 H2 S2 hr1 => ?_⟩
      rw [plus_low sc.pos] at hr1
      refine ⟨S1.trans S2, .ref r1, _, _, rfl, ?_⟩
      rw [take_snoc' er, sumW_snoc]
      exact datAt_fr (SqT.of hr1)
    · rintro σ H' ⟨S1, u, o1, o2, rfl, hu⟩
      rw [List.take_of_length_le (by omega)] at hu
      exact ⟨_, rfl, k u H' S1 hu⟩
theorem ok_scaled {f fT fO fX fP fG : Addr} {fd fdT fdO fdX fdP fdG : FuncData} (A : FnAt K mg "scaled" s_scaled ["table"] f fd) (A_total : FnAt K mg "total" s_total ["table"] fT fdT) (A_over : FnAt K mg "over" s_over ["one", "other"] fO fdO) (A_times : FnAt K mg "times" s_times ["one", "other"] fX fdX)
    (A_plus : FnAt K mg "plus" s_plus ["one", "other"] fP fdP) (A_greatest_divisor : FnAt K mg "greatest_divisor" s_greatest_divisor ["one", "other"] fG fdG) (T : Txt K mg C0 C2 cN) : FnOk P w K mg base (CXe P w) 4 f fd ["table"] (sp_scaled K C2) := by
  have G_total : FnOk P w K mg base CX0 3 fT fdT _ (sp_total K) := ok_total A_total A_plus A_greatest_divisor T
  have G_over : FnOk P w K mg base (CXe P w) 3 fO fdO _ (sp_over K C0) := ok_over A_over A_times A_greatest_divisor T
  refine A.F.okE sc_scaled (fun vs H Q E h => ?_) (fun cdv Ar outer s H vs Q E hr h => ?_)
  · obtain ⟨a, ws, rows, S, rfl, _⟩ := h
    rfl
  · obtain ⟨a, ws, rows, S, rfl, hl, hd, sc, few, k0, k1⟩ := h
    refine ⟨_, (pss_cons (ps_set (i := 1) sc_scaled.nd rfl (Or.inr rfl) (pe_call G_total (hr.mono (by decide)) rfl A_total.m A_total.F.kp A_total.b .nil pass0 (pa_cons (pv 0) pa_nil)))
      (pss_cons (ps_if (pt_cmpR (op_eqD hr.units) (pv 1) (pe_glob rfl T.NOUGHT (v := .ref cN) rfl) (nomark _)) (pss_one (ps_raise T.Never_ rfl rfl pe_str throws_of)) pss_nil)
      (pss_one (ps_ret (pe_comp rfl (Nc := ["outcome", "share", "whole"]) (caps1 2 1 [(".0", .local), ("outcome", .local), ("share", .local), ("over", .globalImplicit), ("whole", .cell)] rfl rfl rfl (by decide +kernel) (by decide +kernel) rfl (by decide +kernel) rfl rfl rfl rfl) (pi_list (pv 0)) (fun _ _ _ _ => by exact (pg_tupK (K := K) (n := 2) rfl rfl (pgs_cons (pg_name (i := 0) (show List.Nodup (["outcome", "share", "whole"] : List Str) by decide +kernel) rfl (Or.inl rfl)) (pgs_cons (pg_name (i := 1) (show List.Nodup (["outcome", "share", "whole"] : List Str) by decide +kernel) rfl (Or.inl rfl)) pgs_nil)))) (fun _ _ _ _ => pts_nil) (fun _ _ _ _ => by exact (pe_tup (pa_cons (pv 0) (pa_cons (pe_call G_over (hr.mono (by decide)) rfl A_over.m A_over.F.kp A_over.b .nil passE (pa_cons (pv 1) (pa_cons (pv 2) pa_nil))) pa_nil))))))))), ?_⟩
    have hlen := hd.length
    rw [List.length_map] at hlen
    refine ⟨_, rfl, a, ws, rows, S, rfl, hl, hd, sc, fun u H1 S1 hu => ?_⟩
    refine ⟨_, rfl, _, frD (0, 1), hu, datAt_fr (T.nought H1), Nat.le_trans (hgt_frD _) (by decide), _, rfl, iteBB (fun hc => ?_) (fun hc => ?_)⟩
    · have e := frD_inj ((Dt.beq_iff _ _).mp hc)
      exact ⟨rfl, k0 (low_is_zero sc.pos e) H1 S1⟩
    · have hW0 : sumW rows ≠ 0 := fun z => by
        rw [z, low_zero sc.pos, Dt.beq_self] at hc
        cases hc
      have hW : 0 < sumW rows := by
        have := sumW_nn sc.nn
        omega
      have kk := k1 hW0
      refine ⟨_, rfl, a, rfl, ⟨_, S1.seq hl⟩, fun D hD => ?_⟩
      refine comp_list (K := K) (a := a) (D := D) (xs := ws) (fun i σ ys H' => (∃ o1 o2, σ = [o1, o2, some u]) ∧ Same H1 H' ∧ H' D = some (.lst ys) ∧ DatsAt K H' ys ((rows.take i).map (parD (sumW rows))))
        ⟨⟨none, none, rfl⟩, .upd hD, upd_same, .nil⟩ ?_ ?_ ?_
      · rintro i σ ys H' hi ⟨_, S2, eD, hy⟩
        have := hy.length
        rw [List.length_map, List.length_take] at this
        exact ⟨S2.seq (S1.seq hl), eD, Nat.lt_of_le_of_lt (show ys.length ≤ 1000 by omega) (by decide)⟩
      · rintro i x σ ys H' hx ⟨⟨o1, o2, rfl⟩, S2, eD, hy⟩ N hN
        obtain ⟨d, ed, hxd⟩ := (hd.same (S1.trans S2)).get' hx
        obtain ⟨r, er, rfl⟩ := map_get ed
        obtain ⟨q, va, vb, rfl, h1, h2, h3⟩ := DatAt.pr (p := (r.1, frD (low r.2 S))) hxd
        refine ⟨q, _, rfl, h1, rfl, _, _, rfl, _, _, rfl, rfl, ?_⟩
        refine iteT (B := True) ?_
        obtain ⟨ru, rfl, su⟩ := (hu.same S2).fr
        obtain ⟨rs, rfl, ss⟩ := DatAt.fr (p := low r.2 S) h3
        have hr2 := sc.nn r (List.mem_of_getElem? er)
        have b2 := sumW_mem sc.nn r (List.mem_of_getElem? er)
        have m1 := low_sm (Int.le_of_lt hW) sc.top sc.pos sc.big
        have m2 := low_sm hr2 (Int.le_trans b2 sc.top) sc.pos sc.big
        have tp := low_top_pos sc.pos hW
        refine ⟨_, rfl, _, rfl, _, rfl, rs, ru, _, _, _, _, rfl, ss, su, (low_Low sc.pos).pos, (low_Low sc.pos).pos, m2.1, m2.2, m1.1, m1.2, fun z => absurd z (by omega), fun _ r1 H3 S3 hr1 => ⟨two_le, fun t ht => ?_⟩⟩
        have eo : overM (low r.2 S).1 (low r.2 S).2 (low (sumW rows) S).1 (low (sumW rows) S).2 = low r.2 (sumW rows) := by
          unfold overM
          rw [if_neg (by omega)]
          have lo : Low (low (sumW rows) S).2 (low (sumW rows) S).1 := ⟨tp, by rw [Int.gcd_comm]; exact (low_Low sc.pos).cop⟩
          rw [timesM_low (low_Low sc.pos) lo]
          exact over_low sc.pos hW
        rw [eo] at hr1
        have S4 : Same H' (upd H3 t (.tup [va, .ref r1])) := S3.updR ht
        have e4 := S4 _ _ eD
        refine ⟨e4, hN _ _ _ ?_⟩
        obtain ⟨w1, w2, w3⟩ := snoc_ok (v := .ref t) (d := parD (sumW rows) r) hD (S2.trans S4) e4 (hy.same S4) (datAt_pr (p := (r.1, frD (low r.2 (sumW rows)))) (SqT.of upd_same) (h2.same S4) (datAt_fr (SqT.of ((Same.upd ht) _ _ hr1))))
        refine ⟨⟨_, _, rfl⟩, w1, w2, ?_⟩
        rw [take_snoc' er, List.map_append]
        exact w3
      · rintro σ ys H' ⟨_, S2, eD, hy⟩
        rw [List.take_of_length_le (by omega)] at hy
        exact kk D H' (S1.trans S2) (S1.free hD) ⟨ys, eD, hy⟩
theorem ok_without {f : Addr} {fd : FuncData} (A : FnAt K mg "without" s_without ["table", "outcome"] f fd) (_T : Txt K mg C0 C2 cN) : FnOk P w K mg base CX0 1 f fd ["table", "outcome"] (sp_without K) := by
  refine A.F.ok sc_without (fun vs H Q E h => ?_) (fun cdv Ar outer s H vs Q E hr h => ?_)
  · obtain ⟨a, ws, ps, v, o, rfl, _⟩ := h
    rfl
  · obtain ⟨a, ws, ps, v, o, rfl, hl, hd, hv, hg, few, k⟩ := h
    refine ⟨_, (pss_one (ps_ret (pe_comp rfl (Nc := ["each", "share", "outcome"]) (caps1 2 1 [(".0", .local), ("each", .local), ("share", .local), ("outcome", .cell)] rfl rfl rfl (by decide +kernel) (by decide +kernel) rfl (by decide +kernel) rfl rfl rfl rfl) (pi_list (pv 0)) (fun _ _ _ _ => by exact (pg_tupK (K := K) (n := 2) rfl rfl (pgs_cons (pg_name (i := 0) (show List.Nodup (["each", "share", "outcome"] : List Str) by decide +kernel) rfl (Or.inl rfl)) (pgs_cons (pg_name (i := 1) (show List.Nodup (["each", "share", "outcome"] : List Str) by decide +kernel) rfl (Or.inl rfl)) pgs_nil)))) (fun _ _ _ _ => by exact (pts_one (pt_cmpR (op_neDK (K := K) rfl hr.units) (pv 0) (pv 2) (nomark _)))) (fun _ _ _ _ => by exact (pe_tup (pa_cons (pv 0) (pa_cons (pv 1) pa_nil))))))), ?_⟩
    have hlen := hd.length
    rw [List.length_map] at hlen
    refine ⟨_, rfl, a, rfl, ⟨_, hl⟩, fun D hD => ?_⟩
    refine comp_list (K := K) (a := a) (D := D) (xs := ws) (fun i σ ys H' => (∃ o1 o2, σ = [o1, o2, some v]) ∧ Same H H' ∧ H' D = some (.lst ys) ∧ DatsAt K H' ys (((ps.take i).filter fun p => !Dt.beq p.1 o).map prD))
      ⟨⟨none, none, rfl⟩, .upd hD, upd_same, .nil⟩ ?_ ?_ ?_
    · rintro i σ ys H' hi ⟨_, S2, eD, hy⟩
      have e1 := hy.length
      rw [List.length_map] at e1
      have e2 := List.length_filter_le (fun p : Dt × Dt => !Dt.beq p.1 o) (ps.take i)
      rw [List.length_take] at e2
      exact ⟨S2.seq hl, eD, Nat.lt_of_le_of_lt (show ys.length ≤ 1000 by omega) (by decide)⟩
    · rintro i x σ ys H' hx ⟨⟨o1, o2, rfl⟩, S2, eD, hy⟩ N hN
      obtain ⟨d, ed, hxd⟩ := (hd.same S2).get' hx
      obtain ⟨p, ep, rfl⟩ := map_get ed
      obtain ⟨q, va, vb, rfl, h1, h2, h3⟩ := hxd.pr
      refine ⟨q, _, rfl, h1, rfl, _, _, rfl, _, _, rfl, rfl, ?_⟩
      refine ⟨_, rfl, _, rfl, p.1, o, h2, hv.same S2, hg p (List.mem_of_getElem? ep), _, rfl, iteBB (fun hc => ?_) (fun hc => ?_)⟩
      · refine ⟨_, rfl, _, rfl, two_le, fun t ht => ?_⟩
        have S4 : Same H' (upd H' t (.tup [va, vb])) := .upd ht
        have e4 := S4 _ _ eD
        refine ⟨e4, hN _ _ _ ?_⟩
        obtain ⟨w1, w2, w3⟩ := snoc_ok (v := .ref t) (d := prD p) hD (S2.trans S4) e4 (hy.same S4) (datAt_pr (SqT.of upd_same) (h2.same S4) (h3.same S4))
        refine ⟨⟨_, _, rfl⟩, w1, w2, ?_⟩
        rw [take_snoc' ep, List.filter_append, List.map_append]
        have ef : [p].filter (fun p => !Dt.beq p.1 o) = [p] := by simp [List.filter, hc]
        rw [ef]
        exact w3
      · refine hN _ _ _ ⟨⟨_, _, rfl⟩, S2, eD, ?_⟩
        rw [take_snoc' ep, List.filter_append]
        have ef : [p].filter (fun p => !Dt.beq p.1 o) = [] := by simp [List.filter, hc]
        rw [ef, List.append_nil]
        exact hy
    · rintro σ ys H' ⟨_, S2, eD, hy⟩
      rw [List.take_of_length_le (by omega)] at hy
      exact k D H' S2 hD ⟨ys, eD, hy⟩
theorem ok_table {f fG : Addr} {fd fdG : FuncData} (A : FnAt K mg "table" s_table ["pairs"] f fd) (A_gathered : FnAt K mg "gathered" s_gathered ["pairs"] fG fdG) (G_gathered : FnOk P w K mg base CX0 5 fG fdG ["pairs"] (sp_gathered K)) : FnOk P w K mg base CX0 6 f fd ["pairs"] (sp_gathered K) := by
  refine A.F.ok (k := 5) sc_table (fun vs H Q E h => ?_) (fun cdv Ar outer s H vs Q E hr h => ?_)
  · obtain ⟨a, ws, rows, S, cov, rfl, _⟩ := h
    rfl
  · obtain ⟨a, ws, rows, S, cov, rfl, h⟩ := h
    exact ⟨_, (pss_one (ps_ret (pe_call G_gathered (hr.mono (by decide)) rfl A_gathered.m A_gathered.F.kp A_gathered.b .nil pass0 (pa_cons (pv 0) pa_nil)))), _, rfl, a, ws, rows, S, cov, rfl, h⟩
end
end K09
namespace K09
open PySem L2 FW PyProof.Rows
/-- something that is no list and no tuple stands there -/
def Odd (H : Hp) (a : Addr) : Prop := ∃ u, H a = some u ∧ (∀ vs, u ≠ .tup vs) ∧ (∀ q v, u ≠ .frz q v) ∧ ∀ xs, u ≠ .lst xs
theorem Odd.tbl {H : Hp} {a : Addr} {ps : Array Value} (h : H a = some (.tbl ps)) : Odd H a := ⟨_, h, (fun _ z => nomatch z), (fun _ _ z => nomatch z), (fun _ z => nomatch z)⟩
theorem Odd.nt {H : Hp} {a : Addr} (h : Odd H a) : NT H a := fun o e => by
  obtain ⟨u, h1, h2, h3, h4⟩ := h
  rw [h1] at e
  cases e
  exact ⟨h2, fun q vs => h3 q _⟩
theorem Odd.ne {H : Hp} {a b : Addr} {xs : List V} (h : Odd H a) (e : H b = some (.lst xs)) : b ≠ a := fun z => by
  obtain ⟨u, h1, h2, h3, h4⟩ := h
  rw [z, h1] at e
  cases e
  exact h4 _ rfl
theorem LsM.odd {K : PySem.W.Frag} {H H' : Hp} {a b : Addr} {ds : List Dt} (h : LsM K H b ds) (o : Odd H a) (e : BtA a H H') : LsM K H' b ds := by
  obtain ⟨us, e1, _⟩ := id h
  exact h.but o.nt e (o.ne e1)
/-- what is known of the code that makes a lambda -/
structure Mks (K : PySem.W.Frag) (mg : Str → Option Value) (c Pt : Addr) : Prop where
  hhd : ∀ h : Heap, K.In h → PySem.W.CodeHd h c Pt
  hP : mainGlobals ≠ Pt
  hB : ∀ h : Heap, K.In h → h.BuiltinsAt mg Pt
theorem free_of {l : List (Str × NameKind)} {cs : List Str} (h : ∀ y ∈ l, y.2 = .free → y.1 ∈ cs) : ∀ x, l.lookup x = some .free → x ∈ cs := fun x e => h (x, .free) (PySem.mem_of_lookup e) rfl
theorem back_same {H H' : Hp} {cs : List Addr} (e : Same (hid H cs) H') : Same H (back H H' cs) := fun b o eb => by
  by_cases m : b ∈ cs
  · rw [back_in m]; exact eb
  · rw [back_out m]; exact e b o (by rw [hid_out m]; exact eb)
theorem CapsAt.same {H H' : Hp} : ∀ {cl : List (Str × Addr)} {vs : List V}, CapsAt H cl vs → Same H H' → CapsAt H' cl vs
  | _, _, .nil, _ => .nil
  | _, _, .cons e d r t, S => .cons (S _ _ e) d r (CapsAt.same t S)
/-- data stay where only such things are hidden, and where they come back -/
theorem sqT_to {K : PySem.W.Frag} {H H' : Hp} (tp : ∀ b vs, H b = some (.tup vs) → H' b = some (.tup vs)) (fz : ∀ b o vs, H b = some (.frz o (.tup vs)) → H' b = some (.frz o (.tup vs))) {r : Addr} {vs : List V} (h : SqT K H r vs) : SqT K H' r vs := by
  rcases h with (h | ⟨o, h⟩) | h
  · exact .inl (.inl (tp _ _ h))
  · exact .inl (.inr ⟨o, fz _ _ _ h⟩)
  · exact .inr h
mutual
theorem datAt_to {K : PySem.W.Frag} {H H' : Hp} (tp : ∀ b vs, H b = some (.tup vs) → H' b = some (.tup vs)) (fz : ∀ b o vs, H b = some (.frz o (.tup vs)) → H' b = some (.frz o (.tup vs))) : ∀ {v : V} {d : Dt}, DatAt K H v d → DatAt K H' v d
  | v, .non, h => by simpa [DatAt] using h
  | v, .int i, h => by simpa [DatAt] using h
  | v, .str i, h => by simpa [DatAt] using h
  | v, .tup ds, h => by
    obtain ⟨r, vs, rfl, h1, h2⟩ := h.un
    exact .tup (sqT_to tp fz h1) (datsAt_to tp fz h2)
theorem datsAt_to {K : PySem.W.Frag} {H H' : Hp} (tp : ∀ b vs, H b = some (.tup vs) → H' b = some (.tup vs)) (fz : ∀ b o vs, H b = some (.frz o (.tup vs)) → H' b = some (.frz o (.tup vs))) : ∀ {vs : List V} {ds : List Dt}, DatsAt K H vs ds → DatsAt K H' vs ds
  | vs, [], h => by
    rw [h.un0]
    exact .nil
  | vs, d :: ds, h => by
    obtain ⟨v, r, rfl, h1, h2⟩ := h.un
    exact .cons (datAt_to tp fz h1) (datsAt_to tp fz h2)
end
theorem hid_at {H : Hp} {cs : List Addr} (ob : Obs H cs) {b : Addr} {u : HO} (h : H b = some u) (hu : ∀ φ, u ≠ .ext φ) : hid H cs b = some u := by rw [hid_out (ob.no h hu)]; exact h
theorem dat_hid {K : PySem.W.Frag} {H : Hp} {cs : List Addr} (ob : Obs H cs) {v : V} {d : Dt} (h : DatAt K H v d) : DatAt K (hid H cs) v d := datAt_to (fun _ _ e => hid_at ob e fun _ z => nomatch z) (fun _ _ _ e => hid_at ob e fun _ z => nomatch z) h
theorem ls_hid {K : PySem.W.Frag} {H : Hp} {cs : List Addr} (ob : Obs H cs) {b : Addr} {ds : List Dt} (h : LsM K H b ds) : LsM K (hid H cs) b ds := by
  obtain ⟨us, e, d⟩ := h
  exact ⟨us, (hid_at ob e fun _ z => nomatch z), datsAt_to (fun _ _ e => hid_at ob e fun _ z => nomatch z) (fun _ _ _ e => hid_at ob e fun _ z => nomatch z) d⟩
theorem back_at {H H' : Hp} {cs : List Addr} (fr : ∀ c ∈ cs, H' c = none) {b : Addr} {u : HO} (h : H' b = some u) : back H H' cs b = some u := by
  rw [back_out fun m => by rw [fr b m] at h; cases h]
  exact h
theorem dat_back {K : PySem.W.Frag} {H H' : Hp} {cs : List Addr} (fr : ∀ c ∈ cs, H' c = none) {v : V} {d : Dt} (h : DatAt K H' v d) : DatAt K (back H H' cs) v d := datAt_to (fun _ _ e => back_at fr e) (fun _ _ _ e => back_at fr e) h
/-- the function, its code and its cells -/
structure FxD (f c : Addr) (fo co : Obj) (cl : List (Str × Addr)) (cvs : List V) (H : Hp) : Prop where
  f : H f = some (ObO f fo)
  c : H c = some (ObO c co)
  caps : CapsAt H cl cvs
theorem FxD.mono {f c : Addr} {fo co : Obj} {cl : List (Str × Addr)} {cvs : List V} (H1 H2 : Hp) (h : FxD f c fo co cl cvs H1) (S : Same H1 H2) : FxD f c fo co cl cvs H2 := ⟨S _ _ h.f, S _ _ h.c, CapsAt.same h.caps S⟩
/-- what the function handed to turned promises -/
def spH (K : PySem.W.Frag) (Fx : Hp → Prop) (φ : Dt → Dt) : List V → Hp → VK → Prop := fun vs H Q => Fx H ∧ ∃ v o, vs = [v] ∧ DatAt K H v o ∧ Oc o ∧ datQ K H Q (φ o)
def sp_turned (P : Program) (w : World) (K : PySem.W.Frag) (mg : Str → Option Value) (base : Heap) : Sp := fun vs H Q _ => ∃ (a f : Addr) (fo : Obj) (fd : FuncData) (Fx : Hp → Prop) (φ : Dt → Dt) (rows : List (Dt × Int)) (S : Int), vs = [.ref a, .ref f] ∧ LamOk P w K mg base 3 f (spH K Fx φ) ∧ fo.data = .func fd ∧ H f = some (ObO f fo) ∧
  (∀ H1 H2, Fx H1 → Same H1 H2 → Fx H2) ∧ Fx H ∧ LsM K H a (rows.map (parD S)) ∧ (∀ r ∈ rows, Oc r.1) ∧ (∀ o, Oc o → Oc (φ o)) ∧ Sc S rows ∧ rows.length < 64 ∧
  ∀ es, Srt es → (∀ x, x ∈ es ↔ x ∈ (rows.map fun r => (φ r.1, r.2)).map (·.1)) → lstQ K H Q ((gath S (rows.map fun r => (φ r.1, r.2)) es).map (parD S))
theorem sumW_snd (φ : Dt → Dt) : ∀ rows : List (Dt × Int), sumW (rows.map fun r => (φ r.1, r.2)) = sumW rows
  | [] => rfl
  | r :: l => by
    have := sumW_snd φ l
    simp only [List.map_cons, sumW, List.sum_cons] at this ⊢
    omega
theorem low_k {t b k : Int} (hb : 0 < b) (hk : 0 < k) : low (t * k) (b * k) = low t b := by
  have q := isQ_low (W := t) hb
  have h : IsQ (low t b) (t * k) (b * k) := ⟨q.lo, by rw [← Int.mul_assoc, q.eq, Int.mul_right_comm]⟩
  exact (h.low (Int.mul_pos hb hk)).symm
theorem dvd_wOf {N S : Int} : ∀ {rows : List (Dt × Int)}, (∀ r ∈ rows, S ∣ N * r.2) → S ∣ N * sumW rows
  | [], _ => by rw [sumW_nil, Int.mul_zero]; exact Int.dvd_zero _
  | r :: rows, h => by
    rw [sumW_cons, Int.mul_add]
    exact Int.dvd_add (h r (List.mem_cons_self ..)) (dvd_wOf fun q hq => h q (List.mem_cons_of_mem _ hq))
theorem sumW_scale (c : Int) (φ : Dt → Dt) : ∀ rows : List (Dt × Int), sumW (rows.map fun r => (φ r.1, r.2 * c)) = sumW rows * c
  | [] => by rw [List.map_nil, sumW_nil, Int.zero_mul]
  | r :: l => by rw [List.map_cons, sumW_cons, sumW_cons, sumW_scale c φ l, Int.add_mul]
/-- shares of all outcomes come to the whole -/
theorem one_in {x : Dt} {c : Int} : ∀ {es : List Dt}, es.Nodup → x ∈ es → (es.map fun y => if Dt.beq x y = true then c else 0).sum = c
  | y :: es, nd, hx => by
    rw [List.nodup_cons] at nd
    rw [List.map_cons, List.sum_cons]
    by_cases e : x = y
    · subst e
      rw [if_pos (Dt.beq_self _)]
      have : (es.map fun y => if Dt.beq x y = true then c else 0).sum = 0 := by
        have h : ∀ l : List Dt, x ∉ l → (l.map fun y => if Dt.beq x y = true then c else 0).sum = 0 := fun l => by
          induction l with
          | nil => intro _; rfl
          | cons z l ih =>
            intro hz
            rw [List.map_cons, List.sum_cons, if_neg (fun q => hz (by rw [(Dt.beq_iff _ _).mp q]; exact List.mem_cons_self ..)), ih fun q => hz (List.mem_cons_of_mem _ q)]
            rfl
        exact h es nd.1
      omega
    · rw [if_neg (fun q => e ((Dt.beq_iff _ _).mp q)), one_in nd.2 ((List.mem_cons.mp hx).resolve_left e)]
      omega
theorem sum_wOf : ∀ {rows : List (Dt × Int)} {es : List Dt}, es.Nodup → (∀ r ∈ rows, r.1 ∈ es) → (es.map fun x => wOf rows x).sum = sumW rows
  | [], es, _, _ => by
    have h : ∀ l : List Dt, (l.map fun x => wOf [] x).sum = 0 := fun l => by
      induction l with
      | nil => rfl
      | cons z l ih =>
        rw [List.map_cons, List.sum_cons, ih]
        rfl
    exact h es
  | r :: rows, es, nd, h => by
    have e : ∀ x, wOf (r :: rows) x = (if Dt.beq r.1 x = true then r.2 else 0) + wOf rows x := fun x => by
      have := wOf_app [r] rows x
      rw [wOf_one] at this
      exact this
    have ih := sum_wOf (rows := rows) nd fun q hq => h q (List.mem_cons_of_mem _ hq)
    have s : ∀ l : List Dt, (l.map fun x => wOf (r :: rows) x).sum = (l.map fun x => if Dt.beq r.1 x = true then r.2 else 0).sum + (l.map fun x => wOf rows x).sum := fun l => by
      induction l with
      | nil => rfl
      | cons z l ih2 =>
        rw [List.map_cons, List.sum_cons, List.map_cons, List.sum_cons, List.map_cons, List.sum_cons, ih2, e]
        omega
    rw [s, ih, one_in nd (h r (List.mem_cons_self ..)), sumW_cons]
theorem srt_nd {es : List Dt} (h : Srt es) : es.Nodup := h.imp fun {x y} h z => by rw [z, Dt.lt_self] at h; cases h
theorem sum_same {R rows : List (Dt × Int)} (L : Lw R) (mem : ∀ x, x ∈ R.map (·.1) ↔ x ∈ rows.map (·.1)) (wt : ∀ x, wOf R x = wOf rows x) : sumW R = sumW rows := by
  have nd := srt_nd L.srt
  rw [← sum_wOf (rows := rows) nd fun r hr => (mem r.1).mpr (List.mem_map.mpr ⟨r, hr, rfl⟩), ← sum_wOf (rows := R) nd fun r hr => List.mem_map.mpr ⟨r, hr, rfl⟩]
  congr 1
  exact List.map_congr_left fun x _ => wt x
/-- a table of the heap, over its scale -/
structure Gi (R : List (Dt × Int)) (S : Int) : Prop where
  lw : Lw R
  pos : ∀ r ∈ R, 0 < r.2
  sum : sumW R = S
  s0 : 0 < S
  len : R.length ≤ 5
/-- the divisor of a scale and all weights -/
def gl (S : Int) (R : List (Dt × Int)) : Int := R.foldl (fun a r => g a r.2) S
theorem gl_snoc (S : Int) (R : List (Dt × Int)) (r : Dt × Int) : gl S (R ++ [r]) = g (gl S R) r.2 := by
  unfold gl
  rw [List.foldl_append]
  rfl
theorem gl_cons (S : Int) (r : Dt × Int) (R : List (Dt × Int)) : gl S (r :: R) = gl (g S r.2) R := rfl
theorem gl_dvd : ∀ (R : List (Dt × Int)) (S : Int), gl S R ∣ S ∧ ∀ r ∈ R, gl S R ∣ r.2
  | [], S => ⟨Int.dvd_refl _, (fun _ h => nomatch h)⟩
  | r :: R, S => by
    obtain ⟨h1, h2⟩ := gl_dvd R (g S r.2)
    have d1 : g S r.2 ∣ S := Int.gcd_dvd_left ..
    have d2 : g S r.2 ∣ r.2 := Int.gcd_dvd_right ..
    rw [gl_cons]
    refine ⟨Int.dvd_trans h1 d1, fun q hq => ?_⟩
    rcases List.mem_cons.mp hq with z | z
    · rw [z]
      exact Int.dvd_trans h1 d2
    · exact h2 q z
theorem gl_nn : ∀ (R : List (Dt × Int)) (S : Int), 0 ≤ S → 0 ≤ gl S R
  | [], _, h => h
  | r :: R, S, _ => by
    rw [gl_cons]
    exact gl_nn R _ (Int.natCast_nonneg _)
theorem gl_pos {S : Int} (h : 0 < S) (R : List (Dt × Int)) : 0 < gl S R := by
  have d := (gl_dvd R S).1
  have nn := gl_nn R S (Int.le_of_lt h)
  have ne : gl S R ≠ 0 := fun z => by
    rw [z] at d
    have := Int.zero_dvd.mp d
    omega
  omega
theorem gl_lift {T N : Int} (hN : 0 ≤ N) : ∀ (R : List (Dt × Int)) (S : Int), T ∣ N * S → (∀ r ∈ R, T ∣ N * r.2) → T ∣ N * gl S R
  | [], _, h0, _ => h0
  | r :: R, S, h0, hd => by
    rw [gl_cons]
    refine gl_lift hN R _ ?_ fun q hq => hd q (List.mem_cons_of_mem _ hq)
    have a3 : T ∣ ((Int.gcd (N * S) (N * r.2) : Nat) : Int) := Int.dvd_coe_gcd h0 (hd r (List.mem_cons_self ..))
    rw [Int.gcd_mul_left] at a3
    have eN : ((N.natAbs * Int.gcd S r.2 : Nat) : Int) = N * g S r.2 := by
      rw [Int.natCast_mul, Int.natAbs_of_nonneg hN]
    rw [eN] at a3
    exact a3
/-- the shortened table -/
def shR (c : Int) (R : List (Dt × Int)) : List (Dt × Int) := R.map fun r => (r.1, r.2 / c)
theorem shR_ok {R : List (Dt × Int)} {S N : Int} (G : Gi R S) (hN : 0 < N) (hd : ∀ r ∈ R, S ∣ N * r.2) : Gi (shR (gl S R) R) (S / gl S R) ∧ S / gl S R ∣ N ∧ (shR (gl S R) R).map (parD (S / gl S R)) = R.map (parD S) := by
  have cp := gl_pos G.s0 R
  obtain ⟨dS, dr⟩ := gl_dvd R S
  have lf := gl_lift (T := S) (Int.le_of_lt hN) R S (Int.dvd_mul_left ..) hd
  have eS := Int.ediv_mul_cancel dS
  have sp : 0 < S / gl S R := by
    by_cases z : 0 < S / gl S R
    · exact z
    · have := Int.mul_nonneg_of_nonpos_of_nonpos (a := S / gl S R) (b := -gl S R) (by omega) (by omega)
      rw [Int.mul_neg, eS] at this
      have := G.s0
      omega
  have er : ∀ r ∈ R, r.2 / gl S R * gl S R = r.2 := fun r hr => Int.ediv_mul_cancel (dr r hr)
  have rp : ∀ r ∈ R, 0 < r.2 / gl S R := fun r hr => by
    have h1 := er r hr
    have h2 := G.pos r hr
    by_cases z : 0 < r.2 / gl S R
    · exact z
    · have := Int.mul_nonneg_of_nonpos_of_nonpos (a := r.2 / gl S R) (b := -gl S R) (by omega) (by omega)
      rw [Int.mul_neg, h1] at this
      omega
  generalize gl S R = c at *
  have m1 : (shR c R).map (·.1) = R.map (·.1) := by
    unfold shR
    rw [List.map_map]
    rfl
  refine ⟨⟨⟨fun r hr => ?_, fun r hr => ?_, by rw [m1]; exact G.lw.srt⟩, fun r hr => ?_, ?_, sp, by unfold shR; rw [List.length_map]; exact G.len⟩, ?_, ?_⟩
  · obtain ⟨q, hq, rfl⟩ := List.mem_map.mp hr
    exact G.lw.oc q hq
  · obtain ⟨q, hq, rfl⟩ := List.mem_map.mp hr
    exact Int.le_of_lt (rp q hq)
  · obtain ⟨q, hq, rfl⟩ := List.mem_map.mp hr
    exact rp q hq
  · have h1 : sumW (shR c R) * c = S := by
      rw [← sumW_scale c id (shR c R)]
      have : (shR c R).map (fun r => (id r.1, r.2 * c)) = R := by
        unfold shR
        rw [List.map_map]
        refine (List.map_congr_left (g := id) fun r hr => ?_).trans (List.map_id _)
        show (r.1, r.2 / c * c) = r
        rw [er r hr]
      rw [this]
      exact G.sum
    rw [← h1, Int.mul_ediv_cancel _ (by omega)]
  · have e1 : S / c * c ∣ N * c := by rw [eS]; exact lf
    exact Int.dvd_of_mul_dvd_mul_right (by omega) e1
  · unfold shR
    rw [List.map_map]
    refine List.map_congr_left fun r hr => ?_
    show parD (S / c) (r.1, r.2 / c) = parD S r
    unfold parD
    have := low_k (t := r.2 / c) sp cp
    rw [er r hr, eS] at this
    dsimp only
    rw [this]
section
variable {P : Program} {w : World} {K : PySem.W.Frag} {mg : Str → Option Value} {base : Heap} {C0 C2 cN : Addr}
structure DueAt (K : PySem.W.Frag) (H : Hp) (Du : Addr) (R rows : List (Dt × Int)) : Prop where
  ls : LsM K H Du (R.map rowD)
  lw : Lw R
  mem : ∀ x, x ∈ R.map (·.1) ↔ x ∈ rows.map (·.1)
  wt : ∀ x, wOf R x = wOf rows x
  len : R.length ≤ rows.length
theorem DueAt.same {H H' : Hp} {Du : Addr} {R rows : List (Dt × Int)} (h : DueAt K H Du R rows) (e : Same H H') : DueAt K H' Du R rows := ⟨h.ls.same e, h.lw, h.mem, h.wt, h.len⟩
theorem DueAt.step {H H' : Hp} {Du D' : Addr} {R R' rows : List (Dt × Int)} {x : Dt} {wt : Int} (h : DueAt K H Du R rows) (LO : LayOk R R' x wt) (ls : LsM K H' D' (R'.map rowD)) : DueAt K H' D' R' (rows ++ [(x, wt)]) := by
  refine ⟨ls, LO.1, fun y => ?_, fun y => ?_, ?_⟩
  · rw [LO.2.2.1 y, h.mem y, List.map_append, List.mem_append]
    show _ ↔ _ ∨ y ∈ [x]
    rw [List.mem_singleton]
  · rw [LO.2.2.2 y, h.wt y, wOf_snoc]
  · have h1 := LO.2.1
    have h2 := h.len
    rw [List.length_append]
    show R'.length ≤ rows.length + 1
    omega
set_option maxHeartbeats 1000000 in
theorem ok_turned {f fG : Addr} {fd fdG : FuncData} (A : FnAt K mg "turned" s_turned ["table", "how"] f fd) (A_gathered : FnAt K mg "gathered" s_gathered ["pairs"] fG fdG) (G_gathered : FnOk P w K mg base CX0 5 fG fdG ["pairs"] (sp_gathered K)) (T : Txt K mg C0 C2 cN) : FnOk P w K mg base CX0 6 f fd ["table", "how"] (sp_turned P w K mg base) := by
  refine A.F.ok (k := 5) sc_turned (fun vs H Q E h => ?_) (fun cdv Ar outer s H vs Q E hr h => ?_)
  · obtain ⟨a, f, fo, fd, Fx, φ, rows, S, rfl, _⟩ := h
    rfl
  · obtain ⟨a, fh, fo, fdh, Fx, φ, rows, S, rfl, L, hfd, hfo, fxs, fx, ⟨us, eu, du⟩, oc, ocφ, sc, few, k⟩ := h
    refine ⟨_, (pss_one (ps_ret (pe_call G_gathered (hr.mono (by decide)) rfl A_gathered.m A_gathered.F.kp A_gathered.b .nil pass0 (pa_cons (pe_comp rfl (Nc := ["outcome", "share", "how"]) (caps1 2 1 [(".0", .local), ("outcome", .local), ("share", .local), ("how", .cell)] rfl rfl rfl (by decide +kernel) (by decide +kernel) rfl (by decide +kernel) rfl rfl rfl rfl) (pi_list (pe_callTy call_list_of (by rfl) T.list_ Boot.«list» (pa_cons (pv 0) pa_nil))) (fun _ _ _ _ => by exact (pg_tupK (K := K) (n := 2) rfl rfl (pgs_cons (pg_name (i := 0) (show List.Nodup (["outcome", "share", "how"] : List Str) by decide +kernel) rfl (Or.inl rfl)) (pgs_cons (pg_name (i := 1) (show List.Nodup (["outcome", "share", "how"] : List Str) by decide +kernel) rfl (Or.inl rfl)) pgs_nil)))) (fun _ _ _ _ => pts_nil) (fun _ _ _ _ => by exact (pe_tup (pa_cons (pe_callV (i := 2) L hfd (hr.mono (by decide)) rfl (Or.inr (Or.inl rfl)) (pa_cons (pv 0) pa_nil)) (pa_cons (pv 1) pa_nil))))) pa_nil)))), ?_⟩
    have lu := du.length
    rw [List.length_map] at lu
    refine ⟨_, rfl, a, us, rfl, .inl (SqL.of eu), fun l hl => ?_⟩
    have S1 := Same.upd (o := .lst us) hl
    have e1 : (upd H l (.lst us)) l = some (.lst us) := upd_same
    generalize upd H l (.lst us) = H1 at S1 e1
    refine ⟨l, rfl, ⟨_, SqL.of e1⟩, fun D hD => ?_⟩
    refine comp_list (K := K) (a := l) (D := D) (xs := us) (fun i σ ys H' => (∃ o1 o2, σ = [o1, o2, some (.ref fh)]) ∧ Same H1 H' ∧ H' D = some (.lst ys) ∧ DatsAt K H' ys (((rows.take i).map fun r => (φ r.1, r.2)).map (parD S)))
      ⟨⟨none, none, rfl⟩, .upd hD, upd_same, .nil⟩ ?_ ?_ ?_
    · rintro i σ ys H' hi ⟨_, S2, eD, hy⟩
      have e3 := hy.length
      rw [List.length_map, List.length_map, List.length_take] at e3
      exact ⟨SqL.of (S2 _ _ e1), eD, Nat.lt_of_le_of_lt (show ys.length ≤ 1000 by omega) (by decide)⟩
    · rintro i x σ ys H' hx ⟨⟨o1, o2, rfl⟩, S2, eD, hy⟩ N hN
      obtain ⟨d, ed, hxd⟩ := (du.same (S1.trans S2)).get' hx
      obtain ⟨r, er, rfl⟩ := map_get ed
      have rm := List.mem_of_getElem? er
      obtain ⟨q, va, vb, rfl, h1, h2, h3⟩ := DatAt.pr (p := (r.1, frD (low r.2 S))) hxd
      refine ⟨q, _, rfl, h1, rfl, _, _, rfl, _, _, rfl, rfl, ?_⟩
      refine iteT (B := True) ?_
      refine ⟨rfl, _, rfl, (S1.trans S2) _ _ hfo, fxs _ _ fx (S1.trans S2), va, r.1, rfl, h2, oc r rm, fun u H3 S3 hu => ?_⟩
      refine ⟨_, rfl, two_le, fun t ht => ?_⟩
      have S5 := Same.upd (o := .tup [u, vb]) ht
      have et : (upd H3 t (.tup [u, vb])) t = some (.tup [u, vb]) := upd_same
      generalize upd H3 t (.tup [u, vb]) = H4 at S5 et
      have S35 := S3.trans S5
      have e5 := S35 _ _ eD
      refine ⟨e5, hN _ _ _ ?_⟩
      obtain ⟨w1, w2, w3⟩ := snoc_ok (v := .ref t) (d := parD S (φ r.1, r.2)) hD (S2.trans S35) e5 (hy.same S35) (datAt_pr (p := (φ r.1, frD (low r.2 S))) (SqT.of et) (hu.same S5) (h3.same S35))
      refine ⟨⟨_, _, rfl⟩, w1, w2, ?_⟩
      rw [take_snoc' er, List.map_append, List.map_append]
      exact w3
    rintro σ ys H2 ⟨_, S2, eD, hy⟩
    rw [List.take_of_length_le (by omega)] at hy
    refine ⟨D, ys, rows.map fun r => (φ r.1, r.2), S, (rows.map fun r => (φ r.1, r.2)).map (·.1), rfl, SqL.of eD, hy, ⟨sc.pos, sc.big, fun r hr => ?_, by rw [sumW_snd]; exact sc.top⟩, fun r hr => ?_, by rw [List.length_map]; omega, fun r hr => List.mem_map.mpr ⟨r, hr, rfl⟩, by rw [List.length_map, List.length_map]; exact few, fun es srt mem D2 H3 S3 hD2 ls => ?_⟩
    · obtain ⟨q, hq, rfl⟩ := List.mem_map.mp hr
      exact sc.nn q hq
    · obtain ⟨q, hq, rfl⟩ := List.mem_map.mp hr
      exact ocφ _ (oc q hq)
    · exact k es srt mem D2 H3 ((S1.trans S2).trans S3) ((S1.trans S2).free hD2) ls
end
end K09
namespace K09
open PySem L2 FW PyProof.Rows
theorem wOf_gt {rows : List (Dt × Int)} {x : Dt} (pos : ∀ r ∈ rows, 0 < r.2) (h : x ∈ rows.map (·.1)) : 0 < wOf rows x := by
  obtain ⟨r, hr, e⟩ := List.mem_map.mp h
  have m : r ∈ rows.filter fun q => Dt.beq q.1 x := List.mem_filter.mpr ⟨hr, by rw [← e]; exact Dt.beq_self _⟩
  have h1 := sumW_mem (rows := rows.filter fun q => Dt.beq q.1 x) (fun q hq => Int.le_of_lt (pos q (List.mem_filter.mp hq).1)) r m
  have h2 := pos r hr
  unfold wOf
  omega
theorem due_gi {R rows : List (Dt × Int)} {S M : Int} (L : Lw R) (mem : ∀ x, x ∈ R.map (·.1) ↔ x ∈ rows.map (·.1)) (wt : ∀ x, wOf R x = wOf rows x) (len : R.length ≤ rows.length) (pos : ∀ r ∈ rows, 0 < r.2) (sum : sumW rows = S) (s0 : 0 < S) (few : rows.length ≤ 5) (dv : ∀ r ∈ rows, S ∣ M * r.2) : Gi R S ∧ ∀ r ∈ R, S ∣ M * r.2 := by
  have val : ∀ r ∈ R, r.2 = wOf rows r.1 := fun r hr => by rw [← wt, wOf_self L.srt r hr]
  refine ⟨⟨L, fun r hr => ?_, ?_, s0, by omega⟩, fun r hr => ?_⟩
  · rw [val r hr]
    exact wOf_gt pos ((mem r.1).mp (List.mem_map.mpr ⟨r, hr, rfl⟩))
  · rw [sum_same L mem wt, sum]
  · rw [val r hr]
    exact dvd_wOf fun q hq => dv q (List.mem_filter.mp hq).1
theorem Gi.filt {R : List (Dt × Int)} {S : Int} (G : Gi R S) : (R.filter fun r => decide (0 < r.2)) = R := List.filter_eq_self.mpr fun r hr => decide_eq_true (G.pos r hr)
theorem Gi.le {R : List (Dt × Int)} {S : Int} (G : Gi R S) : ∀ r ∈ R, r.2 ≤ S := fun r hr => by
  have := sumW_mem G.lw.nn r hr
  rw [G.sum] at this
  exact this
theorem lw_one {o : Dt} (ho : Oc o) : Lw [(o, (1 : Int))] := ⟨fun r hr => by cases List.mem_singleton.mp hr; exact ho, fun r hr => by cases List.mem_singleton.mp hr; exact (by decide : (0 : Int) ≤ 1), List.pairwise_singleton ..⟩
theorem gi_one {o : Dt} (ho : Oc o) : Gi [(o, (1 : Int))] 1 := ⟨lw_one ho, fun r hr => by cases List.mem_singleton.mp hr; exact (by decide : (0 : Int) < 1), rfl, by decide, by show 1 ≤ 5; decide⟩
theorem gath_one {o : Dt} (ho : Oc o) {es : List Dt} (srt : Srt es) (mem : ∀ x, x ∈ es ↔ x ∈ [(o, (1 : Int))].map (·.1)) : gath 1 [(o, 1)] es = [(o, 1)] := by
  have q : es = [(o, (1 : Int))].map (·.1) := order_unique srt (lw_one ho).srt mem
  subst q
  rw [gath_eq (lw_one ho) fun _ => rfl]
  rfl
theorem par_scale (R : List (Dt × Int)) {S c : Int} (hS : 0 < S) (hc : 0 < c) : (R.map fun r => (r.1, r.2 * c)).map (parD (S * c)) = R.map (parD S) := by
  rw [List.map_map]
  refine List.map_congr_left fun r _ => ?_
  show parD (S * c) (r.1, r.2 * c) = parD S r
  unfold parD
  dsimp only
  rw [low_k hS hc]
theorem mulB {x y A B : Int} (x0 : 0 ≤ x) (x1 : x ≤ A) (y0 : 0 ≤ y) (y1 : y ≤ B) : 0 ≤ x * y ∧ x * y ≤ A * B := ⟨Int.mul_nonneg x0 y0, Int.mul_le_mul x1 y1 y0 (Int.le_trans x0 x1)⟩
/-- a thing of the heap -/
structure ItmA (K : PySem.W.Frag) (H : Hp) (hp t Du Md : Addr) (R : List (Dt × Int)) (S : Int) : Prop where
  tp : SqT K H t [.ref Du, .int S, .ref Md]
  du : LsM K H Du (R.map rowD)
  md : LsM K H Md (R.map (parD S))
  n1 : Du ≠ hp
  n2 : Md ≠ hp
def Itm (K : PySem.W.Frag) (H : Hp) (hp : Addr) (v : V) (R : List (Dt × Int)) (S : Int) : Prop := ∃ t Du Md, v = .ref t ∧ ItmA K H hp t Du Md R S
section
variable {K : PySem.W.Frag} {H H' : Hp} {hp : Addr}
theorem ItmA.same {t Du Md : Addr} {R : List (Dt × Int)} {S : Int} (h : ItmA K H hp t Du Md R S) (e : Same H H') : ItmA K H' hp t Du Md R S := ⟨e.tup h.tp, h.du.same e, h.md.same e, h.n1, h.n2⟩
theorem Itm.same {v : V} {R : List (Dt × Int)} {S : Int} (h : Itm K H hp v R S) (e : Same H H') : Itm K H' hp v R S := by
  obtain ⟨t, Du, Md, h1, h2⟩ := h
  exact ⟨t, Du, Md, h1, h2.same e⟩
theorem Itm.odd {v : V} {R : List (Dt × Int)} {S : Int} {Pt : Addr} (h : Itm K H hp v R S) (o : Odd H Pt) (e : BtA Pt H H') : Itm K H' hp v R S := by
  obtain ⟨t, Du, Md, h1, h2⟩ := h
  exact ⟨t, Du, Md, h1, sqT_but o.nt e h2.tp, LsM.odd h2.du o e, LsM.odd h2.md o e, h2.n1, h2.n2⟩
theorem Itm.upd {v : V} {R : List (Dt × Int)} {S : Int} {xs ys : List V} (h : Itm K H hp v R S) (e : H hp = some (.lst xs)) : Itm K (L2.upd H hp (.lst ys)) hp v R S := by
  obtain ⟨t, Du, Md, h1, h2⟩ := h
  exact ⟨t, Du, Md, h1, sqT_but (.lst e) .upd h2.tp, h2.du.but (.lst e) .upd h2.n1, h2.md.but (.lst e) .upd h2.n2, h2.n1, h2.n2⟩
/-- the heap's things -/
structure ItL (K : PySem.W.Frag) (H : Hp) (hp : Addr) (ws : List V) (its : List (List (Dt × Int) × Int)) : Prop where
  len : ws.length = its.length
  it : ∀ (i : Nat) (v : V) (q : List (Dt × Int) × Int), ws[i]? = some v → its[i]? = some q → Itm K H hp v q.1 q.2
theorem ItL.same {ws : List V} {its : List (List (Dt × Int) × Int)} (h : ItL K H hp ws its) (e : Same H H') : ItL K H' hp ws its := ⟨h.len, fun i v q h1 h2 => (h.it i v q h1 h2).same e⟩
theorem ItL.odd {ws : List V} {its : List (List (Dt × Int) × Int)} {Pt : Addr} (h : ItL K H hp ws its) (o : Odd H Pt) (e : BtA Pt H H') : ItL K H' hp ws its := ⟨h.len, fun i v q h1 h2 => (h.it i v q h1 h2).odd o e⟩
theorem ItL.snoc {ws : List V} {its : List (List (Dt × Int) × Int)} {xs ys : List V} {v : V} {R : List (Dt × Int)} {S : Int} (h : ItL K H hp ws its) (e : H hp = some (.lst xs)) (k : Itm K H hp v R S) : ItL K (L2.upd H hp (.lst ys)) hp (ws ++ [v]) (its ++ [(R, S)]) := by
  refine ⟨by rw [List.length_append, List.length_append, h.len]; rfl, fun i x q e2 e3 => ?_⟩
  have hl := h.len
  by_cases hi : i < ws.length
  · rw [List.getElem?_append_left hi] at e2
    rw [List.getElem?_append_left (by omega)] at e3
    exact (h.it i x q e2 e3).upd e
  · rw [List.getElem?_append_right (by omega)] at e2 e3
    rw [← hl] at e3
    have hz : i - ws.length = 0 := by
      have := (List.getElem?_eq_some_iff.mp e2).1
      simp at this
      omega
    rw [hz] at e2 e3
    simp at e2 e3
    subst e2 e3
    exact k.upd e
theorem ItL.pick {ws : List V} {its : List (List (Dt × Int) × Int)} (h : ItL K H hp ws its) (l0 : 0 < its.length) (y : Int) : ∃ v q, atI ws (y % (ws.length : Int)) = some v ∧ q ∈ its ∧ Itm K H hp v q.1 q.2 := by
  have hl := h.len
  have z0 := Int.emod_nonneg y (show (ws.length : Int) ≠ 0 by omega)
  have z1 := Int.emod_lt_of_pos y (show (0 : Int) < (ws.length : Int) by omega)
  generalize y % (ws.length : Int) = i at z0 z1
  obtain ⟨j, rfl⟩ : ∃ j : Nat, i = (j : Int) := ⟨i.toNat, by omega⟩
  have e1 : ws[j]? = some (ws[j]'(by omega)) := List.getElem?_eq_getElem (by omega)
  have e2 : its[j]? = some (its[j]'(by omega)) := List.getElem?_eq_getElem (by omega)
  exact ⟨_, _, atI_nat e1, List.mem_of_getElem? e2, h.it _ _ _ e1 e2⟩
end
/-- the law's own turning -/
def trnD (m : Int) : Dt → Dt
  | .int n => .int (n % m)
  | o => o
theorem trnD_oc {m : Int} {o : Dt} (h : Oc o) : Oc (trnD m o) := by
  cases h with
  | non => exact .non
  | int n => exact .int _
  | recd fs => exact .recd fs
def sp_ltrn (K : PySem.W.Frag) : Sp := fun vs H Q _ => ∃ v o m, vs = [v, .int m] ∧ DatAt K H v o ∧ Oc o ∧ 0 < m ∧ datQ K H Q (trnD m o)
def sp_shorter (K : PySem.W.Frag) : Sp := fun vs H Q _ => ∃ v hp R S N, vs = [v] ∧ Itm K H hp v R S ∧ (∃ u, H hp = some u) ∧ Gi R S ∧ S ≤ 10 ^ 160 ∧ 0 < N ∧ (∀ r ∈ R, S ∣ N * r.2) ∧
  ∀ v' H', Same H H' → Itm K H' hp v' (shR (gl S R) R) (S / gl S R) → Q v' H'
section
variable {P : Program} {w : World} {K : PySem.W.Frag} {mg : Str → Option Value} {base : Heap} {C0 C2 cN : Addr}
theorem sc_law_turned : FnScope ["_law_outcome_here", "_law_most"] ["_law_outcome_here", "_law_most"] (defScope s_law_turned) := ⟨rfl, rfl, rfl, by decide +kernel, rfl, by decide +kernel, by decide +kernel⟩
theorem ok_law_turned {f fK : Addr} {fd fdK : FuncData} (A : FnAt K mg "_law_turned" s_law_turned ["_law_outcome_here", "_law_most"] f fd) (A_law_kind : FnAt K mg "_law_kind" s_law_kind ["_law_one"] fK fdK) (T : Txt K mg C0 C2 cN) : FnOk P w K mg base CX0 2 f fd ["_law_outcome_here", "_law_most"] (sp_ltrn K) := by
  have G_law_kind : FnOk P w K mg base CX0 1 fK fdK _ (sp_kind K) := ok_law_kind A_law_kind T
  refine A.F.ok sc_law_turned (fun vs H Q E h => ?_) (fun cdv Ar outer s H vs Q E hr h => ?_)
  · obtain ⟨v, o, m, rfl, _⟩ := h
    rfl
  · obtain ⟨v, o, m, rfl, hv, ho, hm, k⟩ := h
    refine ⟨_, (pss_cons (ps_if (pt_cmpR op_eq (pe_call G_law_kind (hr.mono (by decide)) rfl A_law_kind.m A_law_kind.F.kp A_law_kind.b .nil pass0 (pa_cons (pv 0) pa_nil)) pe_int (nomark _)) (pss_one (ps_ret (pe_op op_mod (pv 0) (pv 1)))) pss_nil)
      (pss_one (ps_ret (pv 0)))), ?_⟩
    cases ho with
    | non =>
      have e := hv.non_eq
      subst e
      exact ⟨_, rfl, .non, .non, rfl, hv, .non, rfl, _, rfl, iteF ⟨_, rfl, k _ H (.refl _) .non⟩⟩
    | int n =>
      have e := hv.int_eq
      subst e
      exact ⟨_, rfl, .int n, .int n, rfl, hv, .int n, rfl, _, rfl, iteT ⟨_, rfl, _, rfl, _, _, rfl, rfl, hm, k _ H (.refl _) (.int _)⟩⟩
    | recd fs => exact ⟨_, rfl, v, _, rfl, hv, .recd fs, rfl, _, rfl, iteF ⟨_, rfl, k _ H (.refl _) hv⟩⟩
theorem sc_law_shorter : FnScope ["_law_newest", "_law_rows", "_law_scale", "_law_made", "_law_by", "_law_outcome_here", "_law_weight"] ["_law_newest"] (defScope s_law_shorter) := ⟨rfl, rfl, rfl, by decide +kernel, rfl, by decide +kernel, by decide +kernel⟩
set_option maxHeartbeats 2000000 in
theorem ok_law_shorter {f fD : Addr} {fd fdD : FuncData} (A : FnAt K mg "_law_shorter" s_law_shorter ["_law_newest"] f fd) (A_law_divisor : FnAt K mg "_law_divisor" s_law_divisor ["_law_one", "_law_other"] fD fdD) (T : Txt K mg C0 C2 cN) : FnOk P w K mg base CX0 2 f fd ["_law_newest"] (sp_shorter K) := by
  have G_law_divisor : FnOk P w K mg base CX0 1 fD fdD _ sp_gcd := ok_law_divisor A_law_divisor T
  refine A.F.ok sc_law_shorter (fun vs H Q E h => ?_) (fun cdv Ar outer s H vs Q E hr h => ?_)
  · obtain ⟨v, hp, R, S, N, rfl, _⟩ := h
    rfl
  · obtain ⟨v, hp, R, S, N, rfl, ⟨t, Du, Md, rfl, I⟩, ⟨u, hu⟩, G, bS, N0, dv, k⟩ := h
    refine ⟨_, (pss_cons (ps_asg (pv 0) (pg_tup rfl (pgs_cons (pg_name (i := 1) sc_law_shorter.nd rfl (Or.inl rfl)) (pgs_cons (pg_name (i := 2) sc_law_shorter.nd rfl (Or.inl rfl)) (pgs_cons (pg_name (i := 3) sc_law_shorter.nd rfl (Or.inl rfl)) pgs_nil)))))
      (pss_cons (ps_set (i := 4) sc_law_shorter.nd rfl (Or.inr rfl) (pv 2))
      (pss_cons (ps_for PassesOwn.never rfl (pi_list (pv 1)) (pg_tup rfl (pgs_cons (pg_name (i := 5) sc_law_shorter.nd rfl (Or.inl rfl)) (pgs_cons (pg_name (i := 6) sc_law_shorter.nd rfl (Or.inl rfl)) pgs_nil))) (pss_one (ps_set (i := 4) sc_law_shorter.nd rfl (Or.inr rfl) (pe_call G_law_divisor (hr.mono (by decide)) rfl A_law_divisor.m A_law_divisor.F.kp A_law_divisor.b .nil pass0 (pa_cons (pv 4) (pa_cons (pv 6) pa_nil))))))
      (pss_one (ps_ret (pe_tup (pa_cons (pe_comp rfl (Nc := ["_law_outcome_here", "_law_weight", "_law_by"]) (caps1 2 4 [(".0", .local), ("_law_outcome_here", .local), ("_law_weight", .local), ("_law_by", .cell)] rfl rfl rfl (by decide +kernel) (by decide +kernel) rfl (by decide +kernel) rfl rfl rfl rfl) (pi_list (pv 1)) (fun _ _ _ _ => by exact (pg_tupK (K := K) (n := 2) rfl rfl (pgs_cons (pg_name (i := 0) (show List.Nodup (["_law_outcome_here", "_law_weight", "_law_by"] : List Str) by decide +kernel) rfl (Or.inl rfl)) (pgs_cons (pg_name (i := 1) (show List.Nodup (["_law_outcome_here", "_law_weight", "_law_by"] : List Str) by decide +kernel) rfl (Or.inl rfl)) pgs_nil)))) (fun _ _ _ _ => pts_nil) (fun _ _ _ _ => by exact (pe_tup (pa_cons (pv 0) (pa_cons (pe_op op_fdivP (pv 1) (pv 2)) pa_nil))))) (pa_cons (pe_op op_fdivP (pv 2) (pv 4)) (pa_cons (pv 3) pa_nil))))))))), ?_⟩
    have cp := gl_pos G.s0 R
    obtain ⟨dS, dr⟩ := gl_dvd R S
    have cl : gl S R ≤ S := Int.le_of_dvd G.s0 dS
    have cs : Sm (gl S R) := sm60 (by omega) (by omega)
    have cd : ∀ x, CDivP x (gl S R) := fun x => ⟨cp, cs.log⟩
    obtain ⟨ws, eW, dW⟩ := I.du
    have lw := dW.length
    rw [List.length_map] at lw
    have few := G.len
    refine ⟨_, rfl, t, _, rfl, I.tp, rfl, _, _, rfl, _, _, rfl, _, _, rfl, rfl, ?_⟩
    refine ⟨_, rfl, ?_⟩
    refine ⟨_, rfl, Du, rfl, ⟨_, SqL.of eW⟩, for_list (K := K) (a := Du) (xs := ws) (fun j σ H' => Same H H' ∧ ∃ o5 o6, σ = [some (.ref t), some (.ref Du), some (.int S), some (.ref Md), some (.int (gl S (R.take j))), o5, o6])
      ⟨.refl _, none, none, rfl⟩ (fun j σ H' _ z => SqL.of (z.1 _ _ eW)) ?_ ?_⟩
    · rintro j x σ H1 hx ⟨S1, o5, o6, rfl⟩
      obtain ⟨d, ed, hxd⟩ := (dW.same S1).get' hx
      obtain ⟨r, er, rfl⟩ := map_get ed
      obtain ⟨q, va, rfl, sq, hva⟩ := DatAt.row hxd
      refine ⟨q, _, rfl, sq, rfl, _, _, rfl, _, _, rfl, rfl, ?_⟩
      refine ⟨_, rfl, _, rfl, gl S (R.take j), r.2, rfl, S1, some va, some (.int r.2), ?_⟩
      rw [take_snoc' er, gl_snoc]
      rfl
    rintro σ H1 ⟨S1, o5, o6, rfl⟩
    rw [List.take_of_length_le (by omega)]
    refine ⟨_, rfl, Du, rfl, ⟨_, SqL.of (S1 _ _ eW)⟩, fun D hD => ?_⟩
    refine comp_list (K := K) (a := Du) (D := D) (xs := ws) (fun i σ ys H' => (∃ o1 o2, σ = [o1, o2, some (.int (gl S R))]) ∧ Same H1 H' ∧ H' D = some (.lst ys) ∧ DatsAt K H' ys ((shR (gl S R) (R.take i)).map rowD))
      ⟨⟨none, none, rfl⟩, .upd hD, upd_same, .nil⟩ ?_ ?_ ?_
    · rintro i σ ys H' hi ⟨_, S2, eD, hy⟩
      have e3 := hy.length
      unfold shR at e3
      rw [List.length_map, List.length_map, List.length_take] at e3
      exact ⟨SqL.of (S2 _ _ (S1 _ _ eW)), eD, Nat.lt_of_le_of_lt (show ys.length ≤ 1000 by omega) (by decide)⟩
    · rintro i x σ ys H' hx ⟨⟨o1, o2, rfl⟩, S2, eD, hy⟩ N hN
      obtain ⟨d, ed, hxd⟩ := (dW.same (S1.trans S2)).get' hx
      obtain ⟨r, er, rfl⟩ := map_get ed
      obtain ⟨q, va, rfl, sq, hva⟩ := DatAt.row hxd
      refine ⟨q, _, rfl, sq, rfl, _, _, rfl, _, _, rfl, rfl, ?_⟩
      refine iteT (B := True) ?_
      refine ⟨_, rfl, _, rfl, _, rfl, _, _, rfl, rfl, cd _, two_le, fun t2 ht2 => ?_⟩
      have S4 : Same H' (upd H' t2 (.tup [va, .int (r.2 / gl S R)])) := .upd ht2
      have e4 := S4 _ _ eD
      refine ⟨e4, hN _ _ _ ?_⟩
      obtain ⟨w1, w2, w3⟩ := snoc_ok (v := .ref t2) (d := rowD (r.1, r.2 / gl S R)) hD (S2.trans S4) e4 (hy.same S4) (datAt_row (p := (r.1, r.2 / gl S R)) (SqT.of upd_same) (hva.same S4))
      refine ⟨⟨_, _, rfl⟩, w1, w2, ?_⟩
      unfold shR
      rw [take_snoc' er, List.map_append, List.map_append]
      exact w3
    rintro σ ys H2 ⟨_, S2, eD, hy⟩
    rw [List.take_of_length_le (by omega)] at hy
    refine ⟨_, rfl, _, rfl, _, _, rfl, rfl, cd _, _, rfl, (by show 3 ≤ sizeLine; decide), fun t3 ht3 => ?_⟩
    have S3 := Same.upd (o := .tup [.ref D, .int (S / gl S R), .ref Md]) ht3
    refine k (.ref t3) _ ((S1.trans S2).trans S3) ⟨t3, D, Md, rfl, ⟨SqT.of upd_same, ⟨ys, S3 _ _ eD, hy.same S3⟩, ?_, (ne_of_none (S1 _ _ hu) hD).symm, I.n2⟩⟩
    rw [(shR_ok G N0 dv).2.2]
    exact I.md.same ((S1.trans S2).trans S3)
end
end K09
namespace K09
open PySem L2 FW PyProof.Rows
abbrev pG : Pos := ⟨180, 56, 180, 123⟩
abbrev qG : Str := "_law_grown.<locals>.<lambda>"
theorem TabSt.odd {Pt : Addr} {pos : Pos} {qual : Str} {H : Hp} (h : TabSt Pt pos qual H) : Odd H Pt := by
  rcases h with h | ⟨c', co, h1, h2, h3⟩
  · exact .tbl h
  · exact .tbl h1
def sp_grown (K : PySem.W.Frag) (Pt : Addr) : Sp := fun vs H Q _ => ∃ hp n ws its N, vs = [.ref hp, .int n] ∧ H hp = some (.lst ws) ∧ ItL K H hp ws its ∧ 0 < its.length ∧ TabSt Pt pG qG H ∧ (∀ q ∈ its, Gi q.1 q.2 ∧ q.2 ∣ N) ∧ 0 < N ∧ N ≤ 11 ^ 24 ∧ Builtin.Int.intBits n ≤ 2 ^ 20 ∧
  ∀ v H' R S b, BtA Pt H H' → TabSt Pt pG qG H' → Itm K H' hp v R S → Gi R S → S ≤ 10 ^ 160 → (0 < b ∧ b ≤ 11) → (∀ r ∈ R, S ∣ N * b * r.2) → Q v H'
theorem sc_law_grown : FnScope ["_law_heap", "_law_cell", "_law_mixed_up", "_law_rows", "_law_scale", "_law_made", "_law_others", "_law_other_scale", "_law_other_made", "_law_few", "_law_b", "_law_a", "_law_due", "_law_outcome_here", "_law_weight", "_law_parts", "_law_most"] ["_law_heap", "_law_cell"] (defScope s_law_grown) := ⟨rfl, rfl, rfl, by decide +kernel, rfl, by decide +kernel, by decide +kernel⟩
/-- the rows that a mixture lays -/
def mixR (a b S1 S2 : Int) (R1 R2 : List (Dt × Int)) : List (Dt × Int) := (R1.map fun r => (r.1, a * r.2 * S2)) ++ R2.map fun r => (r.1, (b - a) * r.2 * S1)
theorem sumW_map (c : Int) (f : Int → Int) (hf : ∀ x, f x = x * c) : ∀ rows : List (Dt × Int), sumW (rows.map fun r => (r.1, f r.2)) = sumW rows * c
  | [] => by rw [List.map_nil, sumW_nil, Int.zero_mul]
  | r :: l => by rw [List.map_cons, sumW_cons, sumW_cons, sumW_map c f hf l, hf, Int.add_mul]
theorem mixR_sum {a b S1 S2 : Int} {R1 R2 : List (Dt × Int)} (G1 : Gi R1 S1) (G2 : Gi R2 S2) : sumW (mixR a b S1 S2 R1 R2) = b * S1 * S2 := by
  unfold mixR
  rw [sumW_append, sumW_map (a * S2) (fun x => a * x * S2) (fun x => by grind) R1, sumW_map ((b - a) * S1) (fun x => (b - a) * x * S1) (fun x => by grind) R2, G1.sum, G2.sum]
  grind
theorem mixR_pos {a b S1 S2 : Int} {R1 R2 : List (Dt × Int)} (G1 : Gi R1 S1) (G2 : Gi R2 S2) (a0 : 0 < a) (ab : a < b) : ∀ r ∈ mixR a b S1 S2 R1 R2, 0 < r.2 := fun r hr => by
  rcases List.mem_append.mp hr with z | z
  · obtain ⟨q, hq, rfl⟩ := List.mem_map.mp z
    exact Int.mul_pos (Int.mul_pos a0 (G1.pos q hq)) G2.s0
  · obtain ⟨q, hq, rfl⟩ := List.mem_map.mp z
    exact Int.mul_pos (Int.mul_pos (by omega) (G2.pos q hq)) G1.s0
theorem mixR_dvd {a b S1 S2 N : Int} {R1 R2 : List (Dt × Int)} (d1 : S1 ∣ N) (d2 : S2 ∣ N) : ∀ r ∈ mixR a b S1 S2 R1 R2, b * S1 * S2 ∣ N * b * r.2 := fun r hr => by
  rcases List.mem_append.mp hr with z | z
  · obtain ⟨q, hq, rfl⟩ := List.mem_map.mp z
    obtain ⟨k, rfl⟩ := d1
    exact ⟨k * a * q.2, by grind⟩
  · obtain ⟨q, hq, rfl⟩ := List.mem_map.mp z
    obtain ⟨k, rfl⟩ := d2
    exact ⟨k * (b - a) * q.2, by grind⟩
def mixP (a b S1 S2 : Int) (M1 M2 : Addr) (R1 R2 : List (Dt × Int)) : List Pa := [(a, M1, R1.map fun r => (r.1, r.2 * S2)), (b - a, M2, R2.map fun r => (r.1, r.2 * S1))]
theorem mixP_all (a b S1 S2 : Int) (M1 M2 : Addr) (R1 R2 : List (Dt × Int)) : allR (mixP a b S1 S2 M1 M2 R1 R2) = mixR a b S1 S2 R1 R2 := by
  show allR ([_] ++ [_]) = _
  rw [allR_app, allR_one, allR_one]
  unfold mixR
  dsimp only
  rw [List.map_map, List.map_map]
  congr 1
  · exact List.map_congr_left fun r _ => by show (r.1, a * (r.2 * S2)) = _; rw [Int.mul_assoc]
  · exact List.map_congr_left fun r _ => by show (r.1, (b - a) * (r.2 * S1)) = _; rw [Int.mul_assoc]
theorem mix_bd {a b S1 S2 : Int} {M1 M2 : Addr} {R1 R2 : List (Dt × Int)} (G1 : Gi R1 S1) (G2 : Gi R2 S2) (a0 : 0 < a) (ab : a < b) (b1 : b ≤ 11) (s1 : S1 ≤ 11 ^ 24) (s2 : S2 ≤ 11 ^ 24) :
    PBd b (S1 * S2) (mixP a b S1 S2 M1 M2 R1 R2) ((mixR a b S1 S2 R1 R2).map (·.1)) := by
  have p1 := G1.s0
  have p2 := G2.s0
  have m12 := mulB (Int.le_of_lt p1) s1 (Int.le_of_lt p2) s2
  have p12 := Int.mul_pos p1 p2
  have l1 := G1.len
  have l2 := G2.len
  have ll : (mixR a b S1 S2 R1 R2).length ≤ 10 := by
    unfold mixR
    rw [List.length_append, List.length_map, List.length_map]
    omega
  have mb := mulB (show 0 ≤ b by omega) b1 m12.1 m12.2
  have pb := Int.mul_pos (show 0 < b by omega) p12
  refine ⟨⟨by omega, by omega⟩, ⟨p12, by omega⟩, fun p hp => ?_, fun p hp r hr => ?_, ?_, ?_, fun r hr => ?_, by rw [List.length_map]; omega⟩
  · rcases List.mem_cons.mp hp with z | z
    · rw [z]
      exact ⟨by show 0 ≤ a; omega, by show a ≤ _; omega⟩
    · cases List.mem_singleton.mp z
      exact ⟨by show 0 ≤ b - a; omega, by show b - a ≤ _; omega⟩
  · rcases List.mem_cons.mp hp with z | z
    · rw [z] at hr
      obtain ⟨q, hq, rfl⟩ := List.mem_map.mp hr
      have h1 := G1.pos q hq
      have h2 := G1.le q hq
      have h3 := mulB (Int.le_of_lt h1) (Int.le_trans h2 s1) (Int.le_of_lt p2) s2
      exact ⟨G1.lw.oc q hq, h3.1, by show q.2 * S2 ≤ _; omega⟩
    · cases List.mem_singleton.mp z
      obtain ⟨q, hq, rfl⟩ := List.mem_map.mp hr
      have h1 := G2.pos q hq
      have h2 := G2.le q hq
      have h3 := mulB (Int.le_of_lt h1) (Int.le_trans h2 s2) (Int.le_of_lt p1) s1
      exact ⟨G2.lw.oc q hq, h3.1, by show q.2 * S1 ≤ _; omega⟩
  · rw [mixP_all]
    refine ⟨pb, by omega, fun r hr => Int.le_of_lt (mixR_pos G1 G2 a0 ab r hr), ?_⟩
    rw [mixR_sum G1 G2, Int.mul_assoc]
    omega
  · rw [mixP_all]
    omega
  · rw [mixP_all] at hr
    exact List.mem_map.mpr ⟨r, hr, rfl⟩
section
variable {P : Program} {w : World} {K : PySem.W.Frag} {mg : Str → Option Value} {base : Heap} {C0 C2 cN : Addr}
theorem mix_pm {H : Hp} {Lp t1 t2 r1 r2 M1 M2 : Addr} {a b S1 S2 : Int} {R1 R2 : List (Dt × Int)} (s1 : 0 < S1) (s2 : 0 < S2) (eL : H Lp = some (.lst [.ref t1, .ref t2])) (e1 : SqT K H t1 [.ref r1, .ref M1]) (e2 : SqT K H t2 [.ref r2, .ref M2])
    (q1 : SqT K H r1 [.int (low a b).1, .int (low a b).2]) (q2 : SqT K H r2 [.int (low (b - a) b).1, .int (low (b - a) b).2]) (m1 : LsM K H M1 (R1.map (parD S1))) (m2 : LsM K H M2 (R2.map (parD S2))) : PM K H Lp b (S1 * S2) (mixP a b S1 S2 M1 M2 R1 R2) := by
  refine ⟨_, eL, rfl, fun i v p h1 h2 => ?_⟩
  cases i with
  | zero =>
    cases h1
    cases h2
    refine ⟨t1, .ref r1, rfl, e1, datAt_fr q1, ?_⟩
    show LsM K H M1 ((R1.map fun r => (r.1, r.2 * S2)).map (parD (S1 * S2)))
    rw [par_scale R1 s1 s2]
    exact m1
  | succ i =>
    cases i with
    | zero =>
      cases h1
      cases h2
      refine ⟨t2, .ref r2, rfl, e2, datAt_fr q2, ?_⟩
      show LsM K H M2 ((R2.map fun r => (r.1, r.2 * S1)).map (parD (S1 * S2)))
      rw [Int.mul_comm S1 S2, par_scale R2 s2 s1]
      exact m2
    | succ i => cases h1
set_option maxHeartbeats 16000000 in
theorem ok_law_grown {f f1 f2 f3 f4 f5 f6 f7 c Pt : Addr} {fd d1 d2 d3 d4 d5 d6 d7 : FuncData} (FC : FunC K "_law_grown" s_law_grown f fd c) (M : Mks K mg c Pt)
    (A_mixed : FnAt K mg "mixed" s_mixed ["parts"] f1 d1) (G_mixed : FnOk P w K mg base CX0 6 f1 d1 ["parts"] (sp_mixed K))
    (A_turned : FnAt K mg "turned" s_turned ["table", "how"] f2 d2) (G_turned : FnOk P w K mg base CX0 6 f2 d2 ["table", "how"] (sp_turned P w K mg base))
    (A_table : FnAt K mg "table" s_table ["pairs"] f3 d3) (G_table : FnOk P w K mg base CX0 6 f3 d3 ["pairs"] (sp_gathered K))
    (A_law_lowest : FnAt K mg "_law_lowest" s_law_lowest ["_law_top", "_law_bottom"] f4 d4) (G_law_lowest : FnOk P w K mg base CX0 2 f4 d4 ["_law_top", "_law_bottom"] sp_lowest)
    (A_law_laid : FnAt K mg "_law_laid" s_law_laid ["_law_rows", "_law_outcome_here", "_law_weight"] f5 d5) (G_law_laid : FnOk P w K mg base CX0 3 f5 d5 ["_law_rows", "_law_outcome_here", "_law_weight"] (sp_laid K))
    (A_law_turned : FnAt K mg "_law_turned" s_law_turned ["_law_outcome_here", "_law_most"] f6 d6) (G_law_turned : FnOk P w K mg base CX0 2 f6 d6 ["_law_outcome_here", "_law_most"] (sp_ltrn K))
    (A_law_outcome : FnAt K mg "_law_outcome" s_law_outcome ["_law_cell"] f7 d7) (G_law_outcome : FnOk P w K mg base CX0 2 f7 d7 ["_law_cell"] (sp_outcome K))
    (T : Txt K mg C0 C2 cN) : FnOk P w K mg base CX0 7 f fd ["_law_heap", "_law_cell"] (sp_grown K Pt) := by
  refine FC.ok (k := 6) sc_law_grown (fun vs H Q E h => ?_) (fun Ar outer s H vs Q E hr h => ?_)
  · obtain ⟨hp, n, ws, its, N, rfl, _⟩ := h
    rfl
  · obtain ⟨hp, n, ws, its, N, rfl, ehp, il, l0, tb, gi, N0, N1, hn, kk⟩ := h
    refine ⟨_, (pss_cons (ps_set (i := 2) sc_law_grown.nd rfl (Or.inl rfl) (pe_op op_mod (pe_op op_mulB (pv 1) pe_int) pe_int))
      (pss_cons (ps_asg (pe_ix ix_list (pv 0) (pe_op op_mod (pe_op op_fdivP (pv 2) pe_int) (pe_callB call_len_seq (by rfl) T.len_ Boot.«len» (pa_cons (pv 0) pa_nil))) (fun _ _ => rfl)) (pg_tup rfl (pgs_cons (pg_name (i := 3) sc_law_grown.nd rfl (Or.inl rfl)) (pgs_cons (pg_name (i := 4) sc_law_grown.nd rfl (Or.inl rfl)) (pgs_cons (pg_name (i := 5) sc_law_grown.nd rfl (Or.inl rfl)) pgs_nil)))))
      (pss_cons (ps_asg (pe_ix ix_list (pv 0) (pe_op op_mod (pe_op op_fdivP (pv 2) pe_int) (pe_callB call_len_seq (by rfl) T.len_ Boot.«len» (pa_cons (pv 0) pa_nil))) (fun _ _ => rfl)) (pg_tup rfl (pgs_cons (pg_name (i := 6) sc_law_grown.nd rfl (Or.inl rfl)) (pgs_cons (pg_name (i := 7) sc_law_grown.nd rfl (Or.inl rfl)) (pgs_cons (pg_name (i := 8) sc_law_grown.nd rfl (Or.inl rfl)) pgs_nil)))))
      (pss_cons (ps_set (i := 9) sc_law_grown.nd rfl (Or.inl rfl) (pe_cmpR op_lt (pe_op op_add (pe_callB call_len_seq (by rfl) T.len_ Boot.«len» (pa_cons (pv 3) pa_nil)) (pe_callB call_len_seq (by rfl) T.len_ Boot.«len» (pa_cons (pv 6) pa_nil))) pe_int (nomark _)))
      (pss_cons (ps_if (PW.pt (pw_and (pt_cmpR op_eq (pe_op op_mod (pv 2) pe_int) pe_int (nomark _)) (pw_and1 (pt_val (pv 9))))) (pss_cons (ps_set (i := 10) sc_law_grown.nd rfl (Or.inl rfl) (pe_op op_add pe_int (pe_op op_mod (pe_op op_fdivP (pv 2) pe_int) pe_int)))
      (pss_cons (ps_set (i := 11) sc_law_grown.nd rfl (Or.inl rfl) (pe_op op_add pe_int (pe_op op_mod (pe_op op_fdivP (pv 2) pe_int) (pe_op op_sub (pv 10) pe_int))))
      (pss_cons (ps_set (i := 12) sc_law_grown.nd rfl (Or.inl rfl) (pe_lst pa_nil))
      (pss_cons (ps_for PassesOwn.never rfl (pi_list (pv 3)) (pg_tup rfl (pgs_cons (pg_name (i := 13) sc_law_grown.nd rfl (Or.inl rfl)) (pgs_cons (pg_name (i := 14) sc_law_grown.nd rfl (Or.inl rfl)) pgs_nil))) (pss_one (ps_set (i := 12) sc_law_grown.nd rfl (Or.inl rfl) (pe_call G_law_laid (hr.mono (by decide)) rfl A_law_laid.m A_law_laid.F.kp A_law_laid.b .nil pass0 (pa_cons (pv 12) (pa_cons (pv 13) (pa_cons (pe_op op_mulB (pe_op op_mulB (pv 11) (pv 14)) (pv 7)) pa_nil)))))))
      (pss_cons (ps_for PassesOwn.never rfl (pi_list (pv 6)) (pg_tup rfl (pgs_cons (pg_name (i := 13) sc_law_grown.nd rfl (Or.inl rfl)) (pgs_cons (pg_name (i := 14) sc_law_grown.nd rfl (Or.inl rfl)) pgs_nil))) (pss_one (ps_set (i := 12) sc_law_grown.nd rfl (Or.inl rfl) (pe_call G_law_laid (hr.mono (by decide)) rfl A_law_laid.m A_law_laid.F.kp A_law_laid.b .nil pass0 (pa_cons (pv 12) (pa_cons (pv 13) (pa_cons (pe_op op_mulB (pe_op op_mulB (pe_op op_sub (pv 10) (pv 11)) (pv 14)) (pv 4)) pa_nil)))))))
      (pss_cons (ps_set (i := 15) sc_law_grown.nd rfl (Or.inl rfl) (pe_lst (pa_cons (pe_tup (pa_cons (pe_call G_law_lowest (hr.mono (by decide)) rfl A_law_lowest.m A_law_lowest.F.kp A_law_lowest.b .nil pass0 (pa_cons (pv 11) (pa_cons (pv 10) pa_nil))) (pa_cons (pv 5) pa_nil))) (pa_cons (pe_tup (pa_cons (pe_call G_law_lowest (hr.mono (by decide)) rfl A_law_lowest.m A_law_lowest.F.kp A_law_lowest.b .nil pass0 (pa_cons (pe_op op_sub (pv 10) (pv 11)) (pa_cons (pv 10) pa_nil))) (pa_cons (pv 8) pa_nil))) pa_nil))))
      (pss_one (ps_ret (pe_tup (pa_cons (pv 12) (pa_cons (pe_op op_mulB (pe_op op_mulB (pv 10) (pv 4)) (pv 7)) (pa_cons (pe_call G_mixed (hr.mono (by decide)) rfl A_mixed.m A_mixed.F.kp A_mixed.b .nil pass0 (pa_cons (pv 15) pa_nil)) pa_nil)))))))))))) pss_nil)
      (pss_cons (ps_if (pt_cmpR op_eq (pe_op op_mod (pv 2) pe_int) pe_int (nomark _)) (pss_cons (ps_set (i := 16) sc_law_grown.nd rfl (Or.inr rfl) (pe_op op_add pe_int (pe_op op_mod (pe_op op_fdivP (pv 2) pe_int) pe_int)))
      (pss_cons (ps_set (i := 12) sc_law_grown.nd rfl (Or.inl rfl) (pe_lst pa_nil))
      (pss_cons (ps_for PassesOwn.never rfl (pi_list (pv 3)) (pg_tup rfl (pgs_cons (pg_name (i := 13) sc_law_grown.nd rfl (Or.inl rfl)) (pgs_cons (pg_name (i := 14) sc_law_grown.nd rfl (Or.inl rfl)) pgs_nil))) (pss_one (ps_set (i := 12) sc_law_grown.nd rfl (Or.inl rfl) (pe_call G_law_laid (hr.mono (by decide)) rfl A_law_laid.m A_law_laid.F.kp A_law_laid.b .nil pass0 (pa_cons (pv 12) (pa_cons (pe_call G_law_turned (hr.mono (by decide)) rfl A_law_turned.m A_law_turned.F.kp A_law_turned.b .nil pass0 (pa_cons (pv 13) (pa_cons (pv 16) pa_nil))) (pa_cons (pv 14) pa_nil)))))))
      (pss_one (ps_ret (pe_tup (pa_cons (pv 12) (pa_cons (pv 4) (pa_cons (pe_callC (CX := CX0) (cl := [("_law_most", s.heap.objs.size + 1)]) (js := [16]) ⟨rfl, fun i p j e1 e2 => by
        cases i with
        | zero => cases e1; cases e2; exact ⟨rfl, rfl, rfl, rfl, rfl⟩
        | succ i => cases e1⟩ G_turned (hr.mono (by decide)) rfl A_turned.m A_turned.F.kp A_turned.b (pa_cons (pv 5) (pa_cons (pe_lam2 (qual := qG) (cl := [("_law_most", s.heap.objs.size + 1)]) (Pt := Pt) rfl rfl rfl rfl M.hhd M.hP M.hB) pa_nil))) pa_nil))))))))) pss_nil)
      (pss_cons (ps_set (i := 13) sc_law_grown.nd rfl (Or.inl rfl) (pe_call G_law_outcome (hr.mono (by decide)) rfl A_law_outcome.m A_law_outcome.F.kp A_law_outcome.b .nil pass0 (pa_cons (pv 1) pa_nil)))
      (pss_one (ps_ret (pe_tup (pa_cons (pe_lst (pa_cons (pe_tup (pa_cons (pv 13) (pa_cons pe_int pa_nil))) pa_nil)) (pa_cons pe_int (pa_cons (pe_call G_table (hr.mono (by decide)) rfl A_table.m A_table.F.kp A_table.b .nil pass0 (pa_cons (pe_lst (pa_cons (pe_tup (pa_cons (pv 13) (pa_cons (pe_tup (pa_cons pe_int (pa_cons pe_int pa_nil))) pa_nil))) pa_nil)) pa_nil)) pa_nil))))))))))))), ?_⟩
    have m1 : IntMulOk n 48271 := .of_right (by decide +kernel)
    have x0 := Int.emod_nonneg (n * 48271) (show (2147483647 : Int) ≠ 0 by decide)
    refine ⟨_, rfl, _, _, rfl, rfl, m1, _, _, rfl, rfl, (by show (0 : Int) < 2147483647; decide), ?_⟩
    dsimp only
    generalize n * 48271 % 2147483647 = x at x0
    have hlen := il.len
    have hz : (0 : Int) < (ws.length : Int) := by omega
    have iq : ∀ {x y : Int}, decide (V.int x = V.int y) = true → x = y := fun {x y} h => V.int.inj (of_decide_eq_true h)
    have ni : ∀ {x y : Int}, decide (V.int x = V.int y) = false → ¬ x = y := fun {x y} h e => of_decide_eq_false h (by rw [e])
    obtain ⟨v1, ⟨R1, S1⟩, at1, in1, t1, D1, M1, rfl, I1⟩ := il.pick l0 (x / 3)
    obtain ⟨v2, ⟨R2, S2⟩, at2, in2, t2, D2, M2, rfl, I2⟩ := il.pick l0 (x / 93)
    obtain ⟨G1, dv1⟩ := gi _ in1
    obtain ⟨G2, dv2⟩ := gi _ in2
    dsimp only at G1 G2 dv1 dv2 I1 I2
    have p1 := G1.s0
    have p2 := G2.s0
    have b1 : S1 ≤ 11 ^ 24 := Int.le_trans (Int.le_of_dvd N0 dv1) N1
    have b2 : S2 ≤ 11 ^ 24 := Int.le_trans (Int.le_of_dvd N0 dv2) N1
    refine ⟨_, rfl, _, rfl, _, _, rfl, rfl, ⟨by decide, by decide +kernel⟩, _, rfl, hp, _, rfl, .inl (SqL.of ehp), _, _, rfl, rfl, hz, hp, _, _, _, rfl, rfl, SqL.of ehp, at1, t1, _, rfl, I1.tp, rfl, _, _, rfl, _, _, rfl, _, _, rfl, rfl, ?_⟩
    refine ⟨_, rfl, _, rfl, _, _, rfl, rfl, ⟨by decide, by decide +kernel⟩, _, rfl, hp, _, rfl, .inl (SqL.of ehp), _, _, rfl, rfl, hz, hp, _, _, _, rfl, rfl, SqL.of ehp, at2, t2, _, rfl, I2.tp, rfl, _, _, rfl, _, _, rfl, _, _, rfl, rfl, ?_⟩
    obtain ⟨w1, e1, dw1⟩ := id I1.du
    obtain ⟨w2, e2, dw2⟩ := id I2.du
    have lw1 := dw1.length
    have lw2 := dw2.length
    rw [List.length_map] at lw1 lw2
    have gl1 := G1.len
    have gl2 := G2.len
    refine ⟨_, rfl, D1, _, rfl, .inl (SqL.of e1), _, rfl, D2, _, rfl, .inl (SqL.of e2), _, _, rfl, rfl, _, _, rfl, rfl, ?_⟩
    dsimp only
    generalize hf : decide ((w1.length : Int) + (w2.length : Int) < 6) = fw
    refine ⟨_, rfl, _, _, rfl, rfl, (by show (0 : Int) < 3; decide), rfl, _, rfl, iteBB (fun hc => ?_) (fun hc => ?_)⟩
    · refine ⟨_, rfl, _, rfl, iteBB (fun hf2 => ?_) (fun hf2 => ?_)⟩
      · -- two mixed
        have fw6 : R1.length + R2.length ≤ 5 := by
          have := of_decide_eq_true (hf.trans hf2)
          omega
        -- b, a
        refine ⟨_, rfl, _, _, rfl, rfl, ⟨by decide, by decide +kernel⟩, _, _, rfl, rfl, (by show (0 : Int) < 10; decide), _, _, rfl, rfl, ?_⟩
        have b0 : 2 ≤ 2 + x / 2883 % 10 ∧ 2 + x / 2883 % 10 ≤ 11 := by omega
        dsimp only
        generalize 2 + x / 2883 % 10 = b at b0
        have bz : (0 : Int) < b - 1 := by omega
        refine ⟨_, rfl, _, _, rfl, rfl, ⟨by decide, by decide +kernel⟩, _, rfl, _, _, rfl, rfl, _, _, rfl, rfl, bz, _, _, rfl, rfl, ?_⟩
        have a0 : 1 ≤ 1 + x / 28830 % (b - 1) ∧ 1 + x / 28830 % (b - 1) < b := by
          have h1 := Int.emod_nonneg (x / 28830) (show b - 1 ≠ 0 by omega)
          have h2 := Int.emod_lt_of_pos (x / 28830) bz
          omega
        dsimp only
        generalize 1 + x / 28830 % (b - 1) = a at a0
        -- due = []
        refine ⟨Nat.zero_le _, fun D0 hD0 => ?_⟩
        have Sa := Same.upd (o := .lst []) hD0
        have e0 : (upd H D0 (.lst [])) D0 = some (.lst []) := upd_same
        have n0 : D0 ≠ hp := (ne_of_none ehp hD0).symm
        generalize upd H D0 (.lst []) = Ha at Sa e0
        refine ⟨_, rfl, D1, rfl, ⟨_, SqL.of (Sa _ _ e1)⟩, for_list (K := K) (a := D1) (xs := w1) (fun j σ H' => Same Ha H' ∧ ∃ Dv Rv o13 o14, σ = [some (.ref hp), some (.int n), some (.int x), some (.ref D1), some (.int S1), some (.ref M1), some (.ref D2), some (.int S2), some (.ref M2), some (.bl fw), some (.int b), some (.int a), some (.ref Dv), o13, o14, none, none] ∧ DueAt K H' Dv Rv ((R1.take j).map fun r => (r.1, a * r.2 * S2)) ∧ Dv ≠ hp)
          ⟨.refl _, D0, [], none, none, rfl, ⟨⟨[], e0, .nil⟩, ⟨(fun _ h => nomatch h), (fun _ h => nomatch h), .nil⟩, fun x => by simp, fun x => rfl, Nat.zero_le _⟩, n0⟩ (fun j σ H' _ z => SqL.of (z.1 _ _ (Sa _ _ e1))) ?_ ?_⟩
        · rintro j y σ Hb hy ⟨Sb, Dv, Rv, p13, p14, rfl, dv, nv⟩
          obtain ⟨d, ed, hyd⟩ := (dw1.same (Sa.trans Sb)).get' hy
          obtain ⟨r, er, rfl⟩ := map_get ed
          have rm := List.mem_of_getElem? er
          obtain ⟨q, va, rfl, sq, hva⟩ := DatAt.row hyd
          have lRv : Rv.length ≤ 1000 := by
            have h1 := dv.len
            rw [List.length_map, List.length_take] at h1
            omega
          have r0 := G1.pos r rm
          have r1 := G1.le r rm
          have ar := mulB (show 0 ≤ a by omega) (show a ≤ 11 by omega) (Int.le_of_lt r0) (Int.le_trans r1 b1)
          have ok1 : IntMulOk a r.2 := (sm60 (by omega) (by omega)).mul (sm60 (by omega) (by omega))
          have ok2 : IntMulOk (a * r.2) S2 := (sm60 ar.1 (by omega)).mul (sm60 (by omega) (by omega))
          refine ⟨q, _, rfl, sq, rfl, _, _, rfl, _, _, rfl, rfl, ?_⟩
          obtain ⟨vs1, e1v, d1v⟩ := dv.ls
          refine ⟨_, rfl, _, rfl, _, rfl, _, rfl, _, _, rfl, rfl, ok1, _, rfl, _, _, rfl, rfl, ok2, Dv, vs1, Rv, va, r.1, a * r.2 * S2, rfl, SqL.of e1v, d1v, hva, G1.lw.oc r rm, dv.lw, Int.mul_nonneg ar.1 (by omega), lRv, fun R' LO D' Hc Sc hD' ls' => ?_⟩
          refine ⟨Sb.trans Sc, D', R', _, _, rfl, ?_, (ne_of_none (Sb _ _ (Sa _ _ ehp)) hD').symm⟩
          rw [take_snoc' er, List.map_append]
          exact dv.step LO ls'
        rintro σ Hb ⟨Sb, Dva, Rva, p13, p14, rfl, dva, nva⟩
        rw [List.take_of_length_le (by omega)] at dva
        have Sab := Sa.trans Sb
        refine ⟨_, rfl, D2, rfl, ⟨_, SqL.of (Sab _ _ e2)⟩, for_list (K := K) (a := D2) (xs := w2) (fun j σ H' => Same Hb H' ∧ ∃ Dv Rv o13 o14, σ = [some (.ref hp), some (.int n), some (.int x), some (.ref D1), some (.int S1), some (.ref M1), some (.ref D2), some (.int S2), some (.ref M2), some (.bl fw), some (.int b), some (.int a), some (.ref Dv), o13, o14, none, none] ∧ DueAt K H' Dv Rv ((R1.map fun r => (r.1, a * r.2 * S2)) ++ (R2.take j).map fun r => (r.1, (b - a) * r.2 * S1)) ∧ Dv ≠ hp)
          ⟨.refl _, Dva, Rva, _, _, rfl, by rw [List.take_zero, List.map_nil, List.append_nil]; exact dva, nva⟩ (fun j σ H' _ z => SqL.of (z.1 _ _ (Sab _ _ e2))) ?_ ?_⟩
        · rintro j y σ Hc hy ⟨Sc, Dv, Rv, p13, p14, rfl, dv, nv⟩
          obtain ⟨d, ed, hyd⟩ := (dw2.same (Sab.trans Sc)).get' hy
          obtain ⟨r, er, rfl⟩ := map_get ed
          have rm := List.mem_of_getElem? er
          obtain ⟨q, va, rfl, sq, hva⟩ := DatAt.row hyd
          have lRv : Rv.length ≤ 1000 := by
            have h1 := dv.len
            rw [List.length_append, List.length_map, List.length_map, List.length_take] at h1
            omega
          have r0 := G2.pos r rm
          have r1 := G2.le r rm
          have ar := mulB (show 0 ≤ b - a by omega) (show b - a ≤ 11 by omega) (Int.le_of_lt r0) (Int.le_trans r1 b2)
          have ok1 : IntMulOk (b - a) r.2 := (sm60 (by omega) (by omega)).mul (sm60 (by omega) (by omega))
          have ok2 : IntMulOk ((b - a) * r.2) S1 := (sm60 ar.1 (by omega)).mul (sm60 (by omega) (by omega))
          refine ⟨q, _, rfl, sq, rfl, _, _, rfl, _, _, rfl, rfl, ?_⟩
          obtain ⟨vs1, e1v, d1v⟩ := dv.ls
          refine ⟨_, rfl, _, rfl, _, rfl, _, rfl, _, _, rfl, rfl, _, rfl, _, _, rfl, rfl, ok1, _, rfl, _, _, rfl, rfl, ok2, Dv, vs1, Rv, va, r.1, (b - a) * r.2 * S1, rfl, SqL.of e1v, d1v, hva, G2.lw.oc r rm, dv.lw, Int.mul_nonneg ar.1 (by omega), lRv, fun R' LO D' Hd Sd hD' ls' => ?_⟩
          refine ⟨Sc.trans Sd, D', R', _, _, rfl, ?_, (ne_of_none (Sc _ _ (Sab _ _ ehp)) hD').symm⟩
          rw [take_snoc' er, List.map_append, ← List.append_assoc]
          exact dv.step LO ls'
        rintro σ Hc ⟨Sc, Dv, Rv, p13, p14, rfl, dv, nv⟩
        rw [List.take_of_length_le (by omega)] at dv
        replace dv : DueAt K Hc Dv Rv (mixR a b S1 S2 R1 R2) := dv
        have Sac := Sab.trans Sc
        -- parts
        have smb : Sm b := sm60 (by omega) (by omega)
        refine ⟨_, rfl, _, rfl, a, b, rfl, (by omega), smb, fun r1 Hd Sd hr1 => ⟨_, rfl, two_le, fun u1 hu1 => ?_⟩⟩
        have Se := Same.upd (o := .tup [.ref r1, .ref M1]) hu1
        have eu1 : (upd Hd u1 (.tup [.ref r1, .ref M1])) u1 = some (.tup [.ref r1, .ref M1]) := upd_same
        generalize upd Hd u1 (.tup [.ref r1, .ref M1]) = He at Se eu1
        refine ⟨_, rfl, _, rfl, _, _, rfl, rfl, _, rfl, b - a, b, rfl, (by omega), smb, fun r2 Hf Sf hr2 => ⟨_, rfl, two_le, fun u2 hu2 => ⟨two_le, fun Lp hLp => ?_⟩⟩⟩
        have Sg := (Same.upd (o := .tup [.ref r2, .ref M2]) hu2).trans (Same.upd (o := .lst [.ref u1, .ref u2]) hLp)
        have eu2 : (upd (upd Hf u2 (.tup [.ref r2, .ref M2])) Lp (.lst [.ref u1, .ref u2])) u2 = some (.tup [.ref r2, .ref M2]) := (Same.upd hLp) _ _ upd_same
        have eLp : (upd (upd Hf u2 (.tup [.ref r2, .ref M2])) Lp (.lst [.ref u1, .ref u2])) Lp = some (.lst [.ref u1, .ref u2]) := upd_same
        generalize upd (upd Hf u2 (.tup [.ref r2, .ref M2])) Lp (.lst [.ref u1, .ref u2]) = Hg at Sg eu2 eLp
        have Scg := (Sd.trans Se).trans (Sf.trans Sg)
        have Sall := Sac.trans Scg
        have p1 := G1.s0
        have p2 := G2.s0
        have mb1 := mulB (show 0 ≤ b by omega) b0.2 (Int.le_of_lt p1) b1
        have mb2 := mulB mb1.1 mb1.2 (Int.le_of_lt p2) b2
        have ok1 : IntMulOk b S1 := smb.mul (sm60 (by omega) (by omega))
        have ok2 : IntMulOk (b * S1) S2 := (sm60 mb1.1 (by omega)).mul (sm60 (by omega) (by omega))
        have hall := mixP_all a b S1 S2 M1 M2 R1 R2
        refine ⟨_, rfl, _, rfl, _, rfl, _, _, rfl, rfl, ok1, _, rfl, _, _, rfl, rfl, ok2, _, rfl, Lp, b, S1 * S2, mixP a b S1 S2 M1 M2 R1 R2, _, rfl, mix_pm p1 p2 eLp (SqT.of ((Sf.trans Sg) _ _ eu1)) (SqT.of eu2) (SqT.of (((Se.trans Sf).trans Sg) _ _ hr1)) (SqT.of (Sg _ _ hr2)) (I1.md.same Sall) (I2.md.same Sall), mix_bd G1 G2 (by omega) a0.2 b0.2 b1 b2, fun es srt mem Fo Hh Sh hFo lsF => ⟨(by show 3 ≤ sizeLine; decide), fun te hte => ?_⟩⟩
        rw [hall] at lsF mem
        rw [← Int.mul_assoc] at lsF
        have q1 : es = Rv.map (·.1) := order_unique srt dv.lw.srt fun x => (mem x).trans (dv.mem x).symm
        subst q1
        rw [gath_eq dv.lw dv.wt] at lsF
        obtain ⟨GG, dvv⟩ := due_gi (M := N * b) dv.lw dv.mem dv.wt dv.len (mixR_pos G1 G2 (by omega) a0.2) (mixR_sum G1 G2) (Int.mul_pos (Int.mul_pos (by omega) p1) p2) (by show ((R1.map _) ++ (R2.map _)).length ≤ 5; rw [List.length_append, List.length_map, List.length_map]; exact fw6) (mixR_dvd dv1 dv2)
        rw [GG.filt] at lsF
        have Si := Same.upd (o := .tup [.ref Dv, .int (b * S1 * S2), .ref Fo]) hte
        have Sx := (Sall.trans Sh).trans Si
        exact kk (.ref te) _ Rv (b * S1 * S2) b (.of Sx) (tb.same Sx) ⟨te, Dv, Fo, rfl, ⟨SqT.of upd_same, dv.ls.same ((Scg.trans Sh).trans Si), lsF.same Si, nv, (ne_of_none (Sall _ _ ehp) hFo).symm⟩⟩ GG (by omega) ⟨by omega, b0.2⟩ dvv
      · refine ⟨_, rfl, _, _, rfl, rfl, (by show (0 : Int) < 3; decide), rfl, _, rfl, iteBB (fun z => absurd ((iq hc).symm.trans (iq z)) (by decide)) (fun _ => ?_)⟩
        refine ⟨_, rfl, n, rfl, Nat.le_trans hn (by decide), fun o ho v Ha Sa hv => ?_⟩
        refine ⟨_, rfl, two_le, fun ta hta => ⟨(by show 1 ≤ sizeLine; decide), fun La hLa => ?_⟩⟩
        have Sb := (Same.upd (o := .tup [v, .int 1]) hta).trans (Same.upd (o := .lst [.ref ta]) hLa)
        have eta : (upd (upd Ha ta (.tup [v, .int 1])) La (.lst [.ref ta])) ta = some (.tup [v, .int 1]) := (Same.upd hLa) _ _ upd_same
        have eLa : (upd (upd Ha ta (.tup [v, .int 1])) La (.lst [.ref ta])) La = some (.lst [.ref ta]) := upd_same
        have nLa : La ≠ hp := (ne_of_none ((Same.upd hta) _ _ (Sa _ _ ehp)) hLa).symm
        generalize upd (upd Ha ta (.tup [v, .int 1])) La (.lst [.ref ta]) = Hb at Sb eta eLa
        refine ⟨_, rfl, two_le, fun tc htc => ⟨two_le, fun td htd => ⟨(by show 1 ≤ sizeLine; decide), fun Lb hLb => ?_⟩⟩⟩
        have Sc := ((Same.upd (o := .tup [.int 1, .int 1]) htc).trans (Same.upd (o := .tup [v, .ref tc]) htd)).trans (Same.upd (o := .lst [.ref td]) hLb)
        have etc : (upd (upd (upd Hb tc (.tup [.int 1, .int 1])) td (.tup [v, .ref tc])) Lb (.lst [.ref td])) tc = some (.tup [.int 1, .int 1]) := (Same.upd hLb) _ _ ((Same.upd htd) _ _ upd_same)
        have etd : (upd (upd (upd Hb tc (.tup [.int 1, .int 1])) td (.tup [v, .ref tc])) Lb (.lst [.ref td])) td = some (.tup [v, .ref tc]) := (Same.upd hLb) _ _ upd_same
        have eLb : (upd (upd (upd Hb tc (.tup [.int 1, .int 1])) td (.tup [v, .ref tc])) Lb (.lst [.ref td])) Lb = some (.lst [.ref td]) := upd_same
        generalize upd (upd (upd Hb tc (.tup [.int 1, .int 1])) td (.tup [v, .ref tc])) Lb (.lst [.ref td]) = Hc at Sc etc etd eLb
        have l11 : low 1 1 = (1, 1) := low_one (by decide)
        have SH := (Sa.trans Sb).trans Sc
        refine ⟨Lb, [.ref td], [(o, 1)], 1, [o], rfl, SqL.of eLb, .cons (datAt_pr (p := (o, frD (low 1 1))) (SqT.of etd) (hv.same (Sb.trans Sc)) (datAt_fr (by rw [l11]; exact SqT.of etc))) .nil, ⟨by decide, by decide, (lw_one ho).nn, (by show (1 : Int) + 0 ≤ 10 ^ 160; decide)⟩, (lw_one ho).oc, (by show 1 ≤ 1000; decide), fun r hr => by cases List.mem_singleton.mp hr; exact List.mem_singleton.mpr rfl, (by show 1 < 64; decide), fun es srt mem Fo Hd Sd hFo lsF => ⟨(by show 3 ≤ sizeLine; decide), fun te hte => ?_⟩⟩
        rw [gath_one ho srt mem] at lsF
        have Se := Same.upd (o := .tup [.ref La, .int 1, .ref Fo]) hte
        have Sx := (SH.trans Sd).trans Se
        exact kk (.ref te) _ [(o, 1)] 1 1 (.of Sx) (tb.same Sx) ⟨te, La, Fo, rfl, ⟨SqT.of upd_same, ⟨_, ((Sc.trans Sd).trans Se) _ _ eLa, .cons (datAt_row (p := (o, 1)) (SqT.of (((Sc.trans Sd).trans Se) _ _ eta)) (hv.same (Sb.trans ((Sc.trans Sd).trans Se)))) .nil⟩, lsF.same Se, nLa, (ne_of_none (SH _ _ ehp) hFo).symm⟩⟩ (gi_one ho) (by decide) ⟨by decide, by decide⟩ fun r _ => Int.one_dvd _
    · refine iteF ?_
      refine ⟨_, rfl, _, _, rfl, rfl, (by show (0 : Int) < 3; decide), rfl, _, rfl, iteBB (fun hc2 => ?_) (fun _ => ?_)⟩
      · -- one turned
        refine ⟨_, rfl, _, _, rfl, rfl, ⟨by decide, by decide +kernel⟩, _, _, rfl, rfl, (by show (0 : Int) < 5; decide), _, _, rfl, rfl, ?_⟩
        have mp : 0 < 1 + x / 2883 % 5 := by omega
        dsimp only
        generalize 1 + x / 2883 % 5 = most at mp
        -- due = []
        refine ⟨Nat.zero_le _, fun D0 hD0 => ?_⟩
        have Sa := Same.upd (o := .lst []) hD0
        have e0 : (upd H D0 (.lst [])) D0 = some (.lst []) := upd_same
        have n0 : D0 ≠ hp := (ne_of_none ehp hD0).symm
        generalize upd H D0 (.lst []) = Ha at Sa e0
        refine ⟨_, rfl, D1, rfl, ⟨_, SqL.of (Sa _ _ e1)⟩, for_list (K := K) (a := D1) (xs := w1) (fun j σ H' => Same Ha H' ∧ ∃ Dv Rv o13 o14, σ = [some (.ref hp), some (.int n), some (.int x), some (.ref D1), some (.int S1), some (.ref M1), some (.ref D2), some (.int S2), some (.ref M2), some (.bl fw), none, none, some (.ref Dv), o13, o14, none, some (.int most)] ∧ DueAt K H' Dv Rv ((R1.take j).map fun r => (trnD most r.1, r.2)) ∧ Dv ≠ hp)
          ⟨.refl _, D0, [], none, none, rfl, ⟨⟨[], e0, .nil⟩, ⟨(fun _ h => nomatch h), (fun _ h => nomatch h), .nil⟩, fun x => by simp, fun x => rfl, Nat.zero_le _⟩, n0⟩ (fun j σ H' _ z => SqL.of (z.1 _ _ (Sa _ _ e1))) ?_ ?_⟩
        · rintro j y σ Hb hy ⟨Sb, Dv, Rv, p13, p14, rfl, dv, nv⟩
          obtain ⟨d, ed, hyd⟩ := (dw1.same (Sa.trans Sb)).get' hy
          obtain ⟨r, er, rfl⟩ := map_get ed
          have rm := List.mem_of_getElem? er
          obtain ⟨q, va, rfl, sq, hva⟩ := DatAt.row hyd
          have lRv : Rv.length ≤ 1000 := by
            have h1 := dv.len
            rw [List.length_map, List.length_take] at h1
            omega
          refine ⟨q, _, rfl, sq, rfl, _, _, rfl, _, _, rfl, rfl, ?_⟩
          refine ⟨_, rfl, _, rfl, _, rfl, va, r.1, most, rfl, hva, G1.lw.oc r rm, mp, fun u Hc Sc hu => ?_⟩
          replace dv := dv.same Sc
          obtain ⟨vs1, e1v, d1v⟩ := dv.ls
          refine ⟨_, rfl, Dv, vs1, Rv, u, _, r.2, rfl, SqL.of e1v, d1v, hu, trnD_oc (G1.lw.oc r rm), dv.lw, G1.lw.nn r rm, lRv, fun R' LO D' Hd Sd hD' ls' => ?_⟩
          refine ⟨Sb.trans (Sc.trans Sd), D', R', _, _, rfl, ?_, (ne_of_none (Sc _ _ (Sb _ _ (Sa _ _ ehp))) hD').symm⟩
          rw [take_snoc' er, List.map_append]
          exact dv.step LO ls'
        rintro σ Hb ⟨Sb, Dv, Rv, p13, p14, rfl, dv, nv⟩
        rw [List.take_of_length_le (by omega)] at dv
        have Sab := Sa.trans Sb
        have tbb := tb.same Sab
        have odd := TabSt.odd tbb
        have p1 := G1.s0
        have sc : Sc S1 R1 := ⟨p1, by omega, G1.lw.nn, by rw [G1.sum]; omega⟩
        refine ⟨_, rfl, _, rfl, _, rfl, tbb, fun fl c' co pm ctv H9 frf B9 eP9 ef ec hco => ?_⟩
        refine ⟨[.int most], rfl, fun i j v e1 e2 => ?_, fun H10 ho hn caps => ?_⟩
        · cases i with
          | zero => cases e1; cases e2; rfl
          | succ i => cases e1
        have S10 : Same H9 H10 := fun b o eb => by
          rw [ho b fun m => by rw [hn b m] at eb; cases eb]
          exact eb
        have B10 : BtA Pt Hb H10 := B9.trans (.of S10)
        refine ⟨M1, fl, _, _, FxD fl c' _ co _ [.int most], trnD most, R1, S1, rfl, ?L, rfl, S10 _ _ ef, FxD.mono, ⟨S10 _ _ ef, S10 _ _ ec, caps⟩, LsM.odd (I1.md.same Sab) odd B10, G1.lw.oc, fun o h => trnD_oc h, sc, by omega, fun es srt mem Fo H11 S11 hFo lsF => ?_⟩
        case L =>
          intro Ar2 outer2 s2 Hh us2 vs2 Q2 hr2 e02 rv h
          obtain ⟨fx, v, o, rfl, hv, hoc, kq⟩ := h
          have ob := fx.caps.obs
          cases rv with
          | cons r1 rv =>
          cases rv
          refine lam_run (N := ["_law_outcome_here", "_law_most"]) (ps := ["_law_outcome_here"]) (cvs := [.int most]) ⟨rfl, rfl, rfl, by decide +kernel, rfl, by decide +kernel, by decide +kernel, free_of (cs := ["_law_most"]) (by decide +kernel), (fun x m => by
            cases List.mem_singleton.mp (show x ∈ [("_law_most" : Str)] from m); rfl), List.pairwise_singleton ..⟩ hr2 e02 fx.f fx.c hco fx.caps rfl (.cons r1 .nil) rfl
            ⟨_, pe_call G_law_turned (hr2.deeper _) rfl A_law_turned.m A_law_turned.F.kp A_law_turned.b .nil pass0 (pa_cons (pv 0) (pa_cons (pv 1) pa_nil)), ?_⟩
          exact ⟨_, rfl, _, rfl, v, o, most, rfl, dat_hid ob hv, hoc, mp, fun u H' S hu fr => kq u _ (back_same S) (dat_back fr hu)⟩
        have obs : Obs H11 (List.map (fun x => x.2) [(("_law_most" : Str), s.heap.objs.size + 1)]) := fun b m => by
          obtain ⟨o, e⟩ := caps.obs b m
          exact ⟨o, S11 _ _ e⟩
        refine ⟨fun b m => ?_, ?_⟩
        · obtain ⟨o, e⟩ := caps.obs b m
          exact (S11 _ _ e).trans e.symm
        have q1 : es = Rv.map (·.1) := order_unique srt dv.lw.srt fun x => (mem x).trans (dv.mem x).symm
        subst q1
        rw [gath_eq dv.lw dv.wt] at lsF
        obtain ⟨GG, dvv⟩ := due_gi (M := N * 1) dv.lw dv.mem dv.wt dv.len (fun r hr => by
          obtain ⟨q, hq, rfl⟩ := List.mem_map.mp hr
          exact G1.pos q hq) (by rw [sumW_snd]; exact G1.sum) p1 (by rw [List.length_map]; exact gl1) (fun r hr => by
          rw [Int.mul_one]
          exact Int.dvd_mul_of_dvd_left dv1)
        rw [GG.filt] at lsF
        replace lsF := ls_hid obs lsF
        have out : ∀ {b : Addr} {o : HO}, H9 b = some o → b ∉ List.map (fun x => x.2) [(("_law_most" : Str), s.heap.objs.size + 1)] := fun {b o} e m => by rw [hn b m] at e; cases e
        have B12 : BtA Pt Hb (hid H11 (List.map (fun x => x.2) [(("_law_most" : Str), s.heap.objs.size + 1)])) := fun b o nb eb => by
          have e9 := B9 b o nb eb
          rw [hid_out (out e9)]
          exact S11 _ _ (S10 _ _ e9)
        have hP12 : (hid H11 (List.map (fun x => x.2) [(("_law_most" : Str), s.heap.objs.size + 1)])) Pt = _ := (hid_out (out eP9)).trans (S11 _ _ (S10 _ _ eP9))
        have hc12 : (hid H11 (List.map (fun x => x.2) [(("_law_most" : Str), s.heap.objs.size + 1)])) c' = _ := (hid_out (out ec)).trans (S11 _ _ (S10 _ _ ec))
        have nFo : Fo ≠ hp := (ne_of_none (B10 _ _ (odd.ne (Sab _ _ ehp)) (Sab _ _ ehp)) hFo).symm
        generalize hid H11 (List.map (fun x => x.2) [(("_law_most" : Str), s.heap.objs.size + 1)]) = H12 at lsF B12 hP12 hc12
        refine ⟨(by show 3 ≤ sizeLine; decide), fun te hte => ?_⟩
        have Si := Same.upd (o := .tup [.ref Dv, .int S1, .ref Fo]) hte
        have Bx : BtA Pt H (upd H12 te (.tup [.ref Dv, .int S1, .ref Fo])) := ((BtA.of Sab).trans B12).trans (.of Si)
        exact kk (.ref te) _ Rv S1 1 Bx (.inr ⟨c', co, Si _ _ hP12, Si _ _ hc12, hco⟩) ⟨te, Dv, Fo, rfl, ⟨SqT.of upd_same, (LsM.odd dv.ls odd B12).same Si, lsF.same Si, nv, nFo⟩⟩ GG (by omega) ⟨by decide, by decide⟩ dvv
      · -- one outcome alone
        refine ⟨_, rfl, n, rfl, Nat.le_trans hn (by decide), fun o ho v Ha Sa hv => ?_⟩
        refine ⟨_, rfl, two_le, fun ta hta => ⟨(by show 1 ≤ sizeLine; decide), fun La hLa => ?_⟩⟩
        have Sb := (Same.upd (o := .tup [v, .int 1]) hta).trans (Same.upd (o := .lst [.ref ta]) hLa)
        have eta : (upd (upd Ha ta (.tup [v, .int 1])) La (.lst [.ref ta])) ta = some (.tup [v, .int 1]) := (Same.upd hLa) _ _ upd_same
        have eLa : (upd (upd Ha ta (.tup [v, .int 1])) La (.lst [.ref ta])) La = some (.lst [.ref ta]) := upd_same
        have nLa : La ≠ hp := (ne_of_none ((Same.upd hta) _ _ (Sa _ _ ehp)) hLa).symm
        generalize upd (upd Ha ta (.tup [v, .int 1])) La (.lst [.ref ta]) = Hb at Sb eta eLa
        refine ⟨_, rfl, two_le, fun tc htc => ⟨two_le, fun td htd => ⟨(by show 1 ≤ sizeLine; decide), fun Lb hLb => ?_⟩⟩⟩
        have Sc := ((Same.upd (o := .tup [.int 1, .int 1]) htc).trans (Same.upd (o := .tup [v, .ref tc]) htd)).trans (Same.upd (o := .lst [.ref td]) hLb)
        have etc : (upd (upd (upd Hb tc (.tup [.int 1, .int 1])) td (.tup [v, .ref tc])) Lb (.lst [.ref td])) tc = some (.tup [.int 1, .int 1]) := (Same.upd hLb) _ _ ((Same.upd htd) _ _ upd_same)
        have etd : (upd (upd (upd Hb tc (.tup [.int 1, .int 1])) td (.tup [v, .ref tc])) Lb (.lst [.ref td])) td = some (.tup [v, .ref tc]) := (Same.upd hLb) _ _ upd_same
        have eLb : (upd (upd (upd Hb tc (.tup [.int 1, .int 1])) td (.tup [v, .ref tc])) Lb (.lst [.ref td])) Lb = some (.lst [.ref td]) := upd_same
        generalize upd (upd (upd Hb tc (.tup [.int 1, .int 1])) td (.tup [v, .ref tc])) Lb (.lst [.ref td]) = Hc at Sc etc etd eLb
        have l11 : low 1 1 = (1, 1) := low_one (by decide)
        have SH := (Sa.trans Sb).trans Sc
        refine ⟨Lb, [.ref td], [(o, 1)], 1, [o], rfl, SqL.of eLb, .cons (datAt_pr (p := (o, frD (low 1 1))) (SqT.of etd) (hv.same (Sb.trans Sc)) (datAt_fr (by rw [l11]; exact SqT.of etc))) .nil, ⟨by decide, by decide, (lw_one ho).nn, (by show (1 : Int) + 0 ≤ 10 ^ 160; decide)⟩, (lw_one ho).oc, (by show 1 ≤ 1000; decide), fun r hr => by cases List.mem_singleton.mp hr; exact List.mem_singleton.mpr rfl, (by show 1 < 64; decide), fun es srt mem Fo Hd Sd hFo lsF => ⟨(by show 3 ≤ sizeLine; decide), fun te hte => ?_⟩⟩
        rw [gath_one ho srt mem] at lsF
        have Se := Same.upd (o := .tup [.ref La, .int 1, .ref Fo]) hte
        have Sx := (SH.trans Sd).trans Se
        exact kk (.ref te) _ [(o, 1)] 1 1 (.of Sx) (tb.same Sx) ⟨te, La, Fo, rfl, ⟨SqT.of upd_same, ⟨_, ((Sc.trans Sd).trans Se) _ _ eLa, .cons (datAt_row (p := (o, 1)) (SqT.of (((Sc.trans Sd).trans Se) _ _ eta)) (hv.same (Sb.trans ((Sc.trans Sd).trans Se)))) .nil⟩, lsF.same Se, nLa, (ne_of_none (SH _ _ ehp) hFo).symm⟩⟩ (gi_one ho) (by decide) ⟨by decide, by decide⟩ fun r _ => Int.one_dvd _
end
end K09
namespace K09
open PySem L2 FW PyProof.Rows
def sp_left (K : PySem.W.Frag) : Sp := fun vs H Q _ => ∃ v n hp R S, vs = [v, .int n] ∧ Itm K H hp v R S ∧ Gi R S ∧ S ≤ 10 ^ 160 ∧ ∀ H', Q (.bl true) H'
theorem sc_law_left : FnScope ["_law_newest", "_law_cell", "_law_rows", "_law_scale", "_law_made", "_law_out", "_law_others", "_law_still", "_law_refused", "_law_found", "_law_whole_here"] ["_law_newest", "_law_cell"] (defScope s_law_left) := ⟨rfl, rfl, rfl, by decide +kernel, rfl, by decide +kernel, by decide +kernel⟩
theorem sumW_zero {O : List (Dt × Int)} (pos : ∀ r ∈ O, 0 < r.2) (h : sumW O = 0) : O = [] := by
  cases O with
  | nil => rfl
  | cons r l =>
    have h1 := pos r (List.mem_cons_self ..)
    have h2 := sumW_nn (rows := l) fun q hq => Int.le_of_lt (pos q (List.mem_cons_of_mem _ hq))
    rw [sumW_cons] at h
    omega
section
variable {P : Program} {w : World} {K : PySem.W.Frag} {mg : Str → Option Value} {base : Heap} {C0 C2 cN : Addr}
set_option maxHeartbeats 8000000 in
theorem ok_law_left {f f1 f2 f3 : Addr} {fd d1 d2 d3 : FuncData} (A : FnAt K mg "_law_left" s_law_left ["_law_newest", "_law_cell"] f fd)
    (A_without : FnAt K mg "without" s_without ["table", "outcome"] f1 d1) (G_without : FnOk P w K mg base CX0 1 f1 d1 ["table", "outcome"] (sp_without K))
    (A_scaled : FnAt K mg "scaled" s_scaled ["table"] f2 d2) (G_scaled : FnOk P w K mg base (CXe P w) 4 f2 d2 ["table"] (sp_scaled K C2))
    (A_law_table_is : FnAt K mg "_law_table_is" s_law_table_is ["_law_found", "_law_rows", "_law_scale"] f3 d3) (G_law_table_is : FnOk P w K mg base CX0 3 f3 d3 ["_law_found", "_law_rows", "_law_scale"] (sp_table_is K))
    (T : Txt K mg C0 C2 cN) : FnOk P w K mg base CX0 5 f fd ["_law_newest", "_law_cell"] (sp_left K) := by
  refine A.F.ok sc_law_left (fun vs H Q E h => ?_) (fun cdv Ar outer s H vs Q E hr h => ?_)
  · obtain ⟨v, n, hp, R, S, rfl, _⟩ := h
    rfl
  · obtain ⟨v, n, hp, R, S, rfl, ⟨t, Du, Md, rfl, I⟩, G, bS, kk⟩ := h
    refine ⟨_, (pss_cons (ps_asg (pv 0) (pg_tup rfl (pgs_cons (pg_name (i := 2) sc_law_left.nd rfl (Or.inl rfl)) (pgs_cons (pg_name (i := 3) sc_law_left.nd rfl (Or.inl rfl)) (pgs_cons (pg_name (i := 4) sc_law_left.nd rfl (Or.inl rfl)) pgs_nil)))))
      (pss_cons (ps_set (i := 5) sc_law_left.nd rfl (Or.inr rfl) (pe_ix ix_tup (pe_ix ix_list (pv 2) (pe_op op_mod (pv 1) (pe_callB call_len_seq (by rfl) T.len_ Boot.«len» (pa_cons (pv 2) pa_nil))) (fun _ _ => rfl)) pe_int (fun _ _ => rfl)))
      (pss_cons (ps_comp (i := 6) rfl sc_law_left.nd rfl (Or.inl rfl) (Nc := ["_law_row", "_law_out"]) (caps1 1 5 [(".0", .local), ("_law_row", .local), ("_law_out", .cell)] rfl rfl rfl (by decide +kernel) (by decide +kernel) rfl (by decide +kernel) rfl rfl rfl rfl) (pi_list (pv 2)) (fun _ _ _ _ => (pg_name (i := 0) (show List.Nodup (["_law_row", "_law_out"] : List Str) by decide +kernel) rfl (Or.inl rfl))) (fun _ _ _ _ => by exact (pts_one (pt_cmpR (op_neDK (K := K) rfl hr.units) (pe_ix (ix_tupK (K := K) rfl) (pv 0) pe_int (fun _ _ => rfl)) (pv 1) (nomark _)))) (fun _ _ _ _ => (pv 0)))
      (pss_cons (ps_set (i := 7) sc_law_left.nd rfl (Or.inl rfl) (pe_call G_without (hr.mono (by decide)) rfl A_without.m A_without.F.kp A_without.b .nil pass0 (pa_cons (pv 4) (pa_cons (pv 5) pa_nil))))
      (pss_cons (ps_set (i := 8) sc_law_left.nd rfl (Or.inl rfl) pe_bl)
      (pss_cons (ps_set (i := 9) sc_law_left.nd rfl (Or.inl rfl) pe_non)
      (pss_cons (ps_tryA (i := 9) G_scaled (hr.mono (by decide)) rfl A_scaled.m A_scaled.F.kp A_scaled.b (pa_cons (pv 7) pa_nil) rfl T.Never_.m sc_law_left.nd rfl (Or.inl rfl) (fun _ => (pss_one (ps_set (i := 8) sc_law_left.nd rfl (Or.inl rfl) pe_bl))) rfl (fun _ _ z => z) rfl rfl rfl)
      (pss_cons (ps_if (pt_cmpR (op_eqL hr.units) (pv 6) (pe_lst pa_nil) (nomark _)) (pss_one (ps_ret (pv 8))) pss_nil)
      (pss_cons (ps_set (i := 10) sc_law_left.nd rfl (Or.inl rfl) (pe_callB (call_sum rfl) (by rfl) T.sum_ Boot.«sum» (pa_cons (pe_comp rfl (Nc := ["_law_outcome_here", "_law_weight"]) (caps0 rfl (by decide +kernel) (by decide +kernel) (by decide +kernel)) (pi_list (pv 6)) (fun _ _ _ _ => by exact (pg_tupK (K := K) (n := 2) rfl rfl (pgs_cons (pg_name (i := 0) (show List.Nodup (["_law_outcome_here", "_law_weight"] : List Str) by decide +kernel) rfl (Or.inl rfl)) (pgs_cons (pg_name (i := 1) (show List.Nodup (["_law_outcome_here", "_law_weight"] : List Str) by decide +kernel) rfl (Or.inl rfl)) pgs_nil)))) (fun _ _ _ _ => pts_nil) (fun _ _ _ _ => (pv 1))) pa_nil)))
      (pss_one (ps_ret (pe_and (pe_not (pv 8)) (pe_one (pe_call G_law_table_is (hr.mono (by decide)) rfl A_law_table_is.m A_law_table_is.F.kp A_law_table_is.b .nil pass0 (pa_cons (pv 9) (pa_cons (pv 6) (pa_cons (pv 10) pa_nil))))))))))))))))), ?_⟩
    obtain ⟨ws, eW, dW⟩ := id I.du
    have lw := dW.length
    rw [List.length_map] at lw
    have few := G.len
    have R0 : 0 < R.length := by
      cases R with
      | nil =>
        have h1 := G.sum
        have h2 := G.s0
        rw [sumW_nil] at h1
        omega
      | cons r l => exact Nat.succ_pos _
    refine ⟨_, rfl, t, _, rfl, I.tp, rfl, _, _, rfl, _, _, rfl, _, _, rfl, rfl, ?_⟩
    -- out
    have hz : (0 : Int) < (ws.length : Int) := by omega
    obtain ⟨j, jl, ej⟩ : ∃ j : Nat, j < R.length ∧ n % (ws.length : Int) = (j : Int) := by
      have z0 := Int.emod_nonneg n (show (ws.length : Int) ≠ 0 by omega)
      have z1 := Int.emod_lt_of_pos n hz
      exact ⟨(n % (ws.length : Int)).toNat, by omega, by omega⟩
    have er : R[j]? = some R[j] := List.getElem?_eq_getElem jl
    generalize R[j] = r at er
    have ew : ws[j]? = some (ws[j]'(by omega)) := List.getElem?_eq_getElem (by omega)
    generalize (ws[j]'(by omega)) = x at ew
    obtain ⟨d, ed, hxd⟩ := dW.get' ew
    rw [List.getElem?_map, er] at ed
    cases ed
    obtain ⟨q, va, rfl, sq, hva⟩ := DatAt.row (p := r) hxd
    have hat : atI ws (n % (ws.length : Int)) = some (.ref q) := by
      rw [ej]
      exact atI_nat ew
    refine ⟨_, rfl, _, rfl, _, rfl, Du, _, rfl, .inl (SqL.of eW), _, _, rfl, rfl, hz, Du, _, _, _, rfl, rfl, SqL.of eW, hat, q, _, 0, va, rfl, rfl, sq, rfl, ?_⟩
    have hoc := G.lw.oc r (List.mem_of_getElem? er)
    generalize r.1 = o at hva hoc
    clear hat sq hxd ew
    -- others
    refine ⟨_, rfl, Du, rfl, ⟨_, SqL.of eW⟩, fun D hD => ?_⟩
    refine comp_list (K := K) (a := Du) (D := D) (xs := ws) (fun i σ ys H' => (∃ o1, σ = [o1, some va]) ∧ Same H H' ∧ H' D = some (.lst ys) ∧ DatsAt K H' ys (((R.take i).filter fun r => !Dt.beq r.1 o).map rowD))
      ⟨⟨none, rfl⟩, .upd hD, upd_same, .nil⟩ ?_ ?_ ?_
    · rintro i σ ys H' hi ⟨_, S2, eD, hy⟩
      have e1 := hy.length
      rw [List.length_map] at e1
      have e2 := List.length_filter_le (fun r : Dt × Int => !Dt.beq r.1 o) (R.take i)
      rw [List.length_take] at e2
      exact ⟨SqL.of (S2 _ _ eW), eD, Nat.lt_of_le_of_lt (show ys.length ≤ 1000 by omega) (by decide)⟩
    · rintro i x σ ys H' hx ⟨⟨o1, rfl⟩, S2, eD, hy⟩ N hN
      obtain ⟨d, ed, hxd⟩ := (dW.same S2).get' hx
      obtain ⟨p, ep, rfl⟩ := map_get ed
      obtain ⟨q2, vb, rfl, h1, h2⟩ := DatAt.row (p := p) hxd
      refine ⟨_, rfl, q2, _, 0, vb, rfl, rfl, h1, rfl, _, rfl, p.1, o, h2, hva.same S2, Nat.le_trans (G.lw.oc p (List.mem_of_getElem? ep)).hgt (by decide), _, rfl, iteBB (fun hc => ?_) (fun hc => ?_)⟩
      · refine ⟨_, rfl, eD, hN _ _ _ ?_⟩
        obtain ⟨w1, w2, w3⟩ := snoc_ok (v := .ref q2) (d := rowD p) hD S2 eD hy hxd
        refine ⟨⟨_, rfl⟩, w1, w2, ?_⟩
        rw [take_snoc' ep, List.filter_append, List.map_append]
        have ef : [p].filter (fun p => !Dt.beq p.1 o) = [p] := by simp [List.filter, hc]
        rw [ef]
        exact w3
      · refine hN _ _ _ ⟨⟨_, rfl⟩, S2, eD, ?_⟩
        rw [take_snoc' ep, List.filter_append]
        have ef : [p].filter (fun p => !Dt.beq p.1 o) = [] := by simp [List.filter, hc]
        rw [ef, List.append_nil]
        exact hy
    rintro σ ys H1 ⟨_, S1, eD, hy⟩
    rw [List.take_of_length_le (by omega)] at hy
    have lsO : LsM K H1 D ((R.filter fun r => !Dt.beq r.1 o).map rowD) := ⟨ys, eD, hy⟩
    have lO : (R.filter fun r => !Dt.beq r.1 o).length ≤ 5 := Nat.le_trans (List.length_filter_le ..) few
    have pO : ∀ r ∈ R.filter fun r => !Dt.beq r.1 o, 0 < r.2 := fun r hr => G.pos r (List.mem_filter.mp hr).1
    have oO : ∀ r ∈ R.filter fun r => !Dt.beq r.1 o, Oc r.1 := fun r hr => G.lw.oc r (List.mem_filter.mp hr).1
    have sO : sumW (R.filter fun r => !Dt.beq r.1 o) ≤ S := by
      have h1 : ∀ l : List (Dt × Int), (∀ r ∈ l, 0 < r.2) → sumW (l.filter fun r => !Dt.beq r.1 o) ≤ sumW l := fun l => by
        induction l with
        | nil => intro _; exact Int.le_refl _
        | cons r l ih =>
          intro h
          have h1 := ih fun q hq => h q (List.mem_cons_of_mem _ hq)
          have h2 := h r (List.mem_cons_self ..)
          rw [List.filter_cons]
          split
          · rw [sumW_cons, sumW_cons]
            omega
          · rw [sumW_cons]
            omega
      have := h1 R G.pos
      rw [G.sum] at this
      exact this
    -- still
    have md1 := I.md.same S1
    obtain ⟨ms, eM, dM⟩ := id md1
    have ep : (R.map fun r => (r.1, frD (low r.2 S))).map prD = R.map (parD S) := by
      rw [List.map_map]
      rfl
    have ef : ((R.map fun r => (r.1, frD (low r.2 S))).filter fun p => !Dt.beq p.1 o).map prD = (R.filter fun r => !Dt.beq r.1 o).map (parD S) := by
      rw [List.filter_map, List.map_map]
      rfl
    refine ⟨_, rfl, _, rfl, Md, ms, R.map fun r => (r.1, frD (low r.2 S)), va, o, rfl, SqL.of eM, by rw [ep]; exact dM, hva.same S1, fun p hp => ?_, by rw [List.length_map]; omega, fun D2 H2 S2 hD2 ls2 => ?_⟩
    · obtain ⟨r, hr, rfl⟩ := List.mem_map.mp hp
      exact Nat.le_trans (G.lw.oc r hr).hgt (by decide)
    rw [ef] at ls2
    replace lsO := lsO.same S2
    generalize R.filter (fun r => !Dt.beq r.1 o) = O at lsO lO pO oO sO ls2
    obtain ⟨us, eU, dU⟩ := ls2
    have sp := G.s0
    have hgt : Dt.hgts (O.map rowD) ≤ 30 := by
      have : ∀ l : List (Dt × Int), (∀ r ∈ l, Oc r.1) → Dt.hgts (l.map rowD) ≤ 3 := fun l => by
        induction l with
        | nil => intro _; simp [Dt.hgts]
        | cons r l ih =>
          intro h
          have h1 := ih fun q hq => h q (List.mem_cons_of_mem _ hq)
          have h2 := (h r (List.mem_cons_self ..)).hgt
          simp only [List.map_cons, Dt.hgts, rowD, Dt.hgt]
          omega
      exact Nat.le_trans (this O oO) (by decide)
    -- try
    refine ⟨_, rfl, D2, us, O, S, rfl, SqL.of eU, dU, ⟨sp, bS, fun r hr => Int.le_of_lt (pO r hr), by omega⟩, by omega, fun z H3 S3 => ⟨⟨C2, rfl⟩, T.hit, ?_⟩, fun z D3 H3 S3 hD3 ls3 => ?_⟩
    · have e0 := sumW_zero pO z
      subst e0
      obtain ⟨us3, eO, dO⟩ := lsO.same S3
      refine ⟨_, rfl, Nat.zero_le _, fun l hl => ?_⟩
      have S4 := Same.upd (o := .lst []) hl
      exact ⟨D, l, _, [], _, [], rfl, rfl, SqL.of (S4 _ _ eO), SqL.of upd_same, dO.same S4, .nil, hgt, _, rfl, iteT ⟨_, rfl, kk _⟩⟩
    · obtain ⟨us3, eO, dO⟩ := lsO.same S3
      refine ⟨_, rfl, Nat.zero_le _, fun l hl => ?_⟩
      have S4 := Same.upd (o := .lst []) hl
      have eL : (upd H3 l (.lst [])) l = some (.lst []) := upd_same
      generalize upd H3 l (.lst []) = H4 at S4 eL
      have nb : Dt.beqs (O.map rowD) [] = false := by
        cases O with
        | nil => exact absurd rfl z
        | cons r l => rfl
      refine ⟨D, l, _, [], _, [], rfl, rfl, SqL.of (S4 _ _ eO), SqL.of eL, dO.same S4, .nil, hgt, ?_⟩
      rw [nb]
      refine ⟨_, rfl, iteF ?_⟩
      -- whole_here
      have eO4 := S4 _ _ eO
      have dO4 := dO.same S4
      have lO4 := dO4.length
      rw [List.length_map] at lO4
      refine ⟨_, rfl, D, rfl, ⟨_, SqL.of eO4⟩, fun D4 hD4 => ?_⟩
      refine comp_list (K := K) (a := D) (D := D4) (xs := us3) (fun i σ ys H' => (∃ o1 o2, σ = [o1, o2]) ∧ Same H4 H' ∧ H' D4 = some (.lst ys) ∧ ys = ((O.take i).map (·.2)).map V.int)
        ⟨⟨none, none, rfl⟩, .upd hD4, upd_same, rfl⟩ ?_ ?_ ?_
      · rintro i σ ys H' hi ⟨_, S5, eD5, hy5⟩
        refine ⟨SqL.of (S5 _ _ eO4), eD5, ?_⟩
        rw [hy5, List.length_map, List.length_map, List.length_take]
        exact Nat.lt_of_le_of_lt (show _ ≤ 1000 by omega) (by decide)
      · rintro i x σ ys H' hx ⟨⟨o1, o2, rfl⟩, S5, eD5, hy5⟩ N hN
        obtain ⟨d, ed, hxd⟩ := (dO4.same S5).get' hx
        obtain ⟨p, ep, rfl⟩ := map_get ed
        obtain ⟨q2, vb, rfl, h1, h2⟩ := DatAt.row (p := p) hxd
        refine ⟨q2, _, rfl, h1, rfl, _, _, rfl, _, _, rfl, rfl, ?_⟩
        refine iteT (B := True) ?_
        refine ⟨_, rfl, eD5, hN _ _ _ ⟨⟨_, _, rfl⟩, fun b u eb => ?_, upd_same, ?_⟩⟩
        · rw [upd_ne (ne_of_none eb hD4)]
          exact S5 b u eb
        · rw [take_snoc' ep, List.map_append, List.map_append, hy5]
          rfl
      rintro σ ys H5 ⟨_, S5, eD5, hy5⟩
      rw [List.take_of_length_le (by omega)] at hy5
      subst hy5
      refine ⟨D4, O.map (·.2), rfl, SqL.of eD5, ?_⟩
      have fO : (O.filter fun r => decide (0 < r.2)) = O := List.filter_eq_self.mpr fun r hr => decide_eq_true (pO r hr)
      have wp : 0 < sumW O := by
        have := sumW_nn (rows := O) fun r hr => Int.le_of_lt (pO r hr)
        omega
      refine ⟨_, rfl, _, rfl, _, rfl, iteT ?_⟩
      exact ⟨_, rfl, _, rfl, _, rfl, D3, D, O, sumW O, rfl, by rw [fO]; exact ls3.same (S4.trans S5), ⟨us3, (S4.trans S5) _ _ eO, dO.same (S4.trans S5)⟩, oO, ⟨wp, by omega⟩, by omega, fun H' _ => kk H'⟩
end
end K09
namespace K09
open PySem L2 FW PyProof.Rows
theorem sc_law : FnScope ["_law_script", "_law_heap", "_law_cell", "_law_newest", "_law_rows", "_law_scale", "_law_made"] ["_law_script"] (defScope s_law) := ⟨rfl, rfl, rfl, by decide +kernel, rfl, by decide +kernel, by decide +kernel⟩
def sp_law (K : PySem.W.Frag) (Pt : Addr) : Sp := fun vs H Q _ => ∃ (a : Addr) (ns : List Int), vs = [.ref a] ∧ H Pt = some (.tbl #[]) ∧ SqL K H a (ns.map V.int) ∧ ns.length ≤ 63 ∧ (∀ n ∈ ns, Builtin.Int.intBits n ≤ 2 ^ 20) ∧ ∀ H', Q (.bl true) H'
theorem cut_len24 (ns : List Int) {ms : List Int} (h : cutV (ns.map V.int) none (some 24) = ms.map V.int) : ms.length ≤ 24 := by
  have e : cutV (ns.map V.int) none (some ((24 : Nat) : Int)) = (ns.map V.int).take 24 := cut_take _ 24
  have := congrArg List.length (h.symm.trans e)
  rw [List.length_map, List.length_take] at this
  omega
theorem SqL.odd {K : PySem.W.Frag} {H H' : Hp} {a Pt : Addr} {xs : List V} (h : SqL K H a xs) (o : Odd H Pt) (e : BtA Pt H H') : SqL K H' a xs := by
  rcases h with (h | ⟨q, h⟩) | h
  · exact .inl (.inl (e _ _ (o.ne h) h))
  · refine .inl (.inr ⟨q, e _ _ (fun z => ?_) h⟩)
    obtain ⟨u, h1, h2, h3, h4⟩ := o
    rw [z, h1] at h
    cases h
    exact h3 _ _ rfl
  · exact .inr h
theorem pow11 : ∀ j, j ≤ 24 → (11 : Int) ^ j ≤ 11 ^ 24 := by decide +kernel
theorem ItL.last {K : PySem.W.Frag} {H : Hp} {hp : Addr} {ws : List V} {its : List (List (Dt × Int) × Int)} (h : ItL K H hp ws its) (l0 : 0 < its.length) : ∃ v q, atI ws (-1) = some v ∧ q ∈ its ∧ Itm K H hp v q.1 q.2 := by
  have hl := h.len
  have e1 : ws[ws.length - 1]? = some (ws[ws.length - 1]'(by omega)) := List.getElem?_eq_getElem (by omega)
  have e2 : its[ws.length - 1]? = some (its[ws.length - 1]'(by omega)) := List.getElem?_eq_getElem (by omega)
  refine ⟨_, _, ?_, List.mem_of_getElem? e2, h.it _ _ _ e1 e2⟩
  have ne : ws ≠ [] := fun z => by rw [z] at hl; simp at hl; omega
  have e3 := List.dropLast_concat_getLast ne
  have e4 : ws[ws.length - 1]'(by omega) = ws.getLast ne := by rw [List.getLast_eq_getElem]
  rw [e4]
  generalize ws.getLast ne = z at e3
  rw [← e3]
  exact atI_last _ _
section
variable {P : Program} {w : World} {K : PySem.W.Frag} {mg : Str → Option Value} {base : Heap} {C0 C2 cN : Addr}
set_option maxHeartbeats 16000000 in
theorem ok_law {f f1 f2 f3 f4 f5 f6 Pt : Addr} {fd d1 d2 d3 d4 d5 d6 : FuncData} (A : FnAt K mg "law" s_law ["_law_script"] f fd)
    (A_table : FnAt K mg "table" s_table ["pairs"] f1 d1) (G_table : FnOk P w K mg base CX0 6 f1 d1 ["pairs"] (sp_gathered K))
    (A_law_grown : FnAt K mg "_law_grown" s_law_grown ["_law_heap", "_law_cell"] f2 d2) (G_law_grown : FnOk P w K mg base CX0 7 f2 d2 ["_law_heap", "_law_cell"] (sp_grown K Pt))
    (A_law_shorter : FnAt K mg "_law_shorter" s_law_shorter ["_law_newest"] f3 d3) (G_law_shorter : FnOk P w K mg base CX0 2 f3 d3 ["_law_newest"] (sp_shorter K))
    (A_law_table_is : FnAt K mg "_law_table_is" s_law_table_is ["_law_found", "_law_rows", "_law_scale"] f4 d4) (G_law_table_is : FnOk P w K mg base CX0 3 f4 d4 ["_law_found", "_law_rows", "_law_scale"] (sp_table_is K))
    (A_total : FnAt K mg "total" s_total ["table"] f5 d5) (G_total : FnOk P w K mg base CX0 3 f5 d5 ["table"] (sp_total K))
    (A_law_left : FnAt K mg "_law_left" s_law_left ["_law_newest", "_law_cell"] f6 d6) (G_law_left : FnOk P w K mg base CX0 5 f6 d6 ["_law_newest", "_law_cell"] (sp_left K))
    (T : Txt K mg C0 C2 cN) : FnOk P w K mg base CX0 8 f fd ["_law_script"] (sp_law K Pt) := by
  refine A.F.ok (k := 7) sc_law (fun vs H Q E h => ?_) (fun cdv Ar outer s H vs Q E hr h => ?_)
  · obtain ⟨a, ns, rfl, _⟩ := h
    rfl
  · obtain ⟨a, ns, rfl, hPt, hl, few, bits, kk⟩ := h
    refine ⟨_, (pss_cons (ps_set (i := 1) sc_law.nd rfl (Or.inl rfl) (pe_lst (pa_cons (pe_tup (pa_cons (pe_lst (pa_cons (pe_tup (pa_cons pe_int (pa_cons pe_int pa_nil))) pa_nil)) (pa_cons pe_int (pa_cons (pe_call G_table (hr.mono (by decide)) rfl A_table.m A_table.F.kp A_table.b .nil pass0 (pa_cons (pe_lst (pa_cons (pe_tup (pa_cons pe_int (pa_cons (pe_tup (pa_cons pe_int (pa_cons pe_int pa_nil))) pa_nil))) pa_nil)) pa_nil)) pa_nil)))) pa_nil)))
      (pss_cons (ps_for PassesOwn.never rfl (pi_list (pe_slice sl_list (pv 0) po_none (po_some pe_int))) (pg_name (i := 2) sc_law.nd rfl (Or.inl rfl)) (pss_cons (ps_set (i := 3) sc_law.nd rfl (Or.inl rfl) (pe_call G_law_shorter (hr.mono (by decide)) rfl A_law_shorter.m A_law_shorter.F.kp A_law_shorter.b .nil pass0 (pa_cons (pe_call G_law_grown (hr.mono (by decide)) rfl A_law_grown.m A_law_grown.F.kp A_law_grown.b .nil pass0 (pa_cons (pv 1) (pa_cons (pv 2) pa_nil))) pa_nil)))
      (pss_cons (ps_if (PW.pt (pw_or (pt_not (pt_val (pe_call G_law_table_is (hr.mono (by decide)) rfl A_law_table_is.m A_law_table_is.F.kp A_law_table_is.b .nil pass0 (pa_cons (pe_ix ix_tup (pv 3) pe_int (fun _ _ => rfl)) (pa_cons (pe_ix ix_tup (pv 3) pe_int (fun _ _ => rfl)) (pa_cons (pe_ix ix_tup (pv 3) pe_int (fun _ _ => rfl)) pa_nil)))))) (pw_or1 (pt_cmpR (op_neD hr.units) (pe_call G_total (hr.mono (by decide)) rfl A_total.m A_total.F.kp A_total.b .nil pass0 (pa_cons (pe_ix ix_tup (pv 3) pe_int (fun _ _ => rfl)) pa_nil)) (pe_tup (pa_cons pe_int (pa_cons pe_int pa_nil))) (nomark _))))) (pss_one (ps_ret pe_bl)) pss_nil)
      (pss_one (ps_expr (pe_bm PySem.F.plainAttrs_list PySem.F.slot_list_append PySem.F.type_list_append mt_append (pv 1) (pa_cons (pv 3) pa_nil)))))))
      (pss_cons (ps_for PassesOwn.never rfl (pi_list (pv 1)) (pg_tup rfl (pgs_cons (pg_name (i := 4) sc_law.nd rfl (Or.inl rfl)) (pgs_cons (pg_name (i := 5) sc_law.nd rfl (Or.inl rfl)) (pgs_cons (pg_name (i := 6) sc_law.nd rfl (Or.inl rfl)) pgs_nil)))) (pss_one (ps_if (pt_not (pt_val (pe_call G_law_table_is (hr.mono (by decide)) rfl A_law_table_is.m A_law_table_is.F.kp A_law_table_is.b .nil pass0 (pa_cons (pv 6) (pa_cons (pv 4) (pa_cons (pv 5) pa_nil)))))) (pss_one (ps_ret pe_bl)) pss_nil)))
      (pss_one (ps_ret (pe_call G_law_left (hr.mono (by decide)) rfl A_law_left.m A_law_left.F.kp A_law_left.b .nil pass0 (pa_cons (pe_ix ix_list (pv 1) (pe_un un_neg pe_int) (fun _ _ => rfl)) (pa_cons (pe_callB (call_sum rfl) (by rfl) T.sum_ Boot.«sum» (pa_cons (pe_slice sl_list (pv 0) po_none (po_some pe_int)) pa_nil)) pa_nil)))))))), ?_⟩
    have odd0 : Odd H Pt := .tbl hPt
    have ho : Oc (.int 0) := .int 0
    -- heap = [([(0, 1)], 1, table([(0, (1, 1))]))]
    refine ⟨two_le, fun ta hta => ⟨(by show 1 ≤ sizeLine; decide), fun La hLa => ?_⟩⟩
    have Sb := (Same.upd (o := .tup [.int 0, .int 1]) hta).trans (Same.upd (o := .lst [.ref ta]) hLa)
    have eta : (upd (upd H ta (.tup [.int 0, .int 1])) La (.lst [.ref ta])) ta = some (.tup [.int 0, .int 1]) := (Same.upd hLa) _ _ upd_same
    have eLa : (upd (upd H ta (.tup [.int 0, .int 1])) La (.lst [.ref ta])) La = some (.lst [.ref ta]) := upd_same
    generalize upd (upd H ta (.tup [.int 0, .int 1])) La (.lst [.ref ta]) = Hb at Sb eta eLa
    refine ⟨two_le, fun tc htc => ⟨two_le, fun td htd => ⟨(by show 1 ≤ sizeLine; decide), fun Lb hLb => ?_⟩⟩⟩
    have Sc := ((Same.upd (o := .tup [.int 1, .int 1]) htc).trans (Same.upd (o := .tup [.int 0, .ref tc]) htd)).trans (Same.upd (o := .lst [.ref td]) hLb)
    have etc : (upd (upd (upd Hb tc (.tup [.int 1, .int 1])) td (.tup [.int 0, .ref tc])) Lb (.lst [.ref td])) tc = some (.tup [.int 1, .int 1]) := (Same.upd hLb) _ _ ((Same.upd htd) _ _ upd_same)
    have etd : (upd (upd (upd Hb tc (.tup [.int 1, .int 1])) td (.tup [.int 0, .ref tc])) Lb (.lst [.ref td])) td = some (.tup [.int 0, .ref tc]) := (Same.upd hLb) _ _ upd_same
    have eLb : (upd (upd (upd Hb tc (.tup [.int 1, .int 1])) td (.tup [.int 0, .ref tc])) Lb (.lst [.ref td])) Lb = some (.lst [.ref td]) := upd_same
    generalize upd (upd (upd Hb tc (.tup [.int 1, .int 1])) td (.tup [.int 0, .ref tc])) Lb (.lst [.ref td]) = Hc at Sc etc etd eLb
    have l11 : low 1 1 = (1, 1) := low_one (by decide)
    refine ⟨Lb, [.ref td], [(.int 0, 1)], 1, [.int 0], rfl, SqL.of eLb, .cons (datAt_pr (p := (.int 0, frD (low 1 1))) (SqT.of etd) (.int 0) (datAt_fr (by rw [l11]; exact SqT.of etc))) .nil, ⟨by decide, by decide, (lw_one ho).nn, (by show (1 : Int) + 0 ≤ 10 ^ 160; decide)⟩, (lw_one ho).oc, (by show 1 ≤ 1000; decide), fun r hr => by cases List.mem_singleton.mp hr; exact List.mem_singleton.mpr rfl, (by show 1 < 64; decide), fun es srt mem Fo Hd Sd hFo lsF => ⟨(by show 3 ≤ sizeLine; decide), fun te hte => ⟨(by show 1 ≤ sizeLine; decide), fun hp hhp => ?_⟩⟩⟩
    rw [gath_one ho srt mem] at lsF
    have Se := (Same.upd (o := .tup [.ref La, .int 1, .ref Fo]) hte).trans (Same.upd (o := .lst [.ref te]) hhp)
    have ete : (upd (upd Hd te (.tup [.ref La, .int 1, .ref Fo])) hp (.lst [.ref te])) te = some (.tup [.ref La, .int 1, .ref Fo]) := (Same.upd hhp) _ _ upd_same
    have ehp : (upd (upd Hd te (.tup [.ref La, .int 1, .ref Fo])) hp (.lst [.ref te])) hp = some (.lst [.ref te]) := upd_same
    have Scd := Sc.trans Sd
    have nLa : La ≠ hp := ne_of_none ((Same.upd hte) _ _ (Scd _ _ eLa)) hhp
    have nFo : Fo ≠ hp := by
      obtain ⟨_, e, _⟩ := lsF
      exact ne_of_none ((Same.upd hte) _ _ e) hhp
    have nhp : H hp = none := by
      cases e : H hp with
      | none => rfl
      | some u =>
        have := (Same.upd (o := .tup [.ref La, .int 1, .ref Fo]) hte) _ _ ((Sb.trans Scd) _ _ e)
        rw [hhp] at this
        cases this
    generalize upd (upd Hd te (.tup [.ref La, .int 1, .ref Fo])) hp (.lst [.ref te]) = He at Se ete ehp
    have il0 : ItL K He hp [.ref te] [([(.int 0, 1)], 1)] := ⟨rfl, fun i v q h1 h2 => by
      cases i with
      | zero =>
        cases h1
        cases h2
        exact ⟨te, La, Fo, rfl, ⟨SqT.of ete, ⟨_, (Scd.trans Se) _ _ eLa, .cons (datAt_row (p := (.int 0, 1)) (SqT.of ((Scd.trans Se) _ _ eta)) (.int 0)) .nil⟩, lsF.same Se, nLa, nFo⟩⟩
      | succ i => cases h1⟩
    have SH := (Sb.trans Scd).trans Se
    clear eLa eta etc etd eLb lsF ete hta hLa htc htd hLb hte hhp mem
    -- for cell in script[:24]
    obtain ⟨ms, hms, sub, lms⟩ := cut_ints ns none (some 24)
    have l24 : ms.length ≤ 24 := cut_len24 ns hms
    refine ⟨_, rfl, _, rfl, a, _, rfl, SH.seq hl, fun c1 hc1 => ?_⟩
    rw [hms]
    have Sf := Same.upd (o := .lst (ms.map V.int)) hc1
    have ec1 : (upd He c1 (.lst (ms.map V.int))) c1 = some (.lst (ms.map V.int)) := upd_same
    have nc1 : c1 ≠ hp := (ne_of_none ehp hc1).symm
    generalize upd He c1 (.lst (ms.map V.int)) = Hf at Sf ec1
    have SHf := SH.trans Sf
    refine ⟨c1, rfl, ⟨_, SqL.of ec1⟩, for_list (K := K) (a := c1) (xs := ms.map V.int) (fun i σ H' => BtA Pt H H' ∧ TabSt Pt pG qG H' ∧ H' c1 = some (.lst (ms.map V.int)) ∧ ∃ ws its N o2 o3, σ = [some (.ref a), some (.ref hp), o2, o3, none, none, none] ∧ H' hp = some (.lst ws) ∧ ItL K H' hp ws its ∧ its.length = i + 1 ∧ (∀ q ∈ its, Gi q.1 q.2 ∧ q.2 ∣ N) ∧ 0 < N ∧ N ≤ 11 ^ i)
      ⟨.of SHf, .inl (SHf _ _ hPt), ec1, _, _, 1, none, none, rfl, Sf _ _ ehp, il0.same Sf, rfl, fun q hq => by cases List.mem_singleton.mp hq; exact ⟨gi_one ho, Int.dvd_refl _⟩, by decide, by decide⟩ (fun i σ H' _ z => SqL.of z.2.2.1) ?_ ?_⟩
    · rintro i x σ H1 hx ⟨B1, tb1, c11, ws, its, N, o2, o3, rfl, eh1, il1, li1, gi1, N0, N1⟩
      obtain ⟨n, en, rfl⟩ := map_get hx
      have hi : i < 24 := by
        have := (List.getElem?_eq_some_iff.mp en).1
        omega
      have lN : N ≤ 11 ^ 24 := Int.le_trans N1 (pow11 i (by omega))
      refine ⟨_, rfl, _, rfl, hp, n, ws, its, N, rfl, eh1, il1, by omega, tb1, gi1, N0, lN, bits n (sub n (List.mem_of_getElem? en)), fun v H2 R S b B2 tb2 it2 G2 s2 bb dv => ?_⟩
      have o1 := TabSt.odd tb1
      have eh2 := B2 _ _ (o1.ne eh1) eh1
      have c12 := B2 _ _ (o1.ne c11) c11
      have il2 := il1.odd o1 B2
      have Nb : 0 < N * b := Int.mul_pos N0 bb.1
      refine ⟨v, hp, R, S, N * b, rfl, it2, ⟨_, eh2⟩, G2, s2, Nb, dv, fun v3 H3 S3 it3 => ?_⟩
      obtain ⟨G3, dv3, _⟩ := shR_ok G2 Nb dv
      generalize shR (gl S R) R = R3 at it3 G3
      generalize S / gl S R = S4 at it3 G3 dv3
      have s4 : S4 ≤ 11 ^ 25 := by
        have h1 := Int.le_of_dvd Nb dv3
        have h2 := (mulB (Int.le_of_lt N0) lN (Int.le_of_lt bb.1) bb.2).2
        omega
      have s4p := G3.s0
      have l3 := G3.len
      obtain ⟨t3, D3, M3, rfl, I3⟩ := id it3
      refine ⟨_, rfl, t3, _, 2, .ref M3, rfl, rfl, I3.tp, rfl, _, rfl, t3, _, 0, .ref D3, rfl, rfl, I3.tp, rfl, _, rfl, t3, _, 1, .int S4, rfl, rfl, I3.tp, rfl, M3, D3, R3, S4, rfl, by rw [G3.filt]; exact I3.md, I3.du, G3.lw.oc, ⟨s4p, by omega⟩, by omega, fun H4 S44 => ⟨_, rfl, iteF ?_⟩⟩
      have I4 := I3.same S44
      obtain ⟨wm, em, dm⟩ := id I4.md
      refine ⟨_, rfl, t3, _, 2, .ref M3, rfl, rfl, I4.tp, rfl, M3, wm, R3, S4, rfl, SqL.of em, dm, ⟨s4p, by omega, G3.lw.nn, by rw [G3.sum]; omega⟩, fun v5 H5 S5 hv5 => ⟨two_le, fun t6 ht6 => ?_⟩⟩
      rw [G3.sum, low_one s4p] at hv5
      have S6 := Same.upd (o := .tup [.int 1, .int 1]) ht6
      have e6 : (upd H5 t6 (.tup [.int 1, .int 1])) t6 = some (.tup [.int 1, .int 1]) := upd_same
      generalize upd H5 t6 (.tup [.int 1, .int 1]) = H6 at S6 e6
      refine ⟨frD (1, 1), frD (1, 1), hv5.same S6, datAt_fr (SqT.of e6), Nat.le_trans (hgt_frD _) (by decide), ?_⟩
      rw [Dt.beq_self]
      refine ⟨_, rfl, iteF ?_⟩
      have S36 := (S44.trans S5).trans S6
      have S26 := S3.trans S36
      have eh6 := S26 _ _ eh2
      refine ⟨_, rfl, .inl ⟨rfl, _, SqL.of eh6⟩, _, rfl, hp, ws, _, rfl, rfl, eh6, ?_, ?_⟩
      · have := il1.len
        exact Nat.lt_of_le_of_lt (show ws.length ≤ 1000 by omega) (by decide)
      refine ⟨fun b o nb eb => ?_, ?_, ?_, ws ++ [.ref t3], its ++ [(R3, S4)], N * b, _, _, rfl, upd_same, (il2.same S26).snoc eh6 (it3.same S36), by rw [List.length_append, li1]; rfl, fun q hq => ?_, Nb, ?_⟩
      · rw [upd_ne (ne_of_none eb nhp)]
        exact S26 _ _ (B2 _ _ nb (B1 _ _ nb eb))
      · have tb6 := tb2.same S26
        have nP := (TabSt.odd tb6).ne eh6
        rcases tb6 with z | ⟨c', co, z1, z2, z3⟩
        · exact .inl (by rw [upd_ne nP.symm]; exact z)
        · refine .inr ⟨c', co, by rw [upd_ne nP.symm]; exact z1, ?_, z3⟩
          rw [upd_ne fun y => by rw [y, eh6] at z2; cases z2]
          exact z2
      · rw [upd_ne nc1]
        exact S26 _ _ c12
      · rcases List.mem_append.mp hq with z | z
        · exact ⟨(gi1 q z).1, Int.dvd_mul_of_dvd_left (gi1 q z).2⟩
        · cases List.mem_singleton.mp z
          exact ⟨G3, dv3⟩
      · rw [Int.pow_succ]
        exact (mulB (Int.le_of_lt N0) N1 (Int.le_of_lt bb.1) bb.2).2
    rintro σ H1 ⟨B1, tb1, c11, ws, its, N, o2, o3, rfl, eh1, il1, li1, gi1, N0, N1⟩
    rw [List.length_map] at li1 N1
    have lN : N ≤ 11 ^ 24 := Int.le_trans N1 (pow11 _ l24)
    have sN : ∀ q ∈ its, q.2 ≤ 11 ^ 24 := fun q hq => Int.le_trans (Int.le_of_dvd N0 (gi1 q hq).2) lN
    have sa := SqL.odd hl odd0 B1
    refine ⟨_, rfl, hp, rfl, ⟨_, SqL.of eh1⟩, for_list (K := K) (a := hp) (xs := ws) (fun i σ H' => Same H1 H' ∧ ∃ o2 o3 o4 o5 o6, σ = [some (.ref a), some (.ref hp), o2, o3, o4, o5, o6])
      ⟨.refl _, _, _, _, _, _, rfl⟩ (fun i σ H' _ z => SqL.of (z.1 _ _ eh1)) ?_ ?_⟩
    · rintro i x σ H2 hx ⟨S2, o2, o3, o4, o5, o6, rfl⟩
      have hi : i < its.length := by
        have := (List.getElem?_eq_some_iff.mp hx).1
        have := il1.len
        omega
      have ei : its[i]? = some its[i] := List.getElem?_eq_getElem hi
      generalize its[i] = q at ei
      have qm := List.mem_of_getElem? ei
      obtain ⟨t3, D3, M3, rfl, I3⟩ := (il1.it i x q hx ei).same S2
      have G3 := (gi1 q qm).1
      have s3 := sN q qm
      have l3 := G3.len
      refine ⟨t3, _, rfl, I3.tp, rfl, _, _, rfl, _, _, rfl, _, _, rfl, rfl, ?_⟩
      refine ⟨_, rfl, _, rfl, _, rfl, M3, D3, q.1, q.2, rfl, by rw [G3.filt]; exact I3.md, I3.du, G3.lw.oc, ⟨G3.s0, by omega⟩, by omega, fun H4 S44 => ⟨_, rfl, iteF ?_⟩⟩
      exact ⟨S2.trans S44, _, _, _, _, _, rfl⟩
    rintro σ H2 ⟨S2, o2, o3, o4, o5, o6, rfl⟩
    obtain ⟨v, q, hat, qm, it⟩ := il1.last (by omega)
    refine ⟨_, rfl, 1, rfl, hp, _, _, _, rfl, rfl, SqL.of (S2 _ _ eh1), hat, _, rfl, _, rfl, a, _, rfl, S2.seq sa, fun c2 hc2 => ?_⟩
    rw [hms]
    have S3 := Same.upd (o := .lst (ms.map V.int)) hc2
    have s3 := sN q qm
    exact ⟨c2, ms, rfl, SqL.of upd_same, v, ms.sum, hp, q.1, q.2, rfl, (it.same S2).same S3, (gi1 q qm).1, by omega, kk⟩
end
end K09
namespace K09
open PySem L2 FW PyProof.Rows
theorem mks_mk {K : PySem.W.Frag} {mg : Str → Option Value} {c Pt bm : Addr} {o ob : Obj} (l : K.lookup c = some o) (g : mg "__builtins__" = some (.ref bm)) (lb : K.lookup bm = some ob)
    (hs : ∃ vs file tf flags tg inF text tt, o.cls = .type "code" ∧ o.data = .fields vs ∧ vs[11]? = some (.ref Pt) ∧ vs.getD 11 .none = .ref Pt ∧ vs.getD 18 .none = .str file tf ∧ vs.getD 7 .none = .int flags tg ∧ vs.getD 9 .none = .bool inF ∧ vs.getD 10 .none = .int text tt ∧ c ≠ Pt)
    (hb : mainGlobals ≠ Pt ∧ bm ≠ builtinsNs ∧ bm ≠ mainGlobals ∧ bm ≠ Pt ∧ ob.cls = .type "module" ∧ ob.dict = some builtinsNs ∧ ob.data = .plain) : Mks K mg c Pt :=
  ⟨fun h KX => let ⟨vs, file, tf, flags, tg, inF, text, tt, h1, h2, h3, h4, h5, h6, h7, h8, h9⟩ := hs; ⟨o, vs, file, tf, flags, tg, inF, text, tt, KX _ _ l, h1, h2, h3, h4, h5, h6, h7, h8, h9⟩, hb.1,
    fun h KX => ⟨bm, ob, g, hb.2.1, hb.2.2.1, hb.2.2.2.1, KX _ _ lb, hb.2.2.2.2.1, hb.2.2.2.2.2.1, hb.2.2.2.2.2.2⟩⟩
theorem tail_in {K : PySem.W.Frag} {a : Addr} {o : Obj} {h : Heap} (x : PySem.W.Frag.In ((a, o) :: K) h) (n : K.lookup a = none) : K.In h := fun b u e => x b u (by
  rw [List.lookup_cons]
  have ne : (b == a) = false := by
    rw [beq_eq_false_iff_ne]
    intro z
    rw [z, n] at e
    cases e
  rw [ne]
  exact e)
theorem head_in {K : PySem.W.Frag} {a : Addr} {o : Obj} {h : Heap} (x : PySem.W.Frag.In ((a, o) :: K) h) : h.get? a = some o := x a o (by rw [List.lookup_cons, beq_self_eq_true])
noncomputable def KFr : Params → PySem.W.Frag := fun P =>
 (nat_lit 2, ⟨.none, none, (.dict #[] 0), #[]⟩) ::
 (nat_lit 3, ⟨(.type "dict"), none, (.dict #[⟨PyData.keyHash P "__name__", (.str "__name__" 165), (.str "law_flipwright_k09_whole_heap_of_tables" 354)⟩, ⟨PyData.keyHash P "__doc__", (.str "__doc__" 166), .none⟩, ⟨PyData.keyHash P "__package__", (.str "__package__" 167), .none⟩, ⟨PyData.keyHash P "__loader__", (.str "__loader__" 168), (.builtin "__main__.__loader__#opaque")⟩, ⟨PyData.keyHash P "__spec__", (.str "__spec__" 169), .none⟩, ⟨PyData.keyHash P "__annotations__", (.str "__annotations__" 170), (.ref 6)⟩, ⟨PyData.keyHash P "__builtins__", (.str "__builtins__" 171), (.ref 4)⟩, ⟨PyData.keyHash P "__file__", (.str "__file__" 173), (.str "/claim/cut.py" 172)⟩, ⟨PyData.keyHash P "__cached__", (.str "__cached__" 174), .none⟩, ⟨PyData.keyHash P "FlipError", (.str "FlipError" 206), (.ref 24)⟩, ⟨PyData.keyHash P "NoShare", (.str "NoShare" 222), (.ref 37)⟩, ⟨PyData.keyHash P "Never", (.str "Never" 238), (.ref 49)⟩, ⟨PyData.keyHash P "NOUGHT", (.str "NOUGHT" 243), (.ref 52)⟩, ⟨PyData.keyHash P "greatest_divisor", (.str "greatest_divisor" 252), (.ref 59)⟩, ⟨PyData.keyHash P "plus", (.str "plus" 264), (.ref 66)⟩, ⟨PyData.keyHash P "times", (.str "times" 274), (.ref 73)⟩, ⟨PyData.keyHash P "over", (.str "over" 282), (.ref 80)⟩, ⟨PyData.keyHash P "rank", (.str "rank" 291), (.ref 87)⟩, ⟨PyData.keyHash P "in_order", (.str "in_order" 300), (.ref 94)⟩, ⟨PyData.keyHash P "gathered", (.str "gathered" 306), (.ref 99)⟩, ⟨PyData.keyHash P "table", (.str "table" 313), (.ref 106)⟩, ⟨PyData.keyHash P "total", (.str "total" 323), (.ref 113)⟩, ⟨PyData.keyHash P "scaled", (.str "scaled" 329), (.ref 118)⟩, ⟨PyData.keyHash P "mixed", (.str "mixed" 341), (.ref 125)⟩, ⟨PyData.keyHash P "without", (.str "without" 347), (.ref 130)⟩, ⟨PyData.keyHash P "turned", (.str "turned" 353), (.ref 135)⟩, ⟨PyData.keyHash P "_law_whole", (.str "_law_whole" 362), (.ref 142)⟩, ⟨PyData.keyHash P "_law_divisor", (.str "_law_divisor" 370), (.ref 149)⟩, ⟨PyData.keyHash P "_law_lowest", (.str "_law_lowest" 379), (.ref 156)⟩, ⟨PyData.keyHash P "_law_is", (.str "_law_is" 387), (.ref 163)⟩, ⟨PyData.keyHash P "_law_record", (.str "_law_record" 404), (.ref 170)⟩, ⟨PyData.keyHash P "_law_outcome", (.str "_law_outcome" 414), (.ref 177)⟩, ⟨PyData.keyHash P "_law_kind", (.str "_law_kind" 421), (.ref 184)⟩, ⟨PyData.keyHash P "_law_before", (.str "_law_before" 431), (.ref 191)⟩, ⟨PyData.keyHash P "_law_same", (.str "_law_same" 440), (.ref 198)⟩, ⟨PyData.keyHash P "_law_laid", (.str "_law_laid" 450), (.ref 205)⟩, ⟨PyData.keyHash P "_law_table_is", (.str "_law_table_is" 456), (.ref 210)⟩, ⟨PyData.keyHash P "_law_turned", (.str "_law_turned" 464), (.ref 217)⟩, ⟨PyData.keyHash P "_law_grown", (.str "_law_grown" 487), (.ref 224)⟩, ⟨PyData.keyHash P "_law_shorter", (.str "_law_shorter" 493), (.ref 229)⟩, ⟨PyData.keyHash P "_law_left", (.str "_law_left" 499), (.ref 234)⟩, ⟨PyData.keyHash P "law", (.str "law" 512), (.ref 241)⟩] 42), #[]⟩) ::
 (nat_lit 4, ⟨(.type "module"), (some 0), .plain, #[]⟩) ::
 (nat_lit 15, ⟨(.type "tuple"), none, (.seq #[(.type "ValueError")] 0), #[]⟩) ::
 (nat_lit 22, ⟨(.type "tuple"), none, (.seq #[] 0), #[]⟩) ::
 (nat_lit 23, ⟨(.type "dict"), none, (.dict #[⟨PyData.keyHash P "__module__", (.str "__module__" 196), (.str "flipwright.errors" 187)⟩, ⟨PyData.keyHash P "__firstlineno__", (.str "__firstlineno__" 200), (.int 2 199)⟩, ⟨PyData.keyHash P "__static_attributes__", (.str "__static_attributes__" 201), (.ref 22)⟩, ⟨PyData.keyHash P "__weakref__", (.str "__weakref__" 203), (.ref 25)⟩, ⟨PyData.keyHash P "__doc__", (.str "__doc__" 204), .none⟩] 3), #[]⟩) ::
 (nat_lit 24, ⟨(.type "type"), none, (.cls (.mk "FlipError" [(.type "ValueError")] [(.ref 24), (.type "ValueError"), (.type "Exception"), (.type "BaseException"), (.type "object")] 23 "FlipError" true [] [(.ref 37), (.ref 49)] false none false)), #[(some (.ref 15)), none, (some (.str "FlipError" 189)), (some (.str "FlipError" 197)), (some (.builtin "ValueError.__new__")), (some (.bool true))]⟩) ::
 (nat_lit 25, ⟨(.type "getset_descriptor"), none, (.fields #[(.str "__weakref__" 202), (.ref 24), (.builtin "ExceptionGroup.__weakref__"), .none]), #[]⟩) ::
 (nat_lit 28, ⟨(.type "tuple"), none, (.seq #[(.ref 24)] 0), #[]⟩) ::
 (nat_lit 35, ⟨(.type "tuple"), none, (.seq #[] 0), #[]⟩) ::
 (nat_lit 36, ⟨(.type "dict"), none, (.dict #[⟨PyData.keyHash P "__module__", (.str "__module__" 214), (.str "flipwright.errors" 187)⟩, ⟨PyData.keyHash P "__firstlineno__", (.str "__firstlineno__" 218), (.int 4 217)⟩, ⟨PyData.keyHash P "__static_attributes__", (.str "__static_attributes__" 219), (.ref 35)⟩, ⟨PyData.keyHash P "__doc__", (.str "__doc__" 220), .none⟩] 2), #[]⟩) ::
 (nat_lit 37, ⟨(.type "type"), none, (.cls (.mk "NoShare" [(.ref 24)] [(.ref 37), (.ref 24), (.type "ValueError"), (.type "Exception"), (.type "BaseException"), (.type "object")] 36 "NoShare" true [] [] false none false)), #[(some (.ref 28)), none, (some (.str "NoShare" 207)), (some (.str "NoShare" 215)), (some (.builtin "ValueError.__new__")), (some (.bool true))]⟩) ::
 (nat_lit 40, ⟨(.type "tuple"), none, (.seq #[(.ref 24)] 0), #[]⟩) ::
 (nat_lit 47, ⟨(.type "tuple"), none, (.seq #[] 0), #[]⟩) ::
 (nat_lit 48, ⟨(.type "dict"), none, (.dict #[⟨PyData.keyHash P "__module__", (.str "__module__" 230), (.str "flipwright.errors" 187)⟩, ⟨PyData.keyHash P "__firstlineno__", (.str "__firstlineno__" 234), (.int 6 233)⟩, ⟨PyData.keyHash P "__static_attributes__", (.str "__static_attributes__" 235), (.ref 47)⟩, ⟨PyData.keyHash P "__doc__", (.str "__doc__" 236), .none⟩] 2), #[]⟩) ::
 (nat_lit 49, ⟨(.type "type"), none, (.cls (.mk "Never" [(.ref 24)] [(.ref 49), (.ref 24), (.type "ValueError"), (.type "Exception"), (.type "BaseException"), (.type "object")] 48 "Never" true [] [] false none false)), #[(some (.ref 40)), none, (some (.str "Never" 223)), (some (.str "Never" 231)), (some (.builtin "ValueError.__new__")), (some (.bool true))]⟩) ::
 (nat_lit 52, ⟨(.type "tuple"), none, (.seq #[(.int 0 241), (.int 1 242)] 0), #[]⟩) ::
 (nat_lit 53, ⟨(.type "tuple"), none, (.seq #[] 0), #[]⟩) ::
 (nat_lit 55, ⟨(.type "tuple"), none, (.seq #[(.str "one" 247), (.str "other" 248), (.str "rest" 249)] 0), #[]⟩) ::
 (nat_lit 56, ⟨(.type "tuple"), none, (.seq #[] 0), #[]⟩) ::
 (nat_lit 58, ⟨(.type "code"), none, (.fields #[(.str "greatest_divisor" 244), (.str "greatest_divisor" 245), (.str "/claim/cut.py" 246), (.int 10 0), (.int 2 0), (.int 0 0), (.int 0 0), (.int 3 0), (.ref 53), (.bool true), (.int 181 0), (.ref 54), .none, (.ref 55), (.ref 56), (.ref 57), (.int 250 0), (.int 10 0), (.str "/claim/cut.py" 251)]), #[]⟩) ::
 (nat_lit 59, ⟨(.type "function"), none, (.func ⟨"greatest_divisor", "greatest_divisor", defArgs s_greatest_divisor, .stmts (defBody s_greatest_divisor), defScope s_greatest_divisor, 3, [], .none, .none, .none, (.str "flipwright.ratios" 239), none, (.ref 58), .none, 0⟩), #[]⟩) ::
 (nat_lit 60, ⟨(.type "tuple"), none, (.seq #[] 0), #[]⟩) ::
 (nat_lit 62, ⟨(.type "tuple"), none, (.seq #[(.str "one" 256), (.str "other" 257), (.str "shared" 258), (.str "lacking" 259), (.str "top" 260), (.str "divisor" 261)] 0), #[]⟩) ::
 (nat_lit 63, ⟨(.type "tuple"), none, (.seq #[] 0), #[]⟩) ::
 (nat_lit 65, ⟨(.type "code"), none, (.fields #[(.str "plus" 253), (.str "plus" 254), (.str "/claim/cut.py" 255), (.int 18 0), (.int 2 0), (.int 0 0), (.int 0 0), (.int 3 0), (.ref 60), (.bool true), (.int 181 0), (.ref 61), .none, (.ref 62), (.ref 63), (.ref 64), (.int 262 0), (.int 18 0), (.str "/claim/cut.py" 263)]), #[]⟩) ::
 (nat_lit 66, ⟨(.type "function"), none, (.func ⟨"plus", "plus", defArgs s_plus, .stmts (defBody s_plus), defScope s_plus, 3, [], .none, .none, .none, (.str "flipwright.ratios" 239), none, (.ref 65), .none, 0⟩), #[]⟩) ::
 (nat_lit 67, ⟨(.type "tuple"), none, (.seq #[] 0), #[]⟩) ::
 (nat_lit 69, ⟨(.type "tuple"), none, (.seq #[(.str "one" 268), (.str "other" 269), (.str "first" 270), (.str "second" 271)] 0), #[]⟩) ::
 (nat_lit 70, ⟨(.type "tuple"), none, (.seq #[] 0), #[]⟩) ::
 (nat_lit 72, ⟨(.type "code"), none, (.fields #[(.str "times" 265), (.str "times" 266), (.str "/claim/cut.py" 267), (.int 24 0), (.int 2 0), (.int 0 0), (.int 0 0), (.int 3 0), (.ref 67), (.bool true), (.int 181 0), (.ref 68), .none, (.ref 69), (.ref 70), (.ref 71), (.int 272 0), (.int 24 0), (.str "/claim/cut.py" 273)]), #[]⟩) ::
 (nat_lit 73, ⟨(.type "function"), none, (.func ⟨"times", "times", defArgs s_times, .stmts (defBody s_times), defScope s_times, 3, [], .none, .none, .none, (.str "flipwright.ratios" 239), none, (.ref 72), .none, 0⟩), #[]⟩) ::
 (nat_lit 74, ⟨(.type "tuple"), none, (.seq #[] 0), #[]⟩) ::
 (nat_lit 76, ⟨(.type "tuple"), none, (.seq #[(.str "one" 278), (.str "other" 279)] 0), #[]⟩) ::
 (nat_lit 77, ⟨(.type "tuple"), none, (.seq #[] 0), #[]⟩) ::
 (nat_lit 79, ⟨(.type "code"), none, (.fields #[(.str "over" 275), (.str "over" 276), (.str "/claim/cut.py" 277), (.int 28 0), (.int 2 0), (.int 0 0), (.int 0 0), (.int 3 0), (.ref 74), (.bool true), (.int 181 0), (.ref 75), .none, (.ref 76), (.ref 77), (.ref 78), (.int 280 0), (.int 28 0), (.str "/claim/cut.py" 281)]), #[]⟩) ::
 (nat_lit 80, ⟨(.type "function"), none, (.func ⟨"over", "over", defArgs s_over, .stmts (defBody s_over), defScope s_over, 3, [], .none, .none, .none, (.str "flipwright.ratios" 239), none, (.ref 79), .none, 0⟩), #[]⟩) ::
 (nat_lit 81, ⟨(.type "tuple"), none, (.seq #[] 0), #[]⟩) ::
 (nat_lit 83, ⟨(.type "tuple"), none, (.seq #[(.str "outcome" 288)] 0), #[]⟩) ::
 (nat_lit 84, ⟨(.type "tuple"), none, (.seq #[] 0), #[]⟩) ::
 (nat_lit 86, ⟨(.type "code"), none, (.fields #[(.str "rank" 285), (.str "rank" 286), (.str "/claim/cut.py" 287), (.int 35 0), (.int 1 0), (.int 0 0), (.int 0 0), (.int 3 0), (.ref 81), (.bool true), (.int 181 0), (.ref 82), .none, (.ref 83), (.ref 84), (.ref 85), (.int 289 0), (.int 35 0), (.str "/claim/cut.py" 290)]), #[]⟩) ::
 (nat_lit 87, ⟨(.type "function"), none, (.func ⟨"rank", "rank", defArgs s_rank, .stmts (defBody s_rank), defScope s_rank, 3, [], .none, .none, .none, (.str "flipwright.tables" 283), none, (.ref 86), .none, 0⟩), #[]⟩) ::
 (nat_lit 88, ⟨(.type "tuple"), none, (.seq #[] 0), #[]⟩) ::
 (nat_lit 90, ⟨(.type "tuple"), none, (.seq #[(.str "outcomes" 295), (.str "kept" 296), (.str "outcome" 297)] 0), #[]⟩) ::
 (nat_lit 91, ⟨(.type "tuple"), none, (.seq #[] 0), #[]⟩) ::
 (nat_lit 93, ⟨(.type "code"), none, (.fields #[(.str "in_order" 292), (.str "in_order" 293), (.str "/claim/cut.py" 294), (.int 41 0), (.int 1 0), (.int 0 0), (.int 0 0), (.int 3 0), (.ref 88), (.bool true), (.int 181 0), (.ref 89), .none, (.ref 90), (.ref 91), (.ref 92), (.int 298 0), (.int 41 0), (.str "/claim/cut.py" 299)]), #[]⟩) ::
 (nat_lit 94, ⟨(.type "function"), none, (.func ⟨"in_order", "in_order", defArgs s_in_order, .stmts (defBody s_in_order), defScope s_in_order, 3, [], .none, .none, .none, (.str "flipwright.tables" 283), none, (.ref 93), .none, 0⟩), #[]⟩) ::
 (nat_lit 95, ⟨(.type "tuple"), none, (.seq #[] 0), #[]⟩) ::
 (nat_lit 98, ⟨(.type "code"), none, (.fields #[(.str "gathered" 301), (.str "gathered" 302), (.str "/claim/cut.py" 303), (.int 46 0), (.int 1 0), (.int 0 0), (.int 0 0), (.int 3 0), (.ref 95), (.bool true), (.int 181 0), (.ref 96), .none, .none, .none, (.ref 97), (.int 304 0), (.int 46 0), (.str "/claim/cut.py" 305)]), #[]⟩) ::
 (nat_lit 99, ⟨(.type "function"), none, (.func ⟨"gathered", "gathered", defArgs s_gathered, .stmts (defBody s_gathered), defScope s_gathered, 3, [], .none, .none, .none, (.str "flipwright.tables" 283), none, (.ref 98), .none, 0⟩), #[]⟩) ::
 (nat_lit 100, ⟨(.type "tuple"), none, (.seq #[] 0), #[]⟩) ::
 (nat_lit 102, ⟨(.type "tuple"), none, (.seq #[(.str "pairs" 310)] 0), #[]⟩) ::
 (nat_lit 103, ⟨(.type "tuple"), none, (.seq #[] 0), #[]⟩) ::
 (nat_lit 105, ⟨(.type "code"), none, (.fields #[(.str "table" 307), (.str "table" 308), (.str "/claim/cut.py" 309), (.int 51 0), (.int 1 0), (.int 0 0), (.int 0 0), (.int 3 0), (.ref 100), (.bool true), (.int 181 0), (.ref 101), .none, (.ref 102), (.ref 103), (.ref 104), (.int 311 0), (.int 51 0), (.str "/claim/cut.py" 312)]), #[]⟩) ::
 (nat_lit 106, ⟨(.type "function"), none, (.func ⟨"table", "table", defArgs s_table, .stmts (defBody s_table), defScope s_table, 3, [], .none, .none, .none, (.str "flipwright.tables" 283), none, (.ref 105), .none, 0⟩), #[]⟩) ::
 (nat_lit 107, ⟨(.type "tuple"), none, (.seq #[] 0), #[]⟩) ::
 (nat_lit 109, ⟨(.type "tuple"), none, (.seq #[(.str "table" 317), (.str "whole" 318), (.str "outcome" 319), (.str "share" 320)] 0), #[]⟩) ::
 (nat_lit 110, ⟨(.type "tuple"), none, (.seq #[] 0), #[]⟩) ::
 (nat_lit 112, ⟨(.type "code"), none, (.fields #[(.str "total" 314), (.str "total" 315), (.str "/claim/cut.py" 316), (.int 53 0), (.int 1 0), (.int 0 0), (.int 0 0), (.int 3 0), (.ref 107), (.bool true), (.int 181 0), (.ref 108), .none, (.ref 109), (.ref 110), (.ref 111), (.int 321 0), (.int 53 0), (.str "/claim/cut.py" 322)]), #[]⟩) ::
 (nat_lit 113, ⟨(.type "function"), none, (.func ⟨"total", "total", defArgs s_total, .stmts (defBody s_total), defScope s_total, 3, [], .none, .none, .none, (.str "flipwright.tables" 283), none, (.ref 112), .none, 0⟩), #[]⟩) ::
 (nat_lit 114, ⟨(.type "tuple"), none, (.seq #[] 0), #[]⟩) ::
 (nat_lit 117, ⟨(.type "code"), none, (.fields #[(.str "scaled" 324), (.str "scaled" 325), (.str "/claim/cut.py" 326), (.int 58 0), (.int 1 0), (.int 0 0), (.int 0 0), (.int 3 0), (.ref 114), (.bool true), (.int 181 0), (.ref 115), .none, .none, .none, (.ref 116), (.int 327 0), (.int 58 0), (.str "/claim/cut.py" 328)]), #[]⟩) ::
 (nat_lit 118, ⟨(.type "function"), none, (.func ⟨"scaled", "scaled", defArgs s_scaled, .stmts (defBody s_scaled), defScope s_scaled, 3, [], .none, .none, .none, (.str "flipwright.tables" 283), none, (.ref 117), .none, 0⟩), #[]⟩) ::
 (nat_lit 119, ⟨(.type "tuple"), none, (.seq #[] 0), #[]⟩) ::
 (nat_lit 121, ⟨(.type "tuple"), none, (.seq #[(.str "parts" 333), (.str "pairs" 334), (.str "weight" 335), (.str "part" 336), (.str "outcome" 337), (.str "share" 338)] 0), #[]⟩) ::
 (nat_lit 122, ⟨(.type "tuple"), none, (.seq #[] 0), #[]⟩) ::
 (nat_lit 124, ⟨(.type "code"), none, (.fields #[(.str "mixed" 330), (.str "mixed" 331), (.str "/claim/cut.py" 332), (.int 63 0), (.int 1 0), (.int 0 0), (.int 0 0), (.int 3 0), (.ref 119), (.bool true), (.int 181 0), (.ref 120), .none, (.ref 121), (.ref 122), (.ref 123), (.int 339 0), (.int 63 0), (.str "/claim/cut.py" 340)]), #[]⟩) ::
 (nat_lit 125, ⟨(.type "function"), none, (.func ⟨"mixed", "mixed", defArgs s_mixed, .stmts (defBody s_mixed), defScope s_mixed, 3, [], .none, .none, .none, (.str "flipwright.tables" 283), none, (.ref 124), .none, 0⟩), #[]⟩) ::
 (nat_lit 126, ⟨(.type "tuple"), none, (.seq #[] 0), #[]⟩) ::
 (nat_lit 129, ⟨(.type "code"), none, (.fields #[(.str "without" 342), (.str "without" 343), (.str "/claim/cut.py" 344), (.int 69 0), (.int 2 0), (.int 0 0), (.int 0 0), (.int 3 0), (.ref 126), (.bool true), (.int 181 0), (.ref 127), .none, .none, .none, (.ref 128), (.int 345 0), (.int 69 0), (.str "/claim/cut.py" 346)]), #[]⟩) ::
 (nat_lit 130, ⟨(.type "function"), none, (.func ⟨"without", "without", defArgs s_without, .stmts (defBody s_without), defScope s_without, 3, [], .none, .none, .none, (.str "flipwright.tables" 283), none, (.ref 129), .none, 0⟩), #[]⟩) ::
 (nat_lit 131, ⟨(.type "tuple"), none, (.seq #[] 0), #[]⟩) ::
 (nat_lit 134, ⟨(.type "code"), none, (.fields #[(.str "turned" 348), (.str "turned" 349), (.str "/claim/cut.py" 350), (.int 71 0), (.int 2 0), (.int 0 0), (.int 0 0), (.int 3 0), (.ref 131), (.bool true), (.int 181 0), (.ref 132), .none, .none, .none, (.ref 133), (.int 351 0), (.int 71 0), (.str "/claim/cut.py" 352)]), #[]⟩) ::
 (nat_lit 135, ⟨(.type "function"), none, (.func ⟨"turned", "turned", defArgs s_turned, .stmts (defBody s_turned), defScope s_turned, 3, [], .none, .none, .none, (.str "flipwright.tables" 283), none, (.ref 134), .none, 0⟩), #[]⟩) ::
 (nat_lit 136, ⟨(.type "tuple"), none, (.seq #[] 0), #[]⟩) ::
 (nat_lit 138, ⟨(.type "tuple"), none, (.seq #[(.str "_law_found" 359)] 0), #[]⟩) ::
 (nat_lit 139, ⟨(.type "tuple"), none, (.seq #[] 0), #[]⟩) ::
 (nat_lit 141, ⟨(.type "code"), none, (.fields #[(.str "_law_whole" 356), (.str "_law_whole" 357), (.str "/claim/cut.py" 358), (.int 74 0), (.int 1 0), (.int 0 0), (.int 0 0), (.int 3 0), (.ref 136), (.bool true), (.int 181 0), (.ref 137), .none, (.ref 138), (.ref 139), (.ref 140), (.int 360 0), (.int 74 0), (.str "/claim/cut.py" 361)]), #[]⟩) ::
 (nat_lit 142, ⟨(.type "function"), none, (.func ⟨"_law_whole", "_law_whole", defArgs s_law_whole, .stmts (defBody s_law_whole), defScope s_law_whole, 3, [], .none, .none, .none, (.str "law_flipwright_k09_whole_heap_of_tables" 354), none, (.ref 141), .none, 0⟩), #[]⟩) ::
 (nat_lit 143, ⟨(.type "tuple"), none, (.seq #[] 0), #[]⟩) ::
 (nat_lit 145, ⟨(.type "tuple"), none, (.seq #[(.str "_law_one" 366), (.str "_law_other" 367)] 0), #[]⟩) ::
 (nat_lit 146, ⟨(.type "tuple"), none, (.seq #[] 0), #[]⟩) ::
 (nat_lit 148, ⟨(.type "code"), none, (.fields #[(.str "_law_divisor" 363), (.str "_law_divisor" 364), (.str "/claim/cut.py" 365), (.int 76 0), (.int 2 0), (.int 0 0), (.int 0 0), (.int 3 0), (.ref 143), (.bool true), (.int 181 0), (.ref 144), .none, (.ref 145), (.ref 146), (.ref 147), (.int 368 0), (.int 76 0), (.str "/claim/cut.py" 369)]), #[]⟩) ::
 (nat_lit 149, ⟨(.type "function"), none, (.func ⟨"_law_divisor", "_law_divisor", defArgs s_law_divisor, .stmts (defBody s_law_divisor), defScope s_law_divisor, 3, [], .none, .none, .none, (.str "law_flipwright_k09_whole_heap_of_tables" 354), none, (.ref 148), .none, 0⟩), #[]⟩) ::
 (nat_lit 150, ⟨(.type "tuple"), none, (.seq #[] 0), #[]⟩) ::
 (nat_lit 152, ⟨(.type "tuple"), none, (.seq #[(.str "_law_top" 374), (.str "_law_bottom" 375), (.str "_law_by" 376)] 0), #[]⟩) ::
 (nat_lit 153, ⟨(.type "tuple"), none, (.seq #[] 0), #[]⟩) ::
 (nat_lit 155, ⟨(.type "code"), none, (.fields #[(.str "_law_lowest" 371), (.str "_law_lowest" 372), (.str "/claim/cut.py" 373), (.int 82 0), (.int 2 0), (.int 0 0), (.int 0 0), (.int 3 0), (.ref 150), (.bool true), (.int 181 0), (.ref 151), .none, (.ref 152), (.ref 153), (.ref 154), (.int 377 0), (.int 82 0), (.str "/claim/cut.py" 378)]), #[]⟩) ::
 (nat_lit 156, ⟨(.type "function"), none, (.func ⟨"_law_lowest", "_law_lowest", defArgs s_law_lowest, .stmts (defBody s_law_lowest), defScope s_law_lowest, 3, [], .none, .none, .none, (.str "law_flipwright_k09_whole_heap_of_tables" 354), none, (.ref 155), .none, 0⟩), #[]⟩) ::
 (nat_lit 157, ⟨(.type "tuple"), none, (.seq #[] 0), #[]⟩) ::
 (nat_lit 159, ⟨(.type "tuple"), none, (.seq #[(.str "_law_found" 383), (.str "_law_due" 384)] 0), #[]⟩) ::
 (nat_lit 160, ⟨(.type "tuple"), none, (.seq #[] 0), #[]⟩) ::
 (nat_lit 162, ⟨(.type "code"), none, (.fields #[(.str "_law_is" 380), (.str "_law_is" 381), (.str "/claim/cut.py" 382), (.int 85 0), (.int 2 0), (.int 0 0), (.int 0 0), (.int 3 0), (.ref 157), (.bool true), (.int 181 0), (.ref 158), .none, (.ref 159), (.ref 160), (.ref 161), (.int 385 0), (.int 85 0), (.str "/claim/cut.py" 386)]), #[]⟩) ::
 (nat_lit 163, ⟨(.type "function"), none, (.func ⟨"_law_is", "_law_is", defArgs s_law_is, .stmts (defBody s_law_is), defScope s_law_is, 3, [], .none, .none, .none, (.str "law_flipwright_k09_whole_heap_of_tables" 354), none, (.ref 162), .none, 0⟩), #[]⟩) ::
 (nat_lit 164, ⟨(.type "tuple"), none, (.seq #[] 0), #[]⟩) ::
 (nat_lit 166, ⟨(.type "tuple"), none, (.seq #[(.str "_law_shape" 391), (.str "_law_digits" 392), (.str "_law_abc" 393), (.str "_law_wide" 394), (.str "_law_at" 395), (.str "_law_most" 396), (.str "_law_rows" 397), (.str "_law_k" 398), (.str "_law_spelt" 399), (.str "_law_j" 400), (.str "_law_step" 401)] 0), #[]⟩) ::
 (nat_lit 167, ⟨(.type "tuple"), none, (.seq #[] 0), #[]⟩) ::
 (nat_lit 169, ⟨(.type "code"), none, (.fields #[(.str "_law_record" 388), (.str "_law_record" 389), (.str "/claim/cut.py" 390), (.int 89 0), (.int 2 0), (.int 0 0), (.int 0 0), (.int 3 0), (.ref 164), (.bool true), (.int 181 0), (.ref 165), .none, (.ref 166), (.ref 167), (.ref 168), (.int 402 0), (.int 89 0), (.str "/claim/cut.py" 403)]), #[]⟩) ::
 (nat_lit 170, ⟨(.type "function"), none, (.func ⟨"_law_record", "_law_record", defArgs s_law_record, .stmts (defBody s_law_record), defScope s_law_record, 3, [], .none, .none, .none, (.str "law_flipwright_k09_whole_heap_of_tables" 354), none, (.ref 169), .none, 0⟩), #[]⟩) ::
 (nat_lit 171, ⟨(.type "tuple"), none, (.seq #[] 0), #[]⟩) ::
 (nat_lit 173, ⟨(.type "tuple"), none, (.seq #[(.str "_law_cell" 408), (.str "_law_mixed_up" 409), (.str "_law_kind_here" 410), (.str "_law_digits" 411)] 0), #[]⟩) ::
 (nat_lit 174, ⟨(.type "tuple"), none, (.seq #[] 0), #[]⟩) ::
 (nat_lit 176, ⟨(.type "code"), none, (.fields #[(.str "_law_outcome" 405), (.str "_law_outcome" 406), (.str "/claim/cut.py" 407), (.int 102 0), (.int 1 0), (.int 0 0), (.int 0 0), (.int 3 0), (.ref 171), (.bool true), (.int 181 0), (.ref 172), .none, (.ref 173), (.ref 174), (.ref 175), (.int 412 0), (.int 102 0), (.str "/claim/cut.py" 413)]), #[]⟩) ::
 (nat_lit 177, ⟨(.type "function"), none, (.func ⟨"_law_outcome", "_law_outcome", defArgs s_law_outcome, .stmts (defBody s_law_outcome), defScope s_law_outcome, 3, [], .none, .none, .none, (.str "law_flipwright_k09_whole_heap_of_tables" 354), none, (.ref 176), .none, 0⟩), #[]⟩) ::
 (nat_lit 178, ⟨(.type "tuple"), none, (.seq #[] 0), #[]⟩) ::
 (nat_lit 180, ⟨(.type "tuple"), none, (.seq #[(.str "_law_one" 418)] 0), #[]⟩) ::
 (nat_lit 181, ⟨(.type "tuple"), none, (.seq #[] 0), #[]⟩) ::
 (nat_lit 183, ⟨(.type "code"), none, (.fields #[(.str "_law_kind" 415), (.str "_law_kind" 416), (.str "/claim/cut.py" 417), (.int 113 0), (.int 1 0), (.int 0 0), (.int 0 0), (.int 3 0), (.ref 178), (.bool true), (.int 181 0), (.ref 179), .none, (.ref 180), (.ref 181), (.ref 182), (.int 419 0), (.int 113 0), (.str "/claim/cut.py" 420)]), #[]⟩) ::
 (nat_lit 184, ⟨(.type "function"), none, (.func ⟨"_law_kind", "_law_kind", defArgs s_law_kind, .stmts (defBody s_law_kind), defScope s_law_kind, 3, [], .none, .none, .none, (.str "law_flipwright_k09_whole_heap_of_tables" 354), none, (.ref 183), .none, 0⟩), #[]⟩) ::
 (nat_lit 185, ⟨(.type "tuple"), none, (.seq #[] 0), #[]⟩) ::
 (nat_lit 187, ⟨(.type "tuple"), none, (.seq #[(.str "_law_one" 425), (.str "_law_other" 426), (.str "_law_here" 427), (.str "_law_there" 428)] 0), #[]⟩) ::
 (nat_lit 188, ⟨(.type "tuple"), none, (.seq #[] 0), #[]⟩) ::
 (nat_lit 190, ⟨(.type "code"), none, (.fields #[(.str "_law_before" 422), (.str "_law_before" 423), (.str "/claim/cut.py" 424), (.int 117 0), (.int 2 0), (.int 0 0), (.int 0 0), (.int 3 0), (.ref 185), (.bool true), (.int 181 0), (.ref 186), .none, (.ref 187), (.ref 188), (.ref 189), (.int 429 0), (.int 117 0), (.str "/claim/cut.py" 430)]), #[]⟩) ::
 (nat_lit 191, ⟨(.type "function"), none, (.func ⟨"_law_before", "_law_before", defArgs s_law_before, .stmts (defBody s_law_before), defScope s_law_before, 3, [], .none, .none, .none, (.str "law_flipwright_k09_whole_heap_of_tables" 354), none, (.ref 190), .none, 0⟩), #[]⟩) ::
 (nat_lit 192, ⟨(.type "tuple"), none, (.seq #[] 0), #[]⟩) ::
 (nat_lit 194, ⟨(.type "tuple"), none, (.seq #[(.str "_law_found" 435), (.str "_law_due" 436), (.str "_law_pair" 437)] 0), #[]⟩) ::
 (nat_lit 195, ⟨(.type "tuple"), none, (.seq #[] 0), #[]⟩) ::
 (nat_lit 197, ⟨(.type "code"), none, (.fields #[(.str "_law_same" 432), (.str "_law_same" 433), (.str "/claim/cut.py" 434), (.int 128 0), (.int 2 0), (.int 0 0), (.int 0 0), (.int 3 0), (.ref 192), (.bool true), (.int 181 0), (.ref 193), .none, (.ref 194), (.ref 195), (.ref 196), (.int 438 0), (.int 128 0), (.str "/claim/cut.py" 439)]), #[]⟩) ::
 (nat_lit 198, ⟨(.type "function"), none, (.func ⟨"_law_same", "_law_same", defArgs s_law_same, .stmts (defBody s_law_same), defScope s_law_same, 3, [], .none, .none, .none, (.str "law_flipwright_k09_whole_heap_of_tables" 354), none, (.ref 197), .none, 0⟩), #[]⟩) ::
 (nat_lit 199, ⟨(.type "tuple"), none, (.seq #[] 0), #[]⟩) ::
 (nat_lit 201, ⟨(.type "tuple"), none, (.seq #[(.str "_law_rows" 444), (.str "_law_outcome_here" 445), (.str "_law_weight" 446), (.str "_law_k" 447)] 0), #[]⟩) ::
 (nat_lit 202, ⟨(.type "tuple"), none, (.seq #[] 0), #[]⟩) ::
 (nat_lit 204, ⟨(.type "code"), none, (.fields #[(.str "_law_laid" 441), (.str "_law_laid" 442), (.str "/claim/cut.py" 443), (.int 139 0), (.int 3 0), (.int 0 0), (.int 0 0), (.int 3 0), (.ref 199), (.bool true), (.int 181 0), (.ref 200), .none, (.ref 201), (.ref 202), (.ref 203), (.int 448 0), (.int 139 0), (.str "/claim/cut.py" 449)]), #[]⟩) ::
 (nat_lit 205, ⟨(.type "function"), none, (.func ⟨"_law_laid", "_law_laid", defArgs s_law_laid, .stmts (defBody s_law_laid), defScope s_law_laid, 3, [], .none, .none, .none, (.str "law_flipwright_k09_whole_heap_of_tables" 354), none, (.ref 204), .none, 0⟩), #[]⟩) ::
 (nat_lit 206, ⟨(.type "tuple"), none, (.seq #[] 0), #[]⟩) ::
 (nat_lit 209, ⟨(.type "code"), none, (.fields #[(.str "_law_table_is" 451), (.str "_law_table_is" 452), (.str "/claim/cut.py" 453), (.int 146 0), (.int 3 0), (.int 0 0), (.int 0 0), (.int 3 0), (.ref 206), (.bool true), (.int 181 0), (.ref 207), .none, .none, .none, (.ref 208), (.int 454 0), (.int 146 0), (.str "/claim/cut.py" 455)]), #[]⟩) ::
 (nat_lit 210, ⟨(.type "function"), none, (.func ⟨"_law_table_is", "_law_table_is", defArgs s_law_table_is, .stmts (defBody s_law_table_is), defScope s_law_table_is, 3, [], .none, .none, .none, (.str "law_flipwright_k09_whole_heap_of_tables" 354), none, (.ref 209), .none, 0⟩), #[]⟩) ::
 (nat_lit 211, ⟨(.type "tuple"), none, (.seq #[] 0), #[]⟩) ::
 (nat_lit 213, ⟨(.type "tuple"), none, (.seq #[(.str "_law_outcome_here" 460), (.str "_law_most" 461)] 0), #[]⟩) ::
 (nat_lit 214, ⟨(.type "tuple"), none, (.seq #[] 0), #[]⟩) ::
 (nat_lit 216, ⟨(.type "code"), none, (.fields #[(.str "_law_turned" 457), (.str "_law_turned" 458), (.str "/claim/cut.py" 459), (.int 156 0), (.int 2 0), (.int 0 0), (.int 0 0), (.int 3 0), (.ref 211), (.bool true), (.int 181 0), (.ref 212), .none, (.ref 213), (.ref 214), (.ref 215), (.int 462 0), (.int 156 0), (.str "/claim/cut.py" 463)]), #[]⟩) ::
 (nat_lit 217, ⟨(.type "function"), none, (.func ⟨"_law_turned", "_law_turned", defArgs s_law_turned, .stmts (defBody s_law_turned), defScope s_law_turned, 3, [], .none, .none, .none, (.str "law_flipwright_k09_whole_heap_of_tables" 354), none, (.ref 216), .none, 0⟩), #[]⟩) ::
 (nat_lit 218, ⟨(.type "tuple"), none, (.seq #[] 0), #[]⟩) ::
 (nat_lit 220, ⟨(.type "tuple"), none, (.seq #[(.str "_law_heap" 468), (.str "_law_cell" 469), (.str "_law_mixed_up" 470), (.str "_law_rows" 471), (.str "_law_scale" 472), (.str "_law_made" 473), (.str "_law_others" 474), (.str "_law_other_scale" 475), (.str "_law_other_made" 476), (.str "_law_few" 477), (.str "_law_b" 478), (.str "_law_a" 479), (.str "_law_due" 480), (.str "_law_outcome_here" 481), (.str "_law_weight" 482), (.str "_law_parts" 483)] 0), #[]⟩) ::
 (nat_lit 221, ⟨(.type "tuple"), none, (.seq #[(.str "_law_most" 484)] 0), #[]⟩) ::
 (nat_lit 223, ⟨(.type "code"), none, (.fields #[(.str "_law_grown" 465), (.str "_law_grown" 466), (.str "/claim/cut.py" 467), (.int 160 0), (.int 2 0), (.int 0 0), (.int 0 0), (.int 3 0), (.ref 218), (.bool true), (.int 181 0), (.ref 219), .none, (.ref 220), (.ref 221), (.ref 222), (.int 485 0), (.int 160 0), (.str "/claim/cut.py" 486)]), #[]⟩) ::
 (nat_lit 224, ⟨(.type "function"), none, (.func ⟨"_law_grown", "_law_grown", defArgs s_law_grown, .stmts (defBody s_law_grown), defScope s_law_grown, 3, [], .none, .none, .none, (.str "law_flipwright_k09_whole_heap_of_tables" 354), none, (.ref 223), .none, 0⟩), #[]⟩) ::
 (nat_lit 225, ⟨(.type "tuple"), none, (.seq #[] 0), #[]⟩) ::
 (nat_lit 228, ⟨(.type "code"), none, (.fields #[(.str "_law_shorter" 488), (.str "_law_shorter" 489), (.str "/claim/cut.py" 490), (.int 183 0), (.int 1 0), (.int 0 0), (.int 0 0), (.int 3 0), (.ref 225), (.bool true), (.int 181 0), (.ref 226), .none, .none, .none, (.ref 227), (.int 491 0), (.int 183 0), (.str "/claim/cut.py" 492)]), #[]⟩) ::
 (nat_lit 229, ⟨(.type "function"), none, (.func ⟨"_law_shorter", "_law_shorter", defArgs s_law_shorter, .stmts (defBody s_law_shorter), defScope s_law_shorter, 3, [], .none, .none, .none, (.str "law_flipwright_k09_whole_heap_of_tables" 354), none, (.ref 228), .none, 0⟩), #[]⟩) ::
 (nat_lit 230, ⟨(.type "tuple"), none, (.seq #[] 0), #[]⟩) ::
 (nat_lit 233, ⟨(.type "code"), none, (.fields #[(.str "_law_left" 494), (.str "_law_left" 495), (.str "/claim/cut.py" 496), (.int 189 0), (.int 2 0), (.int 0 0), (.int 0 0), (.int 3 0), (.ref 230), (.bool true), (.int 181 0), (.ref 231), .none, .none, .none, (.ref 232), (.int 497 0), (.int 189 0), (.str "/claim/cut.py" 498)]), #[]⟩) ::
 (nat_lit 234, ⟨(.type "function"), none, (.func ⟨"_law_left", "_law_left", defArgs s_law_left, .stmts (defBody s_law_left), defScope s_law_left, 3, [], .none, .none, .none, (.str "law_flipwright_k09_whole_heap_of_tables" 354), none, (.ref 233), .none, 0⟩), #[]⟩) ::
 (nat_lit 235, ⟨(.type "tuple"), none, (.seq #[] 0), #[]⟩) ::
 (nat_lit 237, ⟨(.type "tuple"), none, (.seq #[(.str "_law_script" 503), (.str "_law_heap" 504), (.str "_law_cell" 505), (.str "_law_newest" 506), (.str "_law_rows" 507), (.str "_law_scale" 508), (.str "_law_made" 509)] 0), #[]⟩) ::
 (nat_lit 238, ⟨(.type "tuple"), none, (.seq #[] 0), #[]⟩) ::
 (nat_lit 240, ⟨(.type "code"), none, (.fields #[(.str "law" 500), (.str "law" 501), (.str "/claim/cut.py" 502), (.int 204 0), (.int 1 0), (.int 0 0), (.int 0 0), (.int 3 0), (.ref 235), (.bool true), (.int 181 0), (.ref 236), .none, (.ref 237), (.ref 238), (.ref 239), (.int 510 0), (.int 204 0), (.str "/claim/cut.py" 511)]), #[]⟩) ::
 (nat_lit 241, ⟨(.type "function"), none, (.func ⟨"law", "law", defArgs s_law, .stmts (defBody s_law), defScope s_law, 3, [], .none, .none, .none, (.str "law_flipwright_k09_whole_heap_of_tables" 354), none, (.ref 240), .none, 0⟩), #[]⟩) :: []
noncomputable def KF : Params → PySem.W.Frag := fun P => (nat_lit 219, ⟨.none, none, (.fields #[]), #[]⟩) :: KFr P
def KA : List Addr := [219, 2, 3, 4, 15, 22, 23, 24, 25, 28, 35, 36, 37, 40, 47, 48, 49, 52, 53, 55, 56, 58, 59, 60, 62, 63, 65, 66, 67, 69, 70, 72, 73, 74, 76, 77, 79, 80, 81, 83, 84, 86, 87, 88, 90, 91, 93, 94, 95, 98, 99, 100, 102, 103, 105, 106, 107, 109, 110, 112, 113, 114, 117, 118, 119, 121, 122, 124, 125, 126, 129, 130, 131, 134, 135, 136, 138, 139, 141, 142, 143, 145, 146, 148, 149, 150, 152, 153, 155, 156, 157, 159, 160, 162, 163, 164, 166, 167, 169, 170, 171, 173, 174, 176, 177, 178, 180, 181, 183, 184, 185, 187, 188, 190, 191, 192, 194, 195, 197, 198, 199, 201, 202, 204, 205, 206, 209, 210, 211, 213, 214, 216, 217, 218, 220, 221, 223, 224, 225, 228, 229, 230, 233, 234, 235, 237, 238, 240, 241]
theorem KAs (P : Params) : KA = List.map (fun x => x.fst) (KF P) := by kernel_rfl
noncomputable def vw : Program := { PySem.Challenge.rw_flipwright_k09_whole_heap_of_tables.row.toRowW.1 with main := { PySem.Challenge.rw_flipwright_k09_whole_heap_of_tables.row.toRowW.1.main with body := ((PySem.Challenge.rw_flipwright_k09_whole_heap_of_tables.row.toRowW.1.main.body.drop 1).take 3 ++ ((PySem.Challenge.rw_flipwright_k09_whole_heap_of_tables.row.toRowW.1.main.body.drop 5).take 5 ++ ((PySem.Challenge.rw_flipwright_k09_whole_heap_of_tables.row.toRowW.1.main.body.drop 11).take 9 ++ (PySem.Challenge.rw_flipwright_k09_whole_heap_of_tables.row.toRowW.1.main.body.drop 21)))) } }
end K09
namespace K09
open PySem L2 FW PyProof.Rows
theorem all_mk {l : PySem.W.OpenLaw} {w : World} {K : PySem.W.Frag} {mg : Str → Option Value} {fa   : Addr} {f0 f1 f2 f3 f4 f5 f6 f7 f8 f9 f10 f11 f12 f13 f14 f15 f16 f17 f18 f19 f20 f21 f22 f23 f24 f25 f26 f27 f28 : Addr} {d0 d1 d2 d3 d4 d5 d6 d7 d8 d9 d10 d11 d12 d13 d14 d15 d16 d17 d18 d19 d20 d21 d22 d23 d24 d25 d26 d27 d28 : FuncData} {cR Pt C0 C2 cN : Addr} (hfa : mg "law" = some (.ref fa))
    (A0 : FnAt K mg "law" s_law ["_law_script"] f0 d0)
    (A1 : FnAt K mg "greatest_divisor" s_greatest_divisor ["one", "other"] f1 d1)
    (A2 : FnAt K mg "plus" s_plus ["one", "other"] f2 d2)
    (A3 : FnAt K mg "times" s_times ["one", "other"] f3 d3)
    (A4 : FnAt K mg "over" s_over ["one", "other"] f4 d4)
    (A5 : FnAt K mg "rank" s_rank ["outcome"] f5 d5)
    (A6 : FnAt K mg "in_order" s_in_order ["outcomes"] f6 d6)
    (A7 : FnAt K mg "gathered" s_gathered ["pairs"] f7 d7)
    (A8 : FnAt K mg "table" s_table ["pairs"] f8 d8)
    (A9 : FnAt K mg "total" s_total ["table"] f9 d9)
    (A10 : FnAt K mg "scaled" s_scaled ["table"] f10 d10)
    (A11 : FnAt K mg "mixed" s_mixed ["parts"] f11 d11)
    (A12 : FnAt K mg "without" s_without ["table", "outcome"] f12 d12)
    (A13 : FnAt K mg "turned" s_turned ["table", "how"] f13 d13)
    (A14 : FnAt K mg "_law_whole" s_law_whole ["_law_found"] f14 d14)
    (A15 : FnAt K mg "_law_divisor" s_law_divisor ["_law_one", "_law_other"] f15 d15)
    (A16 : FnAt K mg "_law_lowest" s_law_lowest ["_law_top", "_law_bottom"] f16 d16)
    (A17 : FnAt K mg "_law_is" s_law_is ["_law_found", "_law_due"] f17 d17)
    (A18 : FnAt K mg "_law_record" s_law_record ["_law_shape", "_law_digits"] f18 d18)
    (A19 : FnAt K mg "_law_outcome" s_law_outcome ["_law_cell"] f19 d19)
    (A20 : FnAt K mg "_law_kind" s_law_kind ["_law_one"] f20 d20)
    (A21 : FnAt K mg "_law_before" s_law_before ["_law_one", "_law_other"] f21 d21)
    (A22 : FnAt K mg "_law_same" s_law_same ["_law_found", "_law_due"] f22 d22)
    (A23 : FnAt K mg "_law_laid" s_law_laid ["_law_rows", "_law_outcome_here", "_law_weight"] f23 d23)
    (A24 : FnAt K mg "_law_table_is" s_law_table_is ["_law_found", "_law_rows", "_law_scale"] f24 d24)
    (A25 : FnAt K mg "_law_turned" s_law_turned ["_law_outcome_here", "_law_most"] f25 d25)
    (A26 : FnAt K mg "_law_grown" s_law_grown ["_law_heap", "_law_cell"] f26 d26)
    (A27 : FnAt K mg "_law_shorter" s_law_shorter ["_law_newest"] f27 d27)
    (A28 : FnAt K mg "_law_left" s_law_left ["_law_newest", "_law_cell"] f28 d28)
    (Tl : Txt K mg C0 C2 cN)
    (FC : FunC K "_law_grown" s_law_grown f26 d26 cR)
    (M : Mks K mg cR Pt)
    (hb : ∀ (s : Shared) (v : Value), BindsTo s d0 ⟨[v], []⟩ [("_law_script", v)]) :
    ∃ fd : FuncData, (∀ (s : Shared) (v : Value), BindsTo s fd ⟨[v], []⟩ [("_law_script", v)]) ∧ ∀ base : Heap, K.In base → base.Ns mainGlobals mg → FnOk l.prog w K mg base CX0 8 fa fd ["_law_script"] (sp_law K Pt) := by
  have e := hfa.symm.trans A0.m
  cases e
  refine ⟨d0, hb, fun base _ _ => ?_⟩
  have Gg : FnOk l.prog w K mg base CX0 5 _ _ _ (sp_gathered K) := ok_gathered A7 A2 A1 A6 A5 Tl
  have Gt : FnOk l.prog w K mg base CX0 6 _ _ _ (sp_gathered K) := ok_table A8 A7 Gg
  have Gi : FnOk l.prog w K mg base CX0 3 _ _ _ (sp_table_is K) := ok_law_table_is A24 A22 A14 A17 A16 A15 Tl
  have Gw : FnOk l.prog w K mg base CX0 7 _ _ _ (sp_grown K Pt) := ok_law_grown FC M A11 (ok_mixed A11 A3 A7 A2 A1 A6 A5 Tl) A13 (ok_turned A13 A7 Gg Tl) A8 Gt A16 (ok_law_lowest A16 A15 Tl) A23 (ok_law_laid A23 A21 A20 Tl) A25 (ok_law_turned A25 A20 Tl) A19 (ok_law_outcome A19 A18 Tl) Tl
  exact ok_law A0 A8 Gt A26 Gw A27 (ok_law_shorter A27 A15 Tl) A24 Gi A9 (ok_total A9 A2 A1 Tl) A28 (ok_law_left A28 A12 (ok_without A12 Tl) A10 (ok_scaled A10 A9 A4 A3 A2 A1 Tl) A24 Gi Tl) Tl
theorem walk {l : PySem.W.OpenLaw} {q : Program} {loose : List Str} {XP : (Str → Option Value) → Heap → Prop} {YP : World → Heap → Prop} {d : DefRec} {K : Params → PySem.W.Frag} {c Pt : Addr} (hn : l.most = some 63) (hdf : d.params.defaults = [])
    (hY : ∀ (w : World) (h : Heap), YP w h → (K w.params).In h ∧ h.TableAt c Pt #[]) (hKP : ∀ w : World, (K w.params).lookup Pt = none) (hne : Pt ≠ cStatics)
    (F : ∀ (w : World) (mg : Str → Option Value) (fa : Addr) (h : Heap), (K w.params).In h → h.Ns mainGlobals mg → mg d.name = some (.ref fa) →
      ∃ fd : FuncData, (∀ (s : Shared) (u : Value), BindsTo s fd ⟨[u], []⟩ [("_law_script", u)]) ∧ ∀ base : Heap, (K w.params).In base → base.Ns mainGlobals mg → FnOk l.prog w (K w.params) mg base CX0 8 fa fd ["_law_script"] (sp_law (K w.params) Pt)) :
    PySem.W.WalkO q loose XP YP l.row.toRowW d [] (fun f vs => PySem.call f vs) :=
  L2.walk_ofT (n := 63) (k := 8) (x := "_law_script") (sp := fun w => sp_law (K w.params) Pt) hn (by decide) hdf ⟨rfl, by decide, by decide⟩ hY hKP hne F (fun _ _ a ns hl hb hO hS => ⟨a, ns, rfl, hO.1, hS, hl, hb, fun _ => rfl⟩)
end K09
open PySem PySem.W PyProof.Rows L2
set_option maxRecDepth 100000 in
set_option maxHeartbeats 0 in
theorem PySem.Challenge.cw_flipwright_k09_whole_heap_of_tables_holds : PySem.Challenge.rw_flipwright_k09_whole_heap_of_tables.Holds := by
  w_on; o_law
  refine holds_open (q := K09.vw) (loose := []) (Xt := fun s => xlAt K09.vw [] s && recOk (RowW.records (OpenRow.toRowW PySem.Challenge.rw_flipwright_k09_whole_heap_of_tables.row)) s) (XP := XL K09.vw []) (Yf := Hook.obs (kHook K09.KF K09.KA K09.KAs)) (Ya := Hook.val (kHook K09.KF K09.KA K09.KAs)) (YP := Hook.says (kHook K09.KF K09.KA K09.KAs)) (N := 3224) ?hl (Hook.of _) (Hook.keeps _) (fun s e => xl_of s (Bool.and_eq_true_iff.mp e).1) XL.keeps (by rfl) (by rfl) (by rfl) (fun s e => recFacts_of (Bool.and_eq_true_iff.mp e).2) (by rfl) (by first | assumption | decide +kernel) (by decide +kernel) ⟨rfl, rfl, rfl, rfl, rfl, by decide +kernel⟩ ?hw ?hc
  (case hw => w_witness2)
  (case hl => intro w; kernel_rfl)
  refine K09.walk (l := PySem.Challenge.rw_flipwright_k09_whole_heap_of_tables) (K := K09.KFr) (c := 223) (Pt := 219) rfl rfl (fun w h Y => ?Y) (fun w => by rfl) (by decide) ?F
  case Y =>
    have X : (K09.KF w.params).In h := PySem.W.kIn_of Y
    have X2 : (K09.KFr w.params).In h := K09.tail_in X (by rfl)
    exact ⟨X2, ⟨_, _, X2 223 _ (by rfl), rfl, rfl, rfl⟩, K09.head_in X⟩
  case F =>
    k_fill
    intro w mg fa h KX G hmg
    refine' K09.all_mk hmg (fnAt_mk KX G ?a0 ?l0 ?c0 ?k0 (fun _ _ _ _ _ _ us hl => match us, hl with | [_], _ => rfl))
      (fnAt_mk KX G ?a1 ?l1 ?c1 ?k1 (fun _ _ _ _ _ _ us hl => match us, hl with | [_, _], _ => rfl))
      (fnAt_mk KX G ?a2 ?l2 ?c2 ?k2 (fun _ _ _ _ _ _ us hl => match us, hl with | [_, _], _ => rfl))
      (fnAt_mk KX G ?a3 ?l3 ?c3 ?k3 (fun _ _ _ _ _ _ us hl => match us, hl with | [_, _], _ => rfl))
      (fnAt_mk KX G ?a4 ?l4 ?c4 ?k4 (fun _ _ _ _ _ _ us hl => match us, hl with | [_, _], _ => rfl))
      (fnAt_mk KX G ?a5 ?l5 ?c5 ?k5 (fun _ _ _ _ _ _ us hl => match us, hl with | [_], _ => rfl))
      (fnAt_mk KX G ?a6 ?l6 ?c6 ?k6 (fun _ _ _ _ _ _ us hl => match us, hl with | [_], _ => rfl))
      (fnAt_mk KX G ?a7 ?l7 ?c7 ?k7 (fun _ _ _ _ _ _ us hl => match us, hl with | [_], _ => rfl))
      (fnAt_mk KX G ?a8 ?l8 ?c8 ?k8 (fun _ _ _ _ _ _ us hl => match us, hl with | [_], _ => rfl))
      (fnAt_mk KX G ?a9 ?l9 ?c9 ?k9 (fun _ _ _ _ _ _ us hl => match us, hl with | [_], _ => rfl))
      (fnAt_mk KX G ?a10 ?l10 ?c10 ?k10 (fun _ _ _ _ _ _ us hl => match us, hl with | [_], _ => rfl))
      (fnAt_mk KX G ?a11 ?l11 ?c11 ?k11 (fun _ _ _ _ _ _ us hl => match us, hl with | [_], _ => rfl))
      (fnAt_mk KX G ?a12 ?l12 ?c12 ?k12 (fun _ _ _ _ _ _ us hl => match us, hl with | [_, _], _ => rfl))
      (fnAt_mk KX G ?a13 ?l13 ?c13 ?k13 (fun _ _ _ _ _ _ us hl => match us, hl with | [_, _], _ => rfl))
      (fnAt_mk KX G ?a14 ?l14 ?c14 ?k14 (fun _ _ _ _ _ _ us hl => match us, hl with | [_], _ => rfl))
      (fnAt_mk KX G ?a15 ?l15 ?c15 ?k15 (fun _ _ _ _ _ _ us hl => match us, hl with | [_, _], _ => rfl))
      (fnAt_mk KX G ?a16 ?l16 ?c16 ?k16 (fun _ _ _ _ _ _ us hl => match us, hl with | [_, _], _ => rfl))
      (fnAt_mk KX G ?a17 ?l17 ?c17 ?k17 (fun _ _ _ _ _ _ us hl => match us, hl with | [_, _], _ => rfl))
      (fnAt_mk KX G ?a18 ?l18 ?c18 ?k18 (fun _ _ _ _ _ _ us hl => match us, hl with | [_, _], _ => rfl))
      (fnAt_mk KX G ?a19 ?l19 ?c19 ?k19 (fun _ _ _ _ _ _ us hl => match us, hl with | [_], _ => rfl))
      (fnAt_mk KX G ?a20 ?l20 ?c20 ?k20 (fun _ _ _ _ _ _ us hl => match us, hl with | [_], _ => rfl))
      (fnAt_mk KX G ?a21 ?l21 ?c21 ?k21 (fun _ _ _ _ _ _ us hl => match us, hl with | [_, _], _ => rfl))
      (fnAt_mk KX G ?a22 ?l22 ?c22 ?k22 (fun _ _ _ _ _ _ us hl => match us, hl with | [_, _], _ => rfl))
      (fnAt_mk KX G ?a23 ?l23 ?c23 ?k23 (fun _ _ _ _ _ _ us hl => match us, hl with | [_, _, _], _ => rfl))
      (fnAt_mk KX G ?a24 ?l24 ?c24 ?k24 (fun _ _ _ _ _ _ us hl => match us, hl with | [_, _, _], _ => rfl))
      (fnAt_mk KX G ?a25 ?l25 ?c25 ?k25 (fun _ _ _ _ _ _ us hl => match us, hl with | [_, _], _ => rfl))
      (fnAt_mk KX G ?a26 ?l26 ?c26 ?k26 (fun _ _ _ _ _ _ us hl => match us, hl with | [_, _], _ => rfl))
      (fnAt_mk KX G ?a27 ?l27 ?c27 ?k27 (fun _ _ _ _ _ _ us hl => match us, hl with | [_], _ => rfl))
      (fnAt_mk KX G ?a28 ?l28 ?c28 ?k28 (fun _ _ _ _ _ _ us hl => match us, hl with | [_, _], _ => rfl))
      ⟨⟨PySem.W.mg_of KX G ?gc0, ?ge0⟩, ⟨PySem.W.mg_of KX G ?gc2, ?ge2⟩, ?m1, PySem.W.mg_of KX G ?gN, K09.nought_mk ?lN ?sN, PySem.W.mg_none_of KX G ?zl0, PySem.W.mg_none_of KX G ?zl1, PySem.W.mg_none_of KX G ?zl2, PySem.W.mg_none_of KX G ?zl3, PySem.W.mg_none_of KX G ?zl4, PySem.W.mg_none_of KX G ?zl5, PySem.W.mg_none_of KX G ?zl6, PySem.W.mg_none_of KX G ?zl7, PySem.W.mg_none_of KX G ?zl8, PySem.W.mg_none_of KX G ?zl9, PySem.W.mg_none_of KX G ?zl10, PySem.W.mg_none_of KX G ?zl11⟩
      ⟨⟨_, _, _, _, _, _, _, _, rfl, ?lF, ?cF⟩⟩
      (K09.mks_mk ?lM (PySem.W.mg_of KX G ?gB) ?lB ?sM ?sB)
      ?hb
    (case a0 => k_is); (case l0 => k_is); (case c0 => k_is); (case k0 => k_is)
    (case a1 => k_is); (case l1 => k_is); (case c1 => k_is); (case k1 => k_is)
    (case a2 => k_is); (case l2 => k_is); (case c2 => k_is); (case k2 => k_is)
    (case a3 => k_is); (case l3 => k_is); (case c3 => k_is); (case k3 => k_is)
    (case a4 => k_is); (case l4 => k_is); (case c4 => k_is); (case k4 => k_is)
    (case a5 => k_is); (case l5 => k_is); (case c5 => k_is); (case k5 => k_is)
    (case a6 => k_is); (case l6 => k_is); (case c6 => k_is); (case k6 => k_is)
    (case a7 => k_is); (case l7 => k_is); (case c7 => k_is); (case k7 => k_is)
    (case a8 => k_is); (case l8 => k_is); (case c8 => k_is); (case k8 => k_is)
    (case a9 => k_is); (case l9 => k_is); (case c9 => k_is); (case k9 => k_is)
    (case a10 => k_is); (case l10 => k_is); (case c10 => k_is); (case k10 => k_is)
    (case a11 => k_is); (case l11 => k_is); (case c11 => k_is); (case k11 => k_is)
    (case a12 => k_is); (case l12 => k_is); (case c12 => k_is); (case k12 => k_is)
    (case a13 => k_is); (case l13 => k_is); (case c13 => k_is); (case k13 => k_is)
    (case a14 => k_is); (case l14 => k_is); (case c14 => k_is); (case k14 => k_is)
    (case a15 => k_is); (case l15 => k_is); (case c15 => k_is); (case k15 => k_is)
    (case a16 => k_is); (case l16 => k_is); (case c16 => k_is); (case k16 => k_is)
    (case a17 => k_is); (case l17 => k_is); (case c17 => k_is); (case k17 => k_is)
    (case a18 => k_is); (case l18 => k_is); (case c18 => k_is); (case k18 => k_is)
    (case a19 => k_is); (case l19 => k_is); (case c19 => k_is); (case k19 => k_is)
    (case a20 => k_is); (case l20 => k_is); (case c20 => k_is); (case k20 => k_is)
    (case a21 => k_is); (case l21 => k_is); (case c21 => k_is); (case k21 => k_is)
    (case a22 => k_is); (case l22 => k_is); (case c22 => k_is); (case k22 => k_is)
    (case a23 => k_is); (case l23 => k_is); (case c23 => k_is); (case k23 => k_is)
    (case a24 => k_is); (case l24 => k_is); (case c24 => k_is); (case k24 => k_is)
    (case a25 => k_is); (case l25 => k_is); (case c25 => k_is); (case k25 => k_is)
    (case a26 => k_is); (case l26 => k_is); (case c26 => k_is); (case k26 => k_is)
    (case a27 => k_is); (case l27 => k_is); (case c27 => k_is); (case k27 => k_is)
    (case a28 => k_is); (case l28 => k_is); (case c28 => k_is); (case k28 => k_is)
    (case gc0 => k_is)
    (case ge0 => k_exc)
    (case gc2 => k_is)
    (case ge2 => k_exc)
    (case m1 => kts_exm)
    (case gN => k_is)
    (case lN => k_is)
    (case sN => exact ⟨rfl, _, _, _, rfl⟩)
    (case zl0 => k_is)
    (case zl1 => k_is)
    (case zl2 => k_is)
    (case zl3 => k_is)
    (case zl4 => k_is)
    (case zl5 => k_is)
    (case zl6 => k_is)
    (case zl7 => k_is)
    (case zl8 => k_is)
    (case zl9 => k_is)
    (case zl10 => k_is)
    (case zl11 => k_is)
    (case lF => rfl)
    (case cF => k_is)
    (case lM => k_is)
    (case gB => k_is)
    (case lB => k_is)
    (case sM => exact ⟨_, _, _, _, _, _, _, _, rfl, rfl, rfl, rfl, rfl, rfl, rfl, rfl, by decide⟩)
    (case sB => exact ⟨by decide, by decide, by decide, by decide, rfl, rfl, rfl⟩)
    (case hb => exact fun s u => .of_eq rfl)
