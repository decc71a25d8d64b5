import PyProof.Rows.All
import Wide.All
import OpenK.AllK
import Wide.FinOn
import PyProof.EqAt
import PyProof.EqKinds
import PyProof.TupleCall
import Lean
import PySem.Challenge.RW_flipwright_k40_weighed_by_rows
set_option Elab.async false
set_option linter.all false
set_option maxRecDepth 100000
namespace L2
open PySem PySem.Spec PyProof.Rows
abbrev Key := Sum Int Str
def keyIs : Key → Value → Bool
  | .inl k, v => Value.isInt k v
  | .inr x, v => Value.isStrOf x v
def keyH (w : World) : Key → Int
  | .inl k => hashInt k
  | .inr x => hashStr w x
theorem keyIs_shape : ∀ {k : Key} {v : Value}, keyIs k v = true → (∃ i t, k = Sum.inl i ∧ v = Value.int i t) ∨ (∃ x t, k = Sum.inr x ∧ v = Value.str x t)
  | .inl i, v, h => by
    obtain ⟨t, e⟩ := Value.isInt_shape (k := i) (v := v) h
    exact .inl ⟨i, t, rfl, e⟩
  | .inr x, v, h => by
    obtain ⟨t, e⟩ := Value.isStrOf_shape (x := x) (v := v) h
    exact .inr ⟨x, t, rfl, e⟩
theorem keyIs_int (i : Int) (t : Tok) : keyIs (.inl i) (.int i t) = true := by simp [keyIs, Value.isInt]
theorem keyIs_str (x : Str) (t : Tok) : keyIs (.inr x) (.str x t) = true := by simp [keyIs, Value.isStrOf]
theorem key_ll (a b : Int) : decide ((Sum.inl a : Key) = Sum.inl b) = (a == b) := by
  by_cases e : a = b
  · subst e; simp
  · have h : ¬ (Sum.inl a : Key) = Sum.inl b := fun q => e (Sum.inl.inj q)
    rw [decide_eq_false h]
    exact (beq_eq_false_iff_ne.mpr e).symm
theorem key_rr (a b : Str) : decide ((Sum.inr a : Key) = Sum.inr b) = decide (a = b) := by
  by_cases e : a = b
  · subst e; simp
  · have h : ¬ (Sum.inr a : Key) = Sum.inr b := fun q => e (Sum.inr.inj q)
    rw [decide_eq_false h, decide_eq_false e]
theorem key_lr (a : Int) (b : Str) : decide ((Sum.inl a : Key) = Sum.inr b) = false := decide_eq_false (fun q => nomatch q)
theorem key_rl (a : Str) (b : Int) : decide ((Sum.inr a : Key) = Sum.inl b) = false := decide_eq_false (fun q => nomatch q)
def mixKind (prog : Program) (w : World) : PySem.KeyKind prog w Key where
  is := keyIs
  hash := keyH w
  inj := fun v a b ha hb => by
    rcases keyIs_shape ha with ⟨i, t, rfl, rfl⟩ | ⟨x, t, rfl, rfl⟩
    · rcases keyIs_shape hb with ⟨j, u, rfl, e⟩ | ⟨y, u, rfl, e⟩
      · injection e with e1 _; rw [e1]
      · exact nomatch e
    · rcases keyIs_shape hb with ⟨j, u, rfl, e⟩ | ⟨y, u, rfl, e⟩
      · exact nomatch e
      · injection e with e1 _; rw [e1]
  byValue := fun k v h => by
    rcases keyIs_shape h with ⟨i, t, rfl, rfl⟩ | ⟨x, t, rfl, rfl⟩ <;> rfl
  pyHash := fun hv h => by
    rcases keyIs_shape hv with ⟨i, t, rfl, rfl⟩ | ⟨x, t, rfl, rfl⟩
    · exact wpAny_pyHash_int h
    · exact wpAny_pyHash_str h
  eqBool := fun hu hv h => by
    rcases keyIs_shape hu with ⟨i, t, rfl, rfl⟩ | ⟨x, t, rfl, rfl⟩
    · rcases keyIs_shape hv with ⟨j, u, rfl, rfl⟩ | ⟨y, u, rfl, rfl⟩
      · rw [key_ll] at h; exact wpAny_eqBool_int h
      · rw [key_lr] at h; exact SeqAt.EqAt.int_str i t y u _ _ _ _ h
    · rcases keyIs_shape hv with ⟨j, u, rfl, rfl⟩ | ⟨y, u, rfl, rfl⟩
      · rw [key_rl] at h; exact SeqAt.EqAt.str_int x t j u _ _ _ _ h
      · rw [key_rr] at h; exact wpAny_eqBool_str h
  «strs» := fun k x t v h => by
    rcases keyIs_shape h with ⟨i, u, rfl, e⟩ | ⟨y, u, rfl, e⟩
    · exact nomatch e
    · injection e with e1 _
      subst e1
      cases v <;> rfl
theorem mixKind_int (prog : Program) (w : World) (i : Int) (t : Tok) : (mixKind prog w).is (.inl i) (.int i t) = true := keyIs_int i t
theorem mixKind_str (prog : Program) (w : World) (x : Str) (t : Tok) : (mixKind prog w).is (.inr x) (.str x t) = true := keyIs_str x t
end L2
namespace L2
open PySem PySem.Spec PyProof.Rows
inductive V where
  | non | bl (b : Bool) | int (i : Int) | str (x : Str) | byt (b : Array UInt8) | flt (b : UInt64) | ref (a : Addr) | ty (n : String)
  deriving DecidableEq
def RelV : V → Value → Prop
  | .non, u => u = Value.none
  | .bl b, u => u = Value.bool b
  | .int i, u => ∃ t, u = Value.int i t
  | .str x, u => ∃ t, u = Value.str x t
  | .byt b, u => ∃ t, u = Value.bytes b t
  | .flt b, u => ∃ t, u = Value.float b t
  | .ref a, u => u = Value.ref a
  | .ty n, u => u = Value.type n
abbrev Vals : List V → List Value → Prop := Paired RelV
theorem Vals.length {xs : List V} {us : List Value} (r : Vals xs us) : xs.length = us.length := Paired.length r
theorem Vals.get : ∀ {xs : List V} {us : List Value} {i : Nat} {x : V}, Vals xs us → xs[i]? = some x → ∃ u, us[i]? = some u ∧ RelV x u
  | _, _, _, _, .nil, e => by simp at e
  | _, _, 0, _, .cons r _, e => by simp at e; subst e; exact ⟨_, rfl, r⟩
  | _, _, i + 1, x, .cons _ t, e => by
    obtain ⟨u, h1, h2⟩ := Vals.get (i := i) (x := x) t (by simpa using e)
    exact ⟨u, by simpa using h1, h2⟩
theorem Vals.set {x : V} {u : Value} (r : RelV x u) : ∀ {xs : List V} {us : List Value} (i : Nat), Vals xs us → Vals (xs.set i x) (us.set i u)
  | _, _, _, .nil => .nil
  | _, _, 0, .cons _ t => .cons r t
  | _, _, i + 1, .cons q t => .cons q (Vals.set r i t)
theorem Vals.append : ∀ {xs ys : List V} {us ws : List Value}, Vals xs us → Vals ys ws → Vals (xs ++ ys) (us ++ ws)
  | _, _, _, _, .nil, s => s
  | _, _, _, _, .cons r t, s => .cons r (Vals.append t s)
theorem Vals.take : ∀ {xs : List V} {us : List Value} (n : Nat), Vals xs us → Vals (xs.take n) (us.take n)
  | _, _, 0, _ => .nil
  | _, _, _ + 1, .nil => .nil
  | _, _, n + 1, .cons r t => .cons r (Vals.take n t)
theorem Vals.drop : ∀ {xs : List V} {us : List Value} (n : Nat), Vals xs us → Vals (xs.drop n) (us.drop n)
  | _, _, 0, r => r
  | _, _, _ + 1, .nil => .nil
  | _, _, n + 1, .cons _ t => Vals.drop n t
def RelO : Option V → Option Value → Prop
  | some v, some u => RelV v u
  | none, none => True
  | _, _ => False
def KV {κ : Type} : List (κ × V) → List (κ × Value) → Prop := Paired fun (p : κ × V) (q : κ × Value) => p.1 = q.1 ∧ RelV p.2 q.2
def kV : Key → V
  | .inl i => .int i
  | .inr x => .str x
inductive HO where
  | lst (xs : List V)
  | tup (xs : List V)
  | dK (kvs : List (Key × V)) | dT (kvs : List (List Key × V))
  | set (S : Int → Bool) (n : Nat)
  | ins (C dx : Addr) (fs : List (Str × V))
  | own (x : Addr)
  | xd (fs : List (Str × V))
  | met (f x : Addr)
  | rng (lo hi : Int)
  | frz (o : Obj) (u : HO)
  | tbl (ps : Array Value)
  | ext (φ : Heap → Prop)
abbrev Hp := Addr → Option HO
def upd (H : Hp) (a : Addr) (o : HO) : Hp := fun b => if b = a then some o else H b
theorem upd_same {H : Hp} {a : Addr} {o : HO} : upd H a o a = some o := by unfold upd; rw [if_pos rfl]
theorem upd_ne {H : Hp} {a b : Addr} {o : HO} (h : b ≠ a) : upd H a o b = H b := by unfold upd; rw [if_neg h]
theorem ne_of {H : Hp} {a b : Addr} {o u : HO} (h : H a = some o) (h' : H b = some u) (d : o ≠ u) : a ≠ b := by
  intro e; subst e; rw [h] at h'; exact d (Option.some.inj h')
theorem ne_of_none {H : Hp} {a b : Addr} {o : HO} (h : H a = some o) (h' : H b = none) : a ≠ b := by
  intro e; subst e; rw [h] at h'; cases h'
section
variable (P : Program) (w : World)
def ObjOk (H : Hp) (h : Heap) (a : Addr) : HO → Prop
  | .lst xs => xs.length ≤ sizeLine ∧ ∃ (its : List Value) (n : Nat), Vals xs its ∧ h.get? a = some { cls := .type "list", data := .seq its.toArray n }
  | .tup xs => xs.length ≤ sizeLine ∧ ∃ its : List Value, Vals xs its ∧ IsTup h a its.toArray
  | .dK kvs => kvs.length ≤ sizeLine ∧ (a == sysModules) = false ∧ ∃ vs, KV kvs vs ∧ h.DictOf (mixKind P w) a vs
  | .dT kvs => kvs.length ≤ sizeLine ∧ (a == sysModules) = false ∧ ∃ xs : List (List Key × Addr × Value),
      Paired (fun (p : List Key × V) (q : List Key × Addr × Value) => p.1 = q.1 ∧ H q.2.1 = some (.tup (p.1.map kV)) ∧ RelV p.2 q.2.2) kvs xs ∧
      ∃ o es ep, h.get? a = some o ∧ o.ExactDict ∧ o.data = .dict es ep ∧ es.toList = xs.map (entryOfKey (tupleKind (mixKind P w))) ∧ (xs.map (·.1)).Nodup
  | .set S n => h.SetOf (intKind P w) a S n
  | .ins C dx fs => H dx = some (.own a) ∧ fs.length ≤ 1000 ∧ dx ≠ a ∧ h.get? a = some (PySem.W.instObj C dx) ∧
      ∃ mA, h.Ns1 dx mA ∧ (∀ f, RelO (fs.lookup f) (mA f)) ∧ PySem.Within mA (fs.map (·.1))
  | .own _ => ∃ o, h.get? a = some o
  | .xd fs => ∃ mA, h.Ns1 a mA ∧ ∀ f, RelO (fs.lookup f) (mA f)
  | .rng lo hi => ∃ t u v, h.get? a = some { cls := .type "range", data := .fields #[.int lo t, .int hi u, .int 1 v] }
  | .frz o u => h.get? a = some o ∧ ObjOk H h a u
  | .tbl ps => h.get? a = some { cls := .none, data := .fields ps }
  | .met f x => h.get? a = some (PySem.W.methodObj (.ref f) (.ref x))
  | .ext φ => φ h ∧ (∃ o, h.get? a = some o) ∧ ∀ h1 h2 : Heap, φ h1 → (∀ o, h1.get? a = some o → h2.get? a = some o) → φ h2
def HOk (H : Hp) (h : Heap) : Prop := ∀ a o, H a = some o → ObjOk P w H h a o
end
section
variable {P : Program} {w : World} {H H' : Hp} {h h' : Heap} {a : Addr} {o : HO}
theorem ObjOk.lt (x : ObjOk P w H h a o) : a < h.objs.size := by
  cases o with
  | lst xs => obtain ⟨_, _, _, _, e⟩ := x; exact Heap.lt_size e
  | tup xs => obtain ⟨_, _, _, p⟩ := x; exact p.lt
  | dK kvs => obtain ⟨_, _, _, _, o, _, _, e, _⟩ := x; exact Heap.lt_size e
  | dT kvs => obtain ⟨_, _, _, _, o, _, _, e, _⟩ := x; exact Heap.lt_size e
  | set S n => obtain ⟨o, _, _, _, e, _⟩ := x; exact Heap.lt_size e
  | ins C dx fs => obtain ⟨_, _, _, e, _⟩ := x; exact Heap.lt_size e
  | own y => obtain ⟨_, e⟩ := x; exact Heap.lt_size e
  | xd fs => obtain ⟨_, ⟨_, _, _, e, _⟩, _⟩ := x; exact Heap.lt_size e
  | rng lo hi => obtain ⟨_, _, _, e⟩ := x; exact Heap.lt_size e
  | frz ob u => obtain ⟨e, _⟩ := x; exact Heap.lt_size e
  | tbl ps => exact Heap.lt_size (show h.get? a = some _ from x)
  | met f y => exact Heap.lt_size (show h.get? a = some _ from x)
  | ext φ => obtain ⟨_, ⟨_, e⟩, _⟩ := x; exact Heap.lt_size e
theorem Paired.mapP {α β : Type} {F G : α → β → Prop} : ∀ {l₁ : List α} {l₂ : List β}, Paired F l₁ l₂ → (∀ a b, F a b → G a b) → Paired G l₁ l₂
  | _, _, .nil, _ => .nil
  | _, _, .cons r t, f => .cons (f _ _ r) (Paired.mapP t f)
theorem ObjOk.stay (x : ObjOk P w H h a o) (k : ∀ b u, (b = a ∨ H b = some (.own a)) → h.get? b = some u → h'.get? b = some u)
    (ho : ∀ b, H b = some (.own a) → H' b = some (.own a)) (ht : ∀ b xs, H b = some (.tup xs) → H' b = some (.tup xs)) : ObjOk P w H' h' a o := by
  induction o with
  | lst xs => obtain ⟨z, its, n, r, e⟩ := x; exact ⟨z, its, n, r, k _ _ (.inl rfl) e⟩
  | tup xs => obtain ⟨z, its, r, ob, e, c⟩ := x; exact ⟨z, its, r, ob, k _ _ (.inl rfl) e, c⟩
  | dK kvs => obtain ⟨z, y, vs, r, ob, es, ep, e, c⟩ := x; exact ⟨z, y, vs, r, ob, es, ep, k _ _ (.inl rfl) e, c⟩
  | dT kvs =>
    obtain ⟨z, y, xs, r, ob, es, ep, e, c⟩ := x
    exact ⟨z, y, xs, Paired.mapP r fun p q z => ⟨z.1, ht _ _ z.2.1, z.2.2⟩, ob, es, ep, k _ _ (.inl rfl) e, c⟩
  | set S n => obtain ⟨ob, es, ep, t, e, c⟩ := x; exact ⟨ob, es, ep, t, k _ _ (.inl rfl) e, c⟩
  | ins C dx fs =>
    obtain ⟨d, z, ne, e, mA, ⟨od, es, ep, e2, c⟩, r⟩ := x
    exact ⟨ho _ d, z, ne, k _ _ (.inl rfl) e, mA, ⟨od, es, ep, k _ _ (.inr d) e2, c⟩, r⟩
  | own y => obtain ⟨ob, e⟩ := x; exact ⟨ob, k _ _ (.inl rfl) e⟩
  | xd fs => obtain ⟨mA, ⟨od, es, ep, e, c⟩, r⟩ := x; exact ⟨mA, ⟨od, es, ep, k _ _ (.inl rfl) e, c⟩, r⟩
  | rng lo hi => obtain ⟨t, u, v, e⟩ := x; exact ⟨t, u, v, k _ _ (.inl rfl) e⟩
  | frz ob u ih => obtain ⟨e, q⟩ := x; exact ⟨k _ _ (.inl rfl) e, ih q⟩
  | tbl ps =>
    have e : h.get? a = some { cls := .none, data := .fields ps } := x
    show h'.get? a = some { cls := .none, data := .fields ps }
    exact k a _ (.inl rfl) e
  | met f y =>
    have e : h.get? a = some (PySem.W.methodObj (.ref f) (.ref y)) := x
    show h'.get? a = some (PySem.W.methodObj (.ref f) (.ref y))
    exact k a _ (.inl rfl) e
  | ext φ => obtain ⟨p, ⟨o, e⟩, st⟩ := x; exact ⟨st _ _ p fun o q => k _ _ (.inl rfl) q, ⟨o, k _ _ (.inl rfl) e⟩, st⟩
theorem HOk.lt (x : HOk P w H h) (e : H a = some o) : a < h.objs.size := (x a o e).lt
theorem HOk.fresh (x : HOk P w H h) (e : h.objs.size ≤ a) : H a = none := by
  cases q : H a with
  | none => rfl
  | some u => exact absurd (Nat.lt_of_lt_of_le (x.lt q) e) (Nat.lt_irrefl _)
theorem HOk.kept (x : HOk P w H h) (k : ∀ b u, h.get? b = some u → h'.get? b = some u) : HOk P w H h' := fun a o e =>
  (x a o e).stay (fun b u _ q => k b u q) (fun _ q => q) fun _ _ q => q
theorem HOk.laid (x : HOk P w H h) (k : ∀ b u, h.get? b = some u → h'.get? b = some u) (hp : h.objs.size ≤ a) (new : ObjOk P w (upd H a o) h' a o) : HOk P w (upd H a o) h' := fun b u e => by
  have hn := x.fresh hp
  by_cases hb : b = a
  · subst hb; rw [upd_same] at e; cases e; exact new
  · rw [upd_ne hb] at e
    exact (x b u e).stay (fun c v _ q => k c v q) (fun c q => by rw [upd_ne (ne_of_none q hn)]; exact q) fun c xs q => by rw [upd_ne (ne_of_none q hn)]; exact q
end
def Rd (H : Hp) (a : Addr) (u : HO) : Prop := H a = some u ∨ ∃ o, H a = some (.frz o u)
theorem Rd.ok {P : Program} {w : World} {H : Hp} {h : Heap} {a : Addr} {u : HO} (r : Rd H a u) (x : HOk P w H h) : ObjOk P w H h a u := by
  rcases r with r | ⟨o, r⟩
  · exact x a u r
  · obtain ⟨_, q⟩ := x a _ r
    exact q
def Mut : Option HO → Prop
  | some (.lst _) => True
  | some (.dK _) => True
  | some (.dT _) => True
  | some (.set _ _) => True
  | some (.ins _ _ _) => True
  | some (.ext _) => True
  | _ => False
section
variable {P : Program} {w : World} {H : Hp} {h h' : Heap} {x e : Addr} {o' : HO}
theorem HOk.write (ok : HOk P w H h) (mu : Mut (H x)) (he : e = x ∨ H e = some (.own x)) (k : ∀ b u, b ≠ e → h.get? b = some u → h'.get? b = some u) (heo : ∃ u, h'.get? e = some u)
    (new : ObjOk P w (upd H x o') h' x o') : HOk P w (upd H x o') h' := fun b u q => by
  have nown : ∀ c y, H c = some (.own y) → c ≠ x := fun c y r z => by subst z; rw [r] at mu; exact mu
  have ntup : ∀ c xs, H c = some (.tup xs) → c ≠ x := fun c xs r z => by subst z; rw [r] at mu; exact mu
  by_cases hb : b = x
  · subst hb; rw [upd_same] at q; cases q; exact new
  · rw [upd_ne hb] at q
    by_cases hbe : b = e
    · have q' : H b = some (.own x) := by
        rcases he with z | z
        · exact absurd (hbe.trans z) hb
        · rw [hbe]; exact z
      rw [q] at q'; cases q'
      obtain ⟨v, hv⟩ := heo
      exact ⟨v, by rw [hbe]; exact hv⟩
    · refine (ok b u q).stay (fun c v hc r => k c v ?_ r) (fun c r => by rw [upd_ne (nown c b r)]; exact r) fun c xs r => by rw [upd_ne (ntup c xs r)]; exact r
      rcases hc with rfl | hc
      · exact hbe
      · rintro rfl
        rcases he with z | z
        · exact nown c b hc z
        · rw [hc] at z; cases z; exact hb rfl
end
structure Un (fs ex : List Addr) (H H' : Hp) (h h' : Heap) : Prop where
  keep : ∀ b o, h.get? b = some o → H b = none → b ∉ fs → b ∉ ex → h'.get? b = some o
  slot : ∀ b o, h.get? b = some o → H b = none → b ∈ fs → b ∉ ex → ∃ sl, h'.get? b = some { o with slots := sl }
  free : ∀ b o, h.get? b = some o → H b = none → b ∉ ex → H' b = none
  there : ∀ b o, h.get? b = some o → b ∉ ex → ∃ o', h'.get? b = some o'
  tups : ∀ b xs, H b = some (.tup xs) → H' b = some (.tup xs)
  frzs : ∀ b o u, H b = some (.frz o u) → H' b = some (.frz o u)
  tbls : ∀ b ps, H b = some (.tbl ps) → ∃ more, H' b = some (.tbl (ps ++ more))
section
variable {fs fs' ex ex' : List Addr} {H H1 H2 : Hp} {h h1 h2 h' : Heap} {a x e : Addr} {o : HO}
theorem Un.any (u : Un fs ex H H1 h h1) {b : Addr} {ob : Obj} (q : h.get? b = some ob) (n : H b = none) (hx : b ∉ ex) : ∃ sl, h1.get? b = some { ob with slots := sl } := by
  by_cases hb : b ∈ fs
  · exact u.slot b ob q n hb hx
  · exact ⟨ob.slots, u.keep b ob q n hb hx⟩
theorem Un.kept (k : ∀ b u, h.get? b = some u → h'.get? b = some u) : Un fs ex H H h h' :=
  ⟨fun b ob q _ _ _ => k b ob q, fun b ob q _ _ _ => ⟨ob.slots, k b ob q⟩, fun _ _ _ n _ => n, fun b ob q _ => ⟨ob, k b ob q⟩, fun _ _ q => q, fun _ _ _ q => q, fun _ ps q => ⟨#[], by rw [q]; simp⟩⟩
theorem Un.refl : Un fs ex H H h h := Un.kept fun _ _ q => q
theorem Un.laid (k : ∀ b u, h.get? b = some u → h'.get? b = some u) (hp : h.objs.size ≤ a) (hn : H a = none) : Un fs ex H (upd H a o) h h' where
  keep := fun b u q _ _ _ => k b u q
  slot := fun b u q _ _ _ => ⟨u.slots, k b u q⟩
  free := fun b u q n _ => by rw [upd_ne (Nat.ne_of_lt (Nat.lt_of_lt_of_le (Heap.lt_size q) hp))]; exact n
  there := fun b u q _ => ⟨u, k b u q⟩
  tups := fun b xs q => by rw [upd_ne (ne_of_none q hn)]; exact q
  frzs := fun b u xs q => by rw [upd_ne (ne_of_none q hn)]; exact q
  tbls := fun b ps q => ⟨#[], by rw [upd_ne (ne_of_none q hn), q]; simp⟩
theorem Un.write (mu : Mut (H x)) (he : e = x ∨ H e = some (.own x)) (k : ∀ b u, b ≠ e → h.get? b = some u → h'.get? b = some u) (heo : ∃ u, h'.get? e = some u) : Un fs ex H (upd H x o) h h' := by
  have hx : ∀ b, H b = none → b ≠ x := fun b n z => by subst z; rw [n] at mu; exact mu
  have hb : ∀ b, H b = none → b ≠ e := fun b n z => by
    subst z
    rcases he with r | r
    · exact hx b n r
    · rw [n] at r; cases r
  have hm : ∀ b u, H b = some u → ¬ Mut (some u) → b ≠ x := fun b u q nm z => by subst z; rw [q] at mu; exact nm mu
  refine ⟨fun b u q n _ _ => k b u (hb b n) q, fun b u q n _ _ => ⟨u.slots, k b u (hb b n) q⟩, fun b u q n _ => by rw [upd_ne (hx b n)]; exact n, fun b u q _ => ?_,
    fun b xs q => by rw [upd_ne (hm b _ q fun z => z)]; exact q, fun b u xs q => by rw [upd_ne (hm b _ q fun z => z)]; exact q, fun b ps q => ⟨#[], by rw [upd_ne (hm b _ q fun z => z), q]; simp⟩⟩
  by_cases hbe : b = e
  · subst hbe; exact heo
  · exact ⟨u, k b u hbe q⟩
end
def trk (h : Heap) (H : Hp) : List Addr := (List.range h.objs.size).filter fun a => (H a).isSome
def hidT (h : Heap) (H : Hp) : Heap := PySem.W.hideAll h (trk h H)
theorem hidT_size (h : Heap) (H : Hp) : (hidT h H).objs.size = h.objs.size := PySem.W.hideAll_size _ _
theorem hidT_get {h : Heap} {H : Hp} {b : Addr} {o : Obj} (e : h.get? b = some o) (n : H b = none) : (hidT h H).get? b = some o :=
  PySem.W.hideAll_get _ e fun hm => by
    have q : (H b).isSome = true := (List.mem_filter.mp hm).2
    rw [n] at q; simp at q
theorem of_hidT {h : Heap} {H : Hp} {b : Addr} {o : Obj} (e : (hidT h H).get? b = some o) : h.get? b = some o ∧ H b = none := by
  have e' : h.get? b = some o := PySem.W.of_hideAll (trk h H) e
  refine ⟨e', ?_⟩
  cases q : H b with
  | none => rfl
  | some x =>
    have hm : b ∈ trk h H := List.mem_filter.mpr ⟨List.mem_range.mpr (Heap.lt_size e'), by simp [q]⟩
    have z : (hidT h H).get? b = none := PySem.W.hideAll_none (trk h H) hm
    rw [z] at e; cases e
def allNews (g h : Heap) (L : Addr) : List (Addr × Obj) := (List.range h.objs.size).filterMap fun a => if a = L ∨ (g.get? a).isSome = true then none else (h.get? a).map fun o => (a, o)
def rest (g h : Heap) (L d : Addr) : List (Addr × Obj) := (allNews g h L).filter fun p => decide (p.1 ≠ d)
end L2
namespace L2
open PySem PySem.Spec PyProof.Rows
structure Mod (K : PySem.W.Frag) (mg : Str → Option Value) (base : Heap) : Prop where
  kin : K.In base
  glob : base.Ns mainGlobals mg
  blt : ∃ mb, base.Ns builtinsNs mb ∧ ∀ x : Str, x ≠ "__name__" → mb x = bootBuiltins x
  nolimit : base.NoLimit
/-- the context: a def's body (or a comprehension's block) running. base: fixed through the whole law; s₀, H₀: the entry; outer: the frames whose slots others may change (a def's callers); stack: all frames that run;
   ex: iterators that were made ahead of the entry and are walked here (a comprehension's); fn: the names whose cells were made at the entry (a def: all; a comprehension's block: its own); calm: not within an except suite; pn: pins that every state bears; xe: what is wanted of an exception that leaves the code -/
structure Cx where
  prog : Program
  w : World
  K : PySem.W.Frag
  mg : Str → Option Value
  base : Heap
  A : Around
  N : List Str
  s₀ : Shared
  H₀ : Hp
  env : Env
  outer : List Env
  stack : List Env
  ex : List Addr
  fn : Str → Bool
  calm : Bool
  pn : List (Addr × Obj)
  xe : Value → Shared → Prop
def frs (l : List Env) : List Addr := l.filterMap (·.frame)
abbrev Cx.fs (X : Cx) : List Addr := frs X.outer
def Vis (sc : Scope) (x : Str) : Prop := sc.names.lookup x = some .local ∨ sc.names.lookup x = some .cell ∨ sc.names.lookup x = some .free
def Loc (sc : Scope) (x : Str) : Prop := sc.names.lookup x = some .local ∨ sc.names.lookup x = some .cell
def Look (env : Env) (h : Heap) (m : Str → Option Value) (x : Str) (u : Value) : Prop :=
  (env.kindOf x = some .local ∧ m x = some u) ∨ ((env.kindOf x = some .cell ∨ env.kindOf x = some .free) ∧ ∃ c, env.cells.lookup x = some c ∧ h.IsCell c (some u))
structure Cx.Ok (X : Cx) : Prop where
  mod : Mod X.K X.mg X.base
  kind : X.env.scope.kind = .function
  glob : X.env.globals = mainGlobals
  blt : X.env.builtins = builtinsNs
  above : X.s₀.heap.objs.size ≤ X.env.locals
  inj : ∀ x y c, X.env.cells.lookup x = some c → X.env.cells.lookup y = some c → x = y
  has : ∀ x, (X.env.kindOf x = some .cell ∨ X.env.kindOf x = some .free) → ∃ c, X.env.cells.lookup x = some c
  cab : ∀ x c, X.fn x = true → X.env.cells.lookup x = some c → X.s₀.heap.objs.size ≤ c
  hd : X.calm = true → X.A.handled = none
  frames : X.A.frames = some X.stack
  stk : X.stack = X.outer ∨ (X.stack = X.env :: X.outer ∧ X.env.frame = some X.env.locals)
  exf : ∀ b ∈ X.ex, b ≠ X.env.locals ∧ ∀ x c, X.env.cells.lookup x = some c → c ≠ b
  bs : ∀ b o, X.base.get? b = some o → X.s₀.heap.get? b = some o ∧ X.H₀ b = none
  bsz : X.base.objs.size ≤ X.s₀.heap.objs.size
  noex : ∀ b o, X.base.get? b = some o → b ∉ X.ex
  exfs : ∀ b ∈ X.ex, b ∉ X.fs
  funs : X.s₀.heap.FunFrames X.base X.outer
  frf : ∀ b ∈ X.fs, X.H₀ b = none
structure Inv (X : Cx) (pins : List (Addr × Obj)) (σ : List (Option V)) (H : Hp) (s : Shared) : Prop where
  ok : X.Ok
  os : s.os = X.s₀.os
  bare : AllBare s.gens
  base : Un X.fs X.ex X.H₀ H X.s₀.heap s.heap
  loc : ∃ m, s.heap.Ns X.env.locals m ∧ ∀ (i : Nat) (x : Str) (v : V), X.N[i]? = some x → σ[i]? = some (some v) → Vis X.env.scope x → ∃ u, RelV v u ∧ Look X.env s.heap m x u
  cell : ∀ x c, X.env.cells.lookup x = some c → ∃ v, s.heap.IsCell c v
  free : H X.env.locals = none
  freeC : ∀ x c, X.env.cells.lookup x = some c → H c = none
  pin : ∀ p ∈ X.pn ++ pins, s.heap.get? p.1 = some p.2 ∧ H p.1 = none ∧ p.1 ≠ X.env.locals ∧ p.1 ∉ X.fs ∧ ∀ v, p.2.data ≠ .cell v
  hok : HOk X.prog X.w H s.heap
  len : σ.length = X.N.length
section
variable {X : Cx} {pins : List (Addr × Obj)} {σ : List (Option V)} {H H' : Hp} {s : Shared} {h' : Heap}
theorem Cx.Ok.nofr (ok : X.Ok) {b : Addr} {o : Obj} (e : X.base.get? b = some o) : b ∉ X.fs := fun hb => by
  have := (ok.funs.mem hb).1
  rw [e] at this; cases this
theorem Inv.bs (I : Inv X pins σ H s) : ∀ b o, X.base.get? b = some o → s.heap.get? b = some o ∧ H b = none := fun b o e =>
  ⟨I.base.keep b o (I.ok.bs b o e).1 (I.ok.bs b o e).2 (I.ok.nofr e) (I.ok.noex b o e), I.base.free b o (I.ok.bs b o e).1 (I.ok.bs b o e).2 (I.ok.noex b o e)⟩
theorem Inv.bk (I : Inv X pins σ H s) : ∀ b o, X.base.get? b = some o → s.heap.get? b = some o := fun b o e => (I.bs b o e).1
theorem Inv.mod (I : Inv X pins σ H s) : Mod X.K X.mg X.base := I.ok.mod
theorem Inv.kIn (I : Inv X pins σ H s) : X.K.In s.heap := I.ok.mod.kin.keeps I.bk
theorem Inv.nolimit (I : Inv X pins σ H s) : s.heap.NoLimit := I.ok.mod.nolimit.keeps I.bk
theorem Inv.lt (I : Inv X pins σ H s) : X.env.locals < s.heap.objs.size := let ⟨_, hn, _⟩ := I.loc; hn.lt
theorem Inv.sz (I : Inv X pins σ H s) : X.s₀.heap.objs.size ≤ s.heap.objs.size := Nat.le_trans I.ok.above (Nat.le_of_lt I.lt)
theorem Inv.nofs (I : Inv X pins σ H s) {a : Addr} (h : s.heap.objs.size ≤ a) : a ∉ X.fs := fun hb => by
  obtain ⟨_, o, ho, _⟩ := I.ok.funs.mem hb
  exact absurd (Nat.lt_of_lt_of_le (Heap.lt_size ho) (Nat.le_trans I.sz h)) (Nat.lt_irrefl _)
theorem Inv.cne (I : Inv X pins σ H s) : ∀ x c, X.env.cells.lookup x = some c → c ≠ X.env.locals := fun x c e z => by
  obtain ⟨v, o, ho, hd⟩ := I.cell x c e
  obtain ⟨m, ⟨o', es, ep, ho', hd', _⟩, _⟩ := I.loc
  rw [z, ho'] at ho; cases ho; rw [hd'] at hd; cases hd
theorem Inv.funs (I : Inv X pins σ H s) : s.heap.FunFrames X.base X.outer := by
  have all : ∀ (l : List Env), (∀ b ∈ frs l, b ∈ X.fs) → X.s₀.heap.FunFrames X.base l → s.heap.FunFrames X.base l := by
    intro l
    induction l with
    | nil => intro _ _; trivial
    | cons env r ih =>
      intro hs hl
      obtain ⟨hk, ⟨L, o, hf, hn, ho, hd⟩, hr⟩ := hl
      have hL : L ∈ X.fs := hs L (by unfold frs; rw [List.filterMap_cons, hf]; exact List.mem_cons_self)
      obtain ⟨sl, e⟩ := I.base.slot L o ho (I.ok.frf L hL) hL fun z => I.ok.exfs L z hL
      exact ⟨hk, ⟨L, _, hf, hn, e, hd⟩, ih (fun b hb => hs b (by unfold frs; rw [List.filterMap_cons, hf]; exact List.mem_cons_of_mem _ hb)) hr⟩
  exact all X.outer (fun _ hb => hb) I.ok.funs
theorem Inv.stack (I : Inv X pins σ H s) : s.heap.FunFrames X.base X.stack := by
  rcases I.ok.stk with e | ⟨e, hf⟩
  · rw [e]; exact I.funs
  · rw [e]
    obtain ⟨m, hn, _⟩ := I.loc
    refine .cons (by rw [I.ok.kind]; decide) hf hn ?_ I.funs
    exact Heap.get?_none_of_le (Nat.le_trans I.ok.bsz I.ok.above)
theorem Inv.stkSub (I : Inv X pins σ H s) : ∀ b ∈ frs X.stack, b ∈ X.env.locals :: X.fs := fun b hb => by
  rcases I.ok.stk with e | ⟨e, hf⟩
  · rw [e] at hb; exact List.mem_cons_of_mem _ hb
  · rw [e] at hb
    unfold frs at hb
    rw [List.filterMap_cons, hf] at hb
    exact hb
theorem Inv.stkFree (I : Inv X pins σ H s) : ∀ b ∈ frs X.stack, H b = none := fun b hb => by
  rcases List.mem_cons.mp (I.stkSub b hb) with e | hb
  · rw [e]; exact I.free
  · obtain ⟨_, o, ho, _⟩ := I.ok.funs.mem hb
    exact I.base.free b o ho (I.ok.frf b hb) fun z => I.ok.exfs b z hb
theorem Inv.step {g' : Array GenState} {t' : Nat} {d' : Drawn} {ch : List Addr} (I : Inv X pins σ H s)
    (hch : ∀ b ∈ ch, (b ∈ X.ex ∨ X.s₀.heap.objs.size ≤ b) ∧ b ≠ X.env.locals ∧ (∀ x c, X.env.cells.lookup x = some c → c ≠ b) ∧ ∀ p ∈ X.pn ++ pins, p.1 ≠ b)
    (keep : ∀ b o, b ≠ X.env.locals → b ∉ X.fs → b ∉ ch → s.heap.get? b = some o → H b = none → h'.get? b = some o)
    (slot : ∀ b o, b ≠ X.env.locals → b ∈ X.fs → b ∉ ch → s.heap.get? b = some o → H b = none → ∃ sl, h'.get? b = some { o with slots := sl }) (free : ∀ b o, b ∉ ch → s.heap.get? b = some o → H b = none → H' b = none)
    (there : ∀ b o, b ∉ ch → s.heap.get? b = some o → ∃ o', h'.get? b = some o')
    (tups : ∀ b xs, H b = some (.tup xs) → H' b = some (.tup xs)) (frzs : ∀ b o u, H b = some (.frz o u) → H' b = some (.frz o u)) (tbls : ∀ b ps, H b = some (.tbl ps) → ∃ more, H' b = some (.tbl (ps ++ more)))
    (ns : ∀ m, s.heap.Ns X.env.locals m → h'.Ns X.env.locals m) (hok : HOk X.prog X.w H' h') (hg : AllBare g') :
    Inv X pins σ H' { s with heap := h', gens := g', drawn := d', toks := t' } := by
  have neL : ∀ b o, X.s₀.heap.get? b = some o → b ≠ X.env.locals := fun b o e => Nat.ne_of_lt (Nat.lt_of_lt_of_le (Heap.lt_size e) I.ok.above)
  have neC : ∀ b o, X.s₀.heap.get? b = some o → b ∉ X.ex → b ∉ ch := fun b o e hx hb => by
    rcases (hch b hb).1 with z | z
    · exact hx z
    · exact absurd (Nat.lt_of_lt_of_le (Heap.lt_size e) z) (Nat.lt_irrefl _)
  have cellK : ∀ x c, X.env.cells.lookup x = some c → ∀ v, s.heap.IsCell c v → h'.IsCell c v := fun x c e v ⟨o, ho, hd⟩ => by
    have nch : c ∉ ch := fun z => (hch c z).2.2.1 x c e rfl
    by_cases hc : c ∈ X.fs
    · obtain ⟨sl, q⟩ := slot c o (I.cne x c e) hc nch ho (I.freeC x c e)
      exact ⟨_, q, hd⟩
    · exact ⟨o, keep c o (I.cne x c e) hc nch ho (I.freeC x c e), hd⟩
  refine ⟨I.ok, I.os, hg, ⟨fun b o e n hb hx => ?_, fun b o e n hb hx => ?_, fun b o e n hx => ?_, fun b o e hx => ?_, fun b xs e => tups b xs (I.base.tups b xs e), fun b o xs e => frzs b o xs (I.base.frzs b o xs e), fun b ps e => ?_⟩, ?_, fun x c e => ?_, ?_, fun x c e => ?_, fun p hp => ?_, hok, I.len⟩
  · exact keep b o (neL b o e) hb (neC b o e hx) (I.base.keep b o e n hb hx) (I.base.free b o e n hx)
  · obtain ⟨sl, e1⟩ := I.base.slot b o e n hb hx
    obtain ⟨sl', e2⟩ := slot b _ (neL b o e) hb (neC b o e hx) e1 (I.base.free b o e n hx)
    exact ⟨sl', e2⟩
  · obtain ⟨o', e1⟩ := I.base.there b o e hx
    exact free b o' (neC b o e hx) e1 (I.base.free b o e n hx)
  · obtain ⟨o', e1⟩ := I.base.there b o e hx
    exact there b o' (neC b o e hx) e1
  · obtain ⟨m1, e1⟩ := I.base.tbls b ps e
    obtain ⟨m2, e2⟩ := tbls b _ e1
    exact ⟨m1 ++ m2, by rw [e2, Array.append_assoc]⟩
  · obtain ⟨m, hn, hl⟩ := I.loc
    refine ⟨m, ns m hn, fun i x v e1 e2 e3 => ?_⟩
    obtain ⟨u, r, l⟩ := hl i x v e1 e2 e3
    refine ⟨u, r, ?_⟩
    rcases l with l | ⟨k, c, e, z⟩
    · exact .inl l
    · exact .inr ⟨k, c, e, cellK x c e _ z⟩
  · obtain ⟨v, z⟩ := I.cell x c e
    exact ⟨v, cellK x c e v z⟩
  · obtain ⟨m, ⟨o, _, _, ho, _⟩, _⟩ := I.loc
    exact free _ o (fun z => (hch _ z).2.1 rfl) ho I.free
  · obtain ⟨v, o, ho, hd⟩ := I.cell x c e
    exact free c o (fun z => (hch c z).2.2.1 x c e rfl) ho (I.freeC x c e)
  · obtain ⟨e, n, ne, nf, d⟩ := I.pin p hp
    have nch : p.1 ∉ ch := fun z => (hch p.1 z).2.2.2 p hp rfl
    exact ⟨keep p.1 p.2 ne nf nch e n, free p.1 p.2 nch e n, ne, nf, d⟩
theorem Inv.un {t' : Nat} (I : Inv X pins σ H s) (u : Un X.fs [] H H' s.heap h') (hok : HOk X.prog X.w H' h') : Inv X pins σ H' { s with heap := h', toks := t' } := by
  obtain ⟨m, ⟨o, es, ep, ho, r⟩, _⟩ := id I.loc
  obtain ⟨sl, hL⟩ := u.any ho I.free (by simp)
  exact I.step (g' := s.gens) (d' := s.drawn) (ch := []) (fun _ z => nomatch z) (fun b o _ hb _ e n => u.keep b o e n hb (by simp)) (fun b o _ hb _ e n => u.slot b o e n hb (by simp)) (fun b o _ e n => u.free b o e n (by simp)) (fun b o _ e => u.there b o e (by simp)) u.tups u.frzs u.tbls (fun m' hm => by
    obtain ⟨o', es', ep', ho', r'⟩ := hm
    rw [ho] at ho'; cases ho'
    exact ⟨_, es', ep', hL, r'⟩) hok I.bare
theorem Inv.call {g' : Array GenState} {t' : Nat} {d' : Drawn} {ch : List Addr} (I : Inv X pins σ H s) (u : Un (frs X.stack) ch H H' s.heap h') (hok : HOk X.prog X.w H' h') (hg : AllBare g')
    (hch : ∀ b ∈ ch, (b ∈ X.ex ∨ X.s₀.heap.objs.size ≤ b) ∧ b ≠ X.env.locals ∧ (∀ x c, X.env.cells.lookup x = some c → c ≠ b) ∧ ∀ p ∈ X.pn ++ pins, p.1 ≠ b) :
    Inv X pins σ H' { s with heap := h', gens := g', drawn := d', toks := t' } := by
  obtain ⟨m, ⟨o, es, ep, ho, r⟩, _⟩ := id I.loc
  obtain ⟨sl, hL⟩ := u.any ho I.free fun z => (hch _ z).2.1 rfl
  exact I.step (ch := ch) hch (fun b o hL hb hc e n => u.keep b o e n (fun z => (List.mem_cons.mp (I.stkSub b z)).elim hL hb) hc) (fun b o _ _ hc e n => u.any e n hc) (fun b o hc e n => u.free b o e n hc) (fun b o hc e => u.there b o e hc) u.tups u.frzs u.tbls (fun m' hm => by
    obtain ⟨o', es', ep', ho', r'⟩ := hm
    rw [ho] at ho'; cases ho'
    exact ⟨_, es', ep', hL, r'⟩) hok hg
theorem Inv.turned {t' : Nat} {it : Addr} (I : Inv X pins σ H s) (k : ∀ b o, b ≠ it → s.heap.get? b = some o → h'.get? b = some o) (hn : H it = none) (hL : it ≠ X.env.locals)
    (h1 : it ∈ X.ex ∨ X.s₀.heap.objs.size ≤ it) (h2 : ∀ x c, X.env.cells.lookup x = some c → c ≠ it) (h3 : ∀ p ∈ X.pn ++ pins, p.1 ≠ it) : Inv X pins σ H { s with heap := h', toks := t' } := by
  have nit : ∀ b u, H b = some u → b ≠ it := fun b u e z => by rw [z, hn] at e; cases e
  refine I.step (g' := s.gens) (d' := s.drawn) (ch := [it]) (fun b hb => ?_) (fun b o _ _ hc e _ => k b o (fun z => hc (by simp [z])) e) (fun b o _ _ hc e _ => ⟨o.slots, k b o (fun z => hc (by simp [z])) e⟩) (fun _ _ _ _ n => n)
    (fun b o hc e => ⟨o, k b o (fun z => hc (by simp [z])) e⟩) (fun _ _ e => e) (fun _ _ _ e => e) (fun b ps e => ⟨#[], by rw [e]; simp⟩) (fun m hm => ?_) (fun b u e => ?_) I.bare
  · have e : b = it := by simpa using hb
    subst e
    exact ⟨h1, hL, h2, h3⟩
  · obtain ⟨o, es, ep, ho, r⟩ := hm
    exact ⟨o, es, ep, k _ o (Ne.symm hL) ho, r⟩
  · refine (I.hok b u e).stay (fun c v hc q => k c v ?_ q) (fun _ q => q) fun _ _ q => q
    rcases hc with z | z
    · rw [z]; exact nit b u e
    · exact nit c _ z
theorem Inv.tok (I : Inv X pins σ H s) (t : Nat) : Inv X pins σ H { s with toks := t } := I.un (h' := s.heap) (t' := t) Un.refl I.hok
theorem Inv.kept {t' : Nat} (I : Inv X pins σ H s) (k : ∀ b u, s.heap.get? b = some u → h'.get? b = some u) : Inv X pins σ H { s with heap := h', toks := t' } := I.un (Un.kept k) (I.hok.kept k)
theorem Inv.laid {a : Addr} {o : HO} {t' : Nat} (I : Inv X pins σ H s) (k : ∀ b u, s.heap.get? b = some u → h'.get? b = some u) (hp : s.heap.objs.size ≤ a) (new : ObjOk X.prog X.w (upd H a o) h' a o) :
    Inv X pins σ (upd H a o) { s with heap := h', toks := t' } := I.un (Un.laid k hp (I.hok.fresh hp)) (I.hok.laid k hp new)
theorem Inv.write {x e : Addr} {o : HO} {t' : Nat} (I : Inv X pins σ H s) (mu : Mut (H x)) (he : e = x ∨ H e = some (.own x)) (k : ∀ b u, b ≠ e → s.heap.get? b = some u → h'.get? b = some u) (heo : ∃ u, h'.get? e = some u)
    (new : ObjOk X.prog X.w (upd H x o) h' x o) : Inv X pins σ (upd H x o) { s with heap := h', toks := t' } := I.un (Un.write mu he k heo) (I.hok.write mu he k heo new)
theorem Inv.pins_of {pins' : List (Addr × Obj)} (I : Inv X pins σ H s) (h : ∀ p ∈ pins', s.heap.get? p.1 = some p.2 ∧ H p.1 = none ∧ p.1 ≠ X.env.locals ∧ p.1 ∉ X.fs ∧ ∀ v, p.2.data ≠ .cell v) : Inv X pins' σ H s :=
  ⟨I.ok, I.os, I.bare, I.base, I.loc, I.cell, I.free, I.freeC, fun p hp => (List.mem_append.mp hp).elim (fun z => I.pin p (List.mem_append_left _ z)) (h p), I.hok, I.len⟩
theorem nodup_ix {N : List Str} (hN : N.Nodup) {i j : Nat} {x : Str} (a : N[i]? = some x) (b : N[j]? = some x) : i = j := by
  obtain ⟨h1, e1⟩ := List.getElem?_eq_some_iff.mp a
  obtain ⟨h2, e2⟩ := List.getElem?_eq_some_iff.mp b
  exact (List.getElem_inj hN).mp (e1.trans e2.symm)
theorem store_ok2 {M : Model} {A : Around} {E : Value → Shared → Prop} {i : Nat} {x : Str} {v : V} {u : Value} {Q : Unit → Shared → Prop} (I : Inv X pins σ H s) (hN : X.N.Nodup) (hi : X.N[i]? = some x) (hx : Loc X.env.scope x) (r : RelV v u)
    (h : ∀ s', Inv X pins (σ.set i (some v)) H s' → (∃ a, Heap.SameBut a s.heap s'.heap ∧ (a = X.env.locals ∨ X.env.cells.lookup x = some a)) → Q () s') (hf : X.fn x = true ∨ X.env.scope.names.lookup x = some .local := by first | exact .inl rfl | exact .inr rfl | assumption) : wpAny M A (storeName X.env x u) Q E s := by
  obtain ⟨m, hn, hl⟩ := id I.loc
  have hcls : (X.env.scope.kind == .class || (X.env.scope.kind == .module && X.env.locals != X.env.globals)) = false := by rw [I.ok.kind]; rfl
  have hiσ : i < σ.length := by rw [I.len]; exact (List.getElem?_eq_some_iff.mp hi).1
  have cne := I.cne
  have tracked : ∀ {a : Addr} {h' : Heap}, (∃ o, s.heap.get? a = some o ∧ H a = none) → Heap.SameBut a s.heap h' → HOk X.prog X.w H h' := fun {a h'} ha hs b ob e => by
    obtain ⟨_, _, hfree⟩ := ha
    refine (I.hok b ob e).stay (fun c w' hc q => (hs.2 c ?_).trans q) (fun _ q => q) fun _ _ q => q
    rintro rfl
    rcases hc with rfl | hc
    · rw [hfree] at e; cases e
    · rw [hfree] at hc; cases hc
  rcases hx with hk | hk
  · refine wpAny_storeName_local hk hn (fun h' hn' hs => ?_) hcls
    obtain ⟨oL, _, _, hoL, _⟩ := id hn
    refine h _ ⟨I.ok, I.os, I.bare, ⟨fun b o e n hb hx => ?_, fun b o e n hb hx => ?_, I.base.free, fun b o e hx => ?_, I.base.tups, I.base.frzs, I.base.tbls⟩, ⟨_, hn', fun j y v' e1 e2 e3 => ?_⟩, fun y c e => ?_, I.free, I.freeC, fun p hp => ?_, tracked ⟨oL, hoL, I.free⟩ hs, by simpa using I.len⟩ ⟨_, hs, .inl rfl⟩
    · exact (hs.2 b (Nat.ne_of_lt (Nat.lt_of_lt_of_le (Heap.lt_size e) I.ok.above))).trans (I.base.keep b o e n hb hx)
    · obtain ⟨sl, e1⟩ := I.base.slot b o e n hb hx
      exact ⟨sl, (hs.2 b (Nat.ne_of_lt (Nat.lt_of_lt_of_le (Heap.lt_size e) I.ok.above))).trans e1⟩
    · obtain ⟨o', e1⟩ := I.base.there b o e hx
      exact ⟨o', (hs.2 b (Nat.ne_of_lt (Nat.lt_of_lt_of_le (Heap.lt_size e) I.ok.above))).trans e1⟩
    · by_cases hj : j = i
      · subst hj
        rw [hi] at e1; cases e1
        rw [List.getElem?_set_self hiσ] at e2
        cases e2
        exact ⟨u, r, .inl ⟨hk, by simp⟩⟩
      · rw [List.getElem?_set_ne (Ne.symm hj)] at e2
        obtain ⟨u', r', q⟩ := hl j y v' e1 e2 e3
        refine ⟨u', r', ?_⟩
        rcases q with ⟨k, e⟩ | ⟨k, c, e, z⟩
        · refine .inl ⟨k, ?_⟩
          have : y ≠ x := fun e => hj (nodup_ix hN e1 (e ▸ hi))
          simp [this, e]
        · exact .inr ⟨k, c, e, z.sameBut hs (cne y c e)⟩
    · obtain ⟨w', z⟩ := I.cell y c e
      exact ⟨w', z.sameBut hs (cne y c e)⟩
    · obtain ⟨e, n, ne, nf, d⟩ := I.pin p hp
      exact ⟨(hs.2 p.1 ne).trans e, n, ne, nf, d⟩
  · have hfn : X.fn x = true := by
      rcases hf with z | z
      · exact z
      · rw [z] at hk; cases hk
    obtain ⟨c, hc⟩ := I.ok.has x (.inl hk)
    obtain ⟨w', z⟩ := I.cell x c hc
    refine wpAny_storeName_cell I.ok.kind hk hc z (fun h' hc' hs => ?_)
    obtain ⟨oc, hoc, hocd⟩ := id z
    refine h { s with heap := h' } ⟨I.ok, I.os, I.bare, ⟨fun b o e n hb hx => ?_, fun b o e n hb hx => ?_, I.base.free, fun b o e hx => ?_, I.base.tups, I.base.frzs, I.base.tbls⟩, ⟨m, hn.sameBut hs (Ne.symm (cne x c hc)), fun j y v' e1 e2 e3 => ?_⟩, fun y c' e => ?_, I.free, I.freeC, fun p hp => ?_, tracked ⟨oc, hoc, I.freeC x c hc⟩ hs, by simpa using I.len⟩ ⟨c, hs, .inr hc⟩
    · exact (hs.2 b (Nat.ne_of_lt (Nat.lt_of_lt_of_le (Heap.lt_size e) (I.ok.cab x c hfn hc)))).trans (I.base.keep b o e n hb hx)
    · obtain ⟨sl, e1⟩ := I.base.slot b o e n hb hx
      exact ⟨sl, (hs.2 b (Nat.ne_of_lt (Nat.lt_of_lt_of_le (Heap.lt_size e) (I.ok.cab x c hfn hc)))).trans e1⟩
    · obtain ⟨o', e1⟩ := I.base.there b o e hx
      exact ⟨o', (hs.2 b (Nat.ne_of_lt (Nat.lt_of_lt_of_le (Heap.lt_size e) (I.ok.cab x c hfn hc)))).trans e1⟩
    · by_cases hj : j = i
      · subst hj
        rw [hi] at e1; cases e1
        rw [List.getElem?_set_self hiσ] at e2
        cases e2
        exact ⟨u, r, .inr ⟨.inl hk, c, hc, hc'⟩⟩
      · rw [List.getElem?_set_ne (Ne.symm hj)] at e2
        obtain ⟨u', r', q⟩ := hl j y v' e1 e2 e3
        refine ⟨u', r', ?_⟩
        rcases q with q | ⟨k, c', e, z'⟩
        · exact .inl q
        · refine .inr ⟨k, c', e, z'.sameBut hs ?_⟩
          rintro rfl
          exact hj (nodup_ix hN e1 (I.ok.inj _ _ _ e hc ▸ hi))
    · by_cases hcc : c' = c
      · subst hcc; exact ⟨_, hc'⟩
      · obtain ⟨w2, z2⟩ := I.cell y c' e
        exact ⟨w2, z2.sameBut hs hcc⟩
    · obtain ⟨e, n, ne, nf, d⟩ := I.pin p hp
      refine ⟨(hs.2 p.1 ?_).trans e, n, ne, nf, d⟩
      intro q
      rw [q, hoc] at e
      have q' : oc = p.2 := Option.some.inj e
      exact d w' (by rw [← q']; exact hocd)
theorem store_ok {M : Model} {A : Around} {E : Value → Shared → Prop} {i : Nat} {x : Str} {v : V} {u : Value} {Q : Unit → Shared → Prop} (I : Inv X pins σ H s) (hN : X.N.Nodup) (hi : X.N[i]? = some x) (hx : Loc X.env.scope x) (r : RelV v u)
    (h : ∀ s', Inv X pins (σ.set i (some v)) H s' → Q () s') (hf : X.fn x = true ∨ X.env.scope.names.lookup x = some .local := by first | exact .inl rfl | exact .inr rfl | assumption) : wpAny M A (storeName X.env x u) Q E s :=
  store_ok2 I hN hi hx r (fun s' I' _ => h s' I') hf
theorem Inv.call' {s' : Shared} {ch : List Addr} (I : Inv X pins σ H s) (ho : s'.os = s.os) (u : Un (frs X.stack) ch H H' s.heap s'.heap) (hok : HOk X.prog X.w H' s'.heap) (hg : AllBare s'.gens)
    (hch : ∀ b ∈ ch, (b ∈ X.ex ∨ X.s₀.heap.objs.size ≤ b) ∧ b ≠ X.env.locals ∧ (∀ x c, X.env.cells.lookup x = some c → c ≠ b) ∧ ∀ p ∈ X.pn ++ pins, p.1 ≠ b) : Inv X pins σ H' s' := by
  obtain ⟨h', g', d', t', o'⟩ := s'
  have e : o' = s.os := ho
  subst e
  exact I.call (g' := g') (t' := t') (d' := d') u hok hg hch
end
abbrev XK := Value → Option Addr → Hp → Prop
abbrev St := List (Option V)
abbrev VK := V → Hp → Prop
abbrev TE := St → Hp → VK → Prop
abbrev TT := St → Hp → (Bool → Hp → Prop) → Prop
abbrev TA := St → Hp → (List V → Hp → Prop) → Prop
structure Ends where
  nx : St → Hp → Prop
  rt : VK
  bk : St → Hp → Prop := fun _ _ => False
  ct : St → Hp → Prop := fun _ _ => False
abbrev TS := Ends → St → Hp → Prop
def EP (X : Cx) (pins : List (Addr × Obj)) (σ : St) (Q : VK) (u : Value) (s' : Shared) : Prop := ∃ v H', Inv X pins σ H' s' ∧ RelV v u ∧ Q v H'
def TP (X : Cx) (pins : List (Addr × Obj)) (σ : St) (Q : Bool → Hp → Prop) (b : Bool) (s' : Shared) : Prop := ∃ H', Inv X pins σ H' s' ∧ Q b H'
def AP (X : Cx) (pins : List (Addr × Obj)) (σ : St) (Q : List V → Hp → Prop) (us : List Value) (s' : Shared) : Prop := ∃ vs H', Inv X pins σ H' s' ∧ Vals vs us ∧ Q vs H'
def SP (X : Cx) (pins : List (Addr × Obj)) (D : Ends) (f : Flow) (s' : Shared) : Prop :=
  match f with
  | .next => ∃ σ' H', Inv X pins σ' H' s' ∧ D.nx σ' H'
  | .brk => ∃ σ' H', Inv X pins σ' H' s' ∧ D.bk σ' H'
  | .cont => ∃ σ' H', Inv X pins σ' H' s' ∧ D.ct σ' H'
  | .ret u => ∃ v σ' H', Inv X pins σ' H' s' ∧ RelV v u ∧ D.rt v H'
def PE (X : Cx) (e : Expr) (t : TE) : Prop :=
  ∀ (pins : List (Addr × Obj)) (s : Shared) (σ : St) (H : Hp) (Q : VK), Inv X pins σ H s → t σ H Q → wpAny (model X.prog X.w) X.A (eval e X.env) (EP X pins σ Q) X.xe s
def PT (X : Cx) (e : Expr) (t : TT) : Prop :=
  ∀ (pins : List (Addr × Obj)) (s : Shared) (σ : St) (H : Hp) (Q : Bool → Hp → Prop), Inv X pins σ H s → t σ H Q → wpAny (model X.prog X.w) X.A (isTrue e X.env (eval e X.env)) (TP X pins σ Q) X.xe s
def PW (X : Cx) (e : Expr) (t : TT) : Prop :=
  ∀ (whole : Sem Value) (pins : List (Addr × Obj)) (s : Shared) (σ : St) (H : Hp) (Q : Bool → Hp → Prop), Inv X pins σ H s → t σ H Q → wpAny (model X.prog X.w) X.A (isTrue e X.env whole) (TP X pins σ Q) X.xe s
theorem PW.pt {X : Cx} {e : Expr} {t : TT} (h : PW X e t) : PT X e t := h _
def PA (X : Cx) (es : List Expr) (t : TA) : Prop :=
  ∀ (pos : Pos) (pins : List (Addr × Obj)) (s : Shared) (σ : St) (H : Hp) (Q : List V → Hp → Prop), Inv X pins σ H s → t σ H Q → wpAny (model X.prog X.w) X.A (spliced (backTo pos (starEach es X.env))) (AP X pins σ Q) X.xe s
def PS (X : Cx) (st : Stmt) (t : TS) : Prop :=
  ∀ (pins : List (Addr × Obj)) (s : Shared) (σ : St) (H : Hp) (D : Ends), Inv X pins σ H s → t D σ H → wpAny (model X.prog X.w) X.A (exec st X.env) (SP X pins D) X.xe s
def PSs (X : Cx) (st : List Stmt) (t : TS) : Prop :=
  ∀ (pins : List (Addr × Obj)) (s : Shared) (σ : St) (H : Hp) (D : Ends), Inv X pins σ H s → t D σ H → wpAny (model X.prog X.w) X.A (execs st X.env) (SP X pins D) X.xe s
theorem thn {α : Type} {t : Sem α} {Q Q' : α → Shared → Prop} {M : Model} {A : Around} {E : Value → Shared → Prop} {s : Shared} (h : wpAny M A t Q E s) (hQ : ∀ a s, Q a s → Q' a s) : wpAny M A t Q' E s := wpAny_mono h hQ fun _ _ x => x
end L2
namespace L2
open PySem PySem.Spec PyProof.Rows
section
variable {X : Cx}
def tVar (i : Nat) : TE := fun σ H Q => ∃ v, σ[i]? = some (some v) ∧ Q v H
def tC (v : V) : TE := fun _ H Q => Q v H
theorem pe_var {i : Nat} {x : Str} {pos : Pos} (hN : X.N[i]? = some x) (hv : Vis X.env.scope x) (hd : (x == ("__debug__" : Str)) = false := by decide) (hcd : (x == ("__classdict__" : Str)) = false := by decide) : PE X (.Name x pos) (tVar i) := by
  intro pins s σ H Q I h
  obtain ⟨v, e, h⟩ := h
  obtain ⟨m, hn, hl⟩ := I.loc
  obtain ⟨u, r, l⟩ := hl i x v hN e hv
  have fin : EP X pins σ Q u s := ⟨v, H, I, r, h⟩
  rcases l with ⟨hk, hm⟩ | ⟨hk, c, hc, hcell⟩
  · exact wpAny_Name (wpAny_loadName_local I.ok.kind hk hn hm fin) hd
  · rcases hk with hk | hk
    · exact wpAny_Name (wpAny_loadName_cell I.ok.kind hk hc hcell fin) hd
    · exact wpAny_Name (wpAny_loadName_free I.ok.kind hk hc hcell fin hcd) hd
theorem pe_int {i j pos} : PE X (.Constant (.int i) j pos) (tC (.int i)) := fun _ _ _ H _ I h => wpAny_Constant_int ⟨.int i, H, I.tok _, ⟨_, rfl⟩, h⟩
theorem pe_bl {b j pos} : PE X (.Constant (.bool b) j pos) (tC (.bl b)) := fun _ _ _ H _ I h => Constant_bool ⟨.bl b, H, I, rfl, h⟩
theorem pe_non {j pos} : PE X (.Constant .none j pos) (tC .non) := fun _ _ _ H _ I h => Constant_none ⟨.non, H, I, rfl, h⟩
theorem pe_str {x j pos} : PE X (.Constant (.str x) j pos) (tC (.str x)) := fun _ _ _ H _ I h => Calls.Constant_str ⟨.str x, H, I.tok _, ⟨_, rfl⟩, h⟩
def Gl (X : Cx) (x : Str) : Prop := X.env.kindOf x = some .globalImplicit
theorem ld_glob {E : Value → Shared → Prop} {pins : List (Addr × Obj)} {s : Shared} {σ : St} {H : Hp} {x : Str} {u : Value} {pos : Pos} {Q : Value → Shared → Prop} (I : Inv X pins σ H s) (hg : Gl X x) (hm : X.mg x = some u) (h : Q u s)
    (hd : (x == ("__debug__" : Str)) = false := by decide) : wpAny (model X.prog X.w) X.A (eval (.Name x pos) X.env) Q E s :=
  Calls.Name_function_global I.ok.kind hg (Calls.loadGlobal_global (by rw [I.ok.glob]; exact I.mod.glob.keeps I.bk) hm h) hd
theorem ld_blt {E : Value → Shared → Prop} {pins : List (Addr × Obj)} {s : Shared} {σ : St} {H : Hp} {x : Str} {u : Value} {pos : Pos} {Q : Value → Shared → Prop} (I : Inv X pins σ H s) (hg : Gl X x) (hm : X.mg x = none) (hv : bootBuiltins x = some u) (h : Q u s)
    (hn : x ≠ "__name__" := by decide) (hd : (x == ("__debug__" : Str)) = false := by decide) : wpAny (model X.prog X.w) X.A (eval (.Name x pos) X.env) Q E s := by
  obtain ⟨mb, h1, h2⟩ := I.mod.blt
  exact Calls.Name_function_global I.ok.kind hg (Calls.loadGlobal_builtin (by rw [I.ok.glob]; exact I.mod.glob.keeps I.bk) hm (by rw [I.ok.blt]; exact h1.keeps I.bk) ((h2 x hn).trans hv) h) hd
theorem pe_glob {x : Str} {v : V} {u : Value} {pos : Pos} (hg : Gl X x) (hm : X.mg x = some u) (r : RelV v u) (hd : (x == ("__debug__" : Str)) = false := by decide) : PE X (.Name x pos) (tC v) :=
  fun _ _ _ H _ I h => ld_glob I hg hm ⟨v, H, I, r, h⟩ hd
theorem pe_bltn {x : Str} {v : V} {u : Value} {pos : Pos} (hg : Gl X x) (hm : X.mg x = none) (hv : bootBuiltins x = some u) (r : RelV v u) (hn : x ≠ "__name__" := by decide) (hd : (x == ("__debug__" : Str)) = false := by decide) : PE X (.Name x pos) (tC v) :=
  fun _ _ _ H _ I h => ld_blt I hg hm hv ⟨v, H, I, r, h⟩ hn hd
def t2I (ta tb : TE) (k : Int → Int → Hp → Prop) : St → Hp → Prop := fun σ H => ta σ H fun x H1 => tb σ H1 fun y H2 => ∃ i j, x = .int i ∧ y = .int j ∧ k i j H2
def tAdd (ta tb : TE) : TE := fun σ H Q => t2I ta tb (fun i j H2 => Q (.int (i + j)) H2) σ H
def tSub (ta tb : TE) : TE := fun σ H Q => t2I ta tb (fun i j H2 => Q (.int (i - j)) H2) σ H
def tMul (ta tb : TE) : TE := fun σ H Q => t2I ta tb (fun i j H2 => (-(2 ^ 64) < i ∧ i < 2 ^ 64) ∧ Q (.int (i * j)) H2) σ H
variable {a b : Expr} {ta tb : TE} {pos : Pos}
def PC (X : Cx) (op : CmpOp) (a b : Expr) (t : TE) : Prop :=
  ∀ (pins : List (Addr × Obj)) (s : Shared) (σ : St) (H : Hp) (Q : VK), Inv X pins σ H s → t σ H Q →
    wpAny (model X.prog X.w) X.A (eval a X.env) (fun v s₁ => wpAny (model X.prog X.w) X.A (eval b X.env) (fun u s₂ => wpAny (model X.prog X.w) X.A (compareOp op v u) (EP X pins σ Q) X.xe s₂) X.xe s₁) X.xe s
def tCmp (p : Int → Int → Bool) (ta tb : TE) : TE := fun σ H Q => t2I ta tb (fun i j H2 => Q (.bl (p i j)) H2) σ H
abbrev tLt : TE → TE → TE := tCmp fun i j => decide (i < j)
abbrev tLe : TE → TE → TE := tCmp fun i j => decide (i ≤ j)
abbrev tGt : TE → TE → TE := tCmp fun i j => decide (j < i)
abbrev tGe : TE → TE → TE := tCmp fun i j => decide (j ≤ i)
abbrev tEqI : TE → TE → TE := tCmp fun i j => decide (i = j)
abbrev tNeI : TE → TE → TE := tCmp fun i j => !decide (i = j)
def tIsN (ta : TE) : TE := fun σ H Q => ta σ H fun x H1 => Q (.bl (decide (x = .non))) H1
def tNotN (ta : TE) : TE := fun σ H Q => ta σ H fun x H1 => Q (.bl (!decide (x = .non))) H1
def tB (t : TE) : TT := fun σ H Q => t σ H fun x H1 => ∃ c, x = .bl c ∧ Q c H1
theorem pt_val {e : Expr} {t : TE} (h : PE X e t) (he : ∀ whole, isTrue e X.env whole = (do let v ← whole; standAt e.pos; holding [v] (truthy v)) := by intro _; rfl) : PT X e (tB t) := by
  intro pins s σ H Q I hw
  refine isTrue_plain (thn (h pins s σ H _ I hw) fun v s1 ⟨x, H1, I1, r1, q1⟩ => ?_) (he _)
  obtain ⟨d, rfl, q⟩ := q1
  cases r1
  exact wpAny_truthy_bool ⟨H1, I1, q⟩
variable {tA tB' : TT} {rest : List Expr}
def tAnd (t u : TT) : TT := fun σ H Q => t σ H fun c H1 => if c = true then u σ H1 Q else Q false H1
def tOr (t u : TT) : TT := fun σ H Q => t σ H fun c H1 => if c = true then Q true H1 else u σ H1 Q
def tNot (t : TT) : TT := fun σ H Q => t σ H fun c H1 => Q (!c) H1
theorem pw_or1 (ha : PT X a tA) : PW X (.BoolOp .Or [a] pos) tA := by
  intro wh pins s σ H Q I h
  refine isTrue_or (thn (ha pins s σ H Q I h) fun c s1 e => ?_)
  cases c with
  | false => exact isTrue_or_nil e
  | true => exact e
theorem pw_or (ha : PT X a tA) (hb : PW X (.BoolOp .Or (b :: rest) pos) tB') : PW X (.BoolOp .Or (a :: b :: rest) pos) (tOr tA tB') := by
  intro wh pins s σ H Q I h
  refine isTrue_or (thn (ha pins s σ H _ I h) fun c s1 ⟨H1, I1, q1⟩ => ?_)
  cases c with
  | true => exact ⟨H1, I1, q1⟩
  | false => exact hb wh pins s1 σ H1 Q I1 q1
theorem pt_not (ha : PT X a tA) : PT X (.UnaryOp .Not a pos) (tNot tA) := by
  intro pins s σ H Q I h
  exact isTrue_not (ha pins s σ H (fun c H1 => Q (!c) H1) I h)
def tAndV (ta tb : TE) : TE := fun σ H Q => ta σ H fun x H1 => ∃ c, x = .bl c ∧ if c = true then tb σ H1 Q else Q (.bl false) H1
def tOrV (ta tb : TE) : TE := fun σ H Q => ta σ H fun x H1 => ∃ c, x = .bl c ∧ if c = true then Q (.bl true) H1 else tb σ H1 Q
def tNotV (ta : TE) : TE := fun σ H Q => ta σ H fun x H1 => ∃ c, x = .bl c ∧ Q (.bl (!c)) H1
theorem pe_one {op} {t : TE} (h : PE X a t) : PE X (.BoolOp op [a] pos) t := fun pins s σ H Q I hw => BoolOp_one (h pins s σ H Q I hw)
theorem pe_and (ha : PE X a ta) (hb : PE X (.BoolOp .And (b :: rest) pos) tb) : PE X (.BoolOp .And (a :: b :: rest) pos) (tAndV ta tb) := by
  intro pins s σ H Q I h
  refine BoolOp_and (thn (ha pins s σ H _ I h) fun v s1 ⟨x, H1, I1, r1, q1⟩ => ?_)
  obtain ⟨c, rfl, q1⟩ := q1
  cases r1
  refine wpAny_truthy_bool ?_
  cases c with
  | true => exact hb pins s1 σ H1 Q I1 q1
  | false => exact ⟨.bl false, H1, I1, rfl, q1⟩
theorem pe_not (ha : PE X a ta) : PE X (.UnaryOp .Not a pos) (tNotV ta) := by
  intro pins s σ H Q I h
  refine UnaryOp_ (thn (ha pins s σ H _ I h) fun v s1 ⟨x, H1, I1, r1, q1⟩ => ?_)
  obtain ⟨c, rfl, q1⟩ := q1
  cases r1
  exact not_of (wpAny_truthy_bool ⟨.bl (!c), H1, I1, rfl, q1⟩)
def tIf (t : TT) (ta tb : TE) : TE := fun σ H Q => t σ H fun c H1 => if c = true then ta σ H1 Q else tb σ H1 Q
end
end L2
namespace L2
open PySem PySem.Spec PyProof.Rows
def SqL (K : PySem.W.Frag) (H : Hp) (a : Addr) (xs : List V) : Prop :=
  Rd H a (.lst xs) ∨
    ∃ (o : Obj) (its : Array Value) (n : Nat), K.lookup a = some o ∧ o.cls = .type "list" ∧ o.dict = none ∧ o.data = .seq its n ∧ its.size ≤ sizeLine ∧ Vals xs its.toList
def SqT (K : PySem.W.Frag) (H : Hp) (a : Addr) (xs : List V) : Prop :=
  Rd H a (.tup xs) ∨
    ∃ (o : Obj) (its : Array Value) (n : Nat), K.lookup a = some o ∧ o.cls = .type "tuple" ∧ o.data = .seq its n ∧ its.size ≤ sizeLine ∧ Vals xs its.toList
def absV : Value → Option V
  | .none => some .non
  | .bool b => some (.bl b)
  | .int i _ => some (.int i)
  | .str x _ => some (.str x)
  | .bytes b _ => some (.byt b)
  | .float b _ => some (.flt b)
  | .ref a => some (.ref a)
  | .type n => some (.ty n)
  | _ => none
theorem RelV.abs {x : V} {u : Value} (r : RelV x u) : absV u = some x := by
  cases x with
  | non => cases r; rfl
  | bl _ => cases r; rfl
  | int _ => obtain ⟨t, rfl⟩ := r; rfl
  | str _ => obtain ⟨t, rfl⟩ := r; rfl
  | byt _ => obtain ⟨t, rfl⟩ := r; rfl
  | flt _ => obtain ⟨t, rfl⟩ := r; rfl
  | ref _ => cases r; rfl
  | ty _ => cases r; rfl
theorem RelV.inj {x y : V} {u : Value} (r : RelV x u) (q : RelV y u) : x = y := Option.some.inj (r.abs.symm.trans q.abs)
theorem Vals.inj : ∀ {xs ys : List V} {us : List Value}, Vals xs us → Vals ys us → xs = ys
  | _, _, _, .nil, .nil => rfl
  | _, _, _, .cons r t, .cons r' t' => by rw [r.inj r', Vals.inj t t']
section
variable {X : Cx} {pins : List (Addr × Obj)} {σ : St} {H : Hp} {s : Shared} {a : Addr} {xs ys : List V}
theorem SqL.of {K : PySem.W.Frag} (h : H a = some (.lst xs)) : SqL K H a xs := .inl (.inl h)
theorem SqT.of {K : PySem.W.Frag} (h : H a = some (.tup xs)) : SqT K H a xs := .inl (.inl h)
theorem Inv.list (I : Inv X pins σ H s) (h : SqL X.K H a xs) : ∃ its : List Value, Vals xs its ∧ PlainL s.heap a its.toArray ∧ xs.length ≤ sizeLine := by
  rcases h with h | ⟨o, its, n, hk, hc, hd, hs, hz, r⟩
  · obtain ⟨z, its, n, r, e⟩ := h.ok I.hok
    exact ⟨its, r, ⟨_, n, e, rfl, rfl, rfl⟩, z⟩
  · refine ⟨its.toList, r, ⟨o, n, I.kIn a o hk, hc, hd, by simpa using hs⟩, ?_⟩
    have e := r.length
    simp only [Array.length_toList] at e
    omega
theorem Inv.tuple (I : Inv X pins σ H s) (h : SqT X.K H a xs) : ∃ its : List Value, Vals xs its ∧ IsTup s.heap a its.toArray ∧ xs.length ≤ sizeLine := by
  rcases h with h | ⟨o, its, n, hk, hc, hs, hz, r⟩
  · obtain ⟨z, its, r, p⟩ := h.ok I.hok
    exact ⟨its, r, p, z⟩
  · refine ⟨its.toList, r, ⟨o, I.kIn a o hk, hc, n, by simpa using hs⟩, ?_⟩
    have e := r.length
    simp only [Array.length_toList] at e
    omega
theorem Inv.list_inj (I : Inv X pins σ H s) (h : SqL X.K H a xs) (h' : SqL X.K H a ys) : xs = ys := by
  obtain ⟨its, r, ⟨o, n, e, _, _, d⟩, _⟩ := I.list h
  obtain ⟨its', r', ⟨o', n', e', _, _, d'⟩, _⟩ := I.list h'
  rw [e] at e'; cases e'
  rw [d] at d'
  injection d' with d1 _
  have : its = its' := by simpa using congrArg Array.toList d1
  subst this
  exact r.inj r'
theorem Inv.tuple_inj (I : Inv X pins σ H s) (h : SqT X.K H a xs) (h' : SqT X.K H a ys) : xs = ys := by
  obtain ⟨its, r, ⟨o, e, _, n, d⟩, _⟩ := I.tuple h
  obtain ⟨its', r', ⟨o', e', _, n', d'⟩, _⟩ := I.tuple h'
  rw [e] at e'; cases e'
  rw [d] at d'
  injection d' with d1 _
  have : its = its' := by simpa using congrArg Array.toList d1
  subst this
  exact r.inj r'
end
abbrev Cx.wish (X : Cx) (E : Value → Shared → Prop) : Cx := { X with xe := E }
abbrev Cx.nox (X : Cx) : Cx := X.wish fun _ _ => False
theorem Cx.Ok.wish {X : Cx} (ok : X.Ok) (E : Value → Shared → Prop) : (X.wish E).Ok :=
  ⟨ok.mod, ok.kind, ok.glob, ok.blt, ok.above, ok.inj, ok.has, ok.cab, ok.hd, ok.frames, ok.stk, ok.exf, ok.bs, ok.bsz, ok.noex, ok.exfs, ok.funs, ok.frf⟩
theorem Cx.Ok.unwish {X : Cx} {E : Value → Shared → Prop} (ok : (X.wish E).Ok) : X.Ok :=
  ⟨ok.mod, ok.kind, ok.glob, ok.blt, ok.above, ok.inj, ok.has, ok.cab, ok.hd, ok.frames, ok.stk, ok.exf, ok.bs, ok.bsz, ok.noex, ok.exfs, ok.funs, ok.frf⟩
section
variable {X : Cx} {pins : List (Addr × Obj)} {σ : St} {H : Hp} {s : Shared} {E : Value → Shared → Prop}
theorem Inv.wish (I : Inv X pins σ H s) (E : Value → Shared → Prop) : Inv (X.wish E) pins σ H s := ⟨I.ok.wish E, I.os, I.bare, I.base, I.loc, I.cell, I.free, I.freeC, I.pin, I.hok, I.len⟩
theorem Inv.unwish (I : Inv (X.wish E) pins σ H s) : Inv X pins σ H s := ⟨I.ok.unwish, I.os, I.bare, I.base, I.loc, I.cell, I.free, I.freeC, I.pin, I.hok, I.len⟩
theorem SP.unwish {D : Ends} {f : Flow} {s' : Shared} (h : SP (X.wish E) pins D f s') : SP X pins D f s' := by
  cases f with
  | next => obtain ⟨σ', H', I, q⟩ := h; exact ⟨σ', H', I.unwish, q⟩
  | brk => obtain ⟨σ', H', I, q⟩ := h; exact ⟨σ', H', I.unwish, q⟩
  | cont => obtain ⟨σ', H', I, q⟩ := h; exact ⟨σ', H', I.unwish, q⟩
  | ret u => obtain ⟨v, σ', H', I, r, q⟩ := h; exact ⟨v, σ', H', I.unwish, r, q⟩
theorem PSs.nox {st : List Stmt} {t : TS} (h : PSs X.nox st t) : PSs X st t := fun pins s σ H D I hw =>
  wpAny_mono (h pins s σ H D (I.wish _) hw) (fun _ _ q => q.unwish) fun _ _ z => False.elim z
end
section
variable {X : Cx} {st : Stmt} {rest : List Stmt} {t u : TS} {e : Expr} {te : TE} {pos : Pos}
def tNext : TS := fun D σ H => D.nx σ H
def tSeq (t u : TS) : TS := fun D σ H => t { D with nx := u D } σ H
theorem pss_nil : PSs X [] tNext := fun _ _ σ H _ I h => wpAny_execs_nil ⟨σ, H, I, h⟩
theorem pss_cons (h1 : PS X st t) (h2 : PSs X rest u) : PSs X (st :: rest) (tSeq t u) := by
  intro pins s σ H D I h
  refine wpAny_execs_cons (thn (h1 pins s σ H { D with nx := u D } I h) fun f s1 q => ?_)
  cases f with
  | next =>
    obtain ⟨σ', H', I', q⟩ := q
    exact h2 pins s1 σ' H' D I' q
  | ret v => exact q
  | brk => exact q
  | cont => exact q
theorem pss_one (h1 : PS X st t) : PSs X [st] t := by
  intro pins s σ H D I h
  refine wpAny_execs_cons (thn (h1 pins s σ H D I h) fun f s1 q => ?_)
  cases f with
  | next => exact wpAny_execs_nil q
  | ret v => exact q
  | brk => exact q
  | cont => exact q
def tBreak : TS := fun D σ H => D.bk σ H
def tCont : TS := fun D σ H => D.ct σ H
theorem Inv.quiet {pins : List (Addr × Obj)} {σ : St} {H : Hp} {s : Shared} (I : Inv X pins σ H s) : interactive X.env = false := by simp [interactive, I.ok.kind]
def tDrop (te : TE) : TS := fun D σ H => te σ H fun _ H1 => D.nx σ H1
theorem ps_expr (he : PE X e te) (hs : swapsWith e none pos.line X.env = pure false := by rfl) : PS X (.Expr e pos) (tDrop te) := by
  intro pins s σ H D I h
  exact wpAny_Expr_any (thn (he pins s σ H _ I h) fun v s1 ⟨x, H1, I1, r1, q1⟩ => ⟨σ, H1, I1, q1⟩) I.quiet hs
def tRet (te : TE) : TS := fun D σ H => te σ H D.rt
theorem ps_ret (he : PE X e te) : PS X (.Return (some e) pos) (tRet te) := by
  intro pins s σ H D I h
  exact wpAny_Return_some (thn (he pins s σ H _ I h) fun v s1 ⟨x, H1, I1, r1, q1⟩ => ⟨x, σ, H1, I1, r1, q1⟩)
def tRetN : TS := fun D _ H => D.rt .non H
def tIfS (c : TT) (t u : TS) : TS := fun D σ H => c σ H fun b H1 => if b = true then t D σ H1 else u D σ H1
theorem ps_if {c : Expr} {a b : List Stmt} {tc : TT} (hc : PT X c tc) (ha : PSs X a t) (hb : PSs X b u) : PS X (.If c a b pos) (tIfS tc t u) := by
  intro pins s σ H D I h
  refine wpAny_If (thn (hc pins s σ H _ I h) fun d s1 ⟨H1, I1, q1⟩ => ?_)
  cases d with
  | true => exact ha pins s1 σ H1 D I1 q1
  | false => exact hb pins s1 σ H1 D I1 q1
def tNever : TS := fun _ _ _ => False
end
abbrev TG := V → St → Hp → (St → Hp → Prop) → Prop
abbrev TGs := List V → St → Hp → (St → Hp → Prop) → Prop
def PG (X : Cx) (target : Expr) (t : TG) : Prop :=
  ∀ (pins : List (Addr × Obj)) (s : Shared) (σ : St) (H : Hp) (v : V) (u : Value) (Q : St → Hp → Prop), Inv X pins σ H s → RelV v u → t v σ H Q →
    wpAny (model X.prog X.w) X.A (assign target X.env u) (fun _ s' => ∃ σ' H', Inv X pins σ' H' s' ∧ Q σ' H') X.xe s
def PGs (X : Cx) (ts : List Expr) (t : TGs) : Prop :=
  ∀ (pins : List (Addr × Obj)) (s : Shared) (σ : St) (H : Hp) (vs : List V) (us : List Value) (Q : St → Hp → Prop), Inv X pins σ H s → Vals vs us → t vs σ H Q →
    wpAny (model X.prog X.w) X.A (assignInOrder ((assignEach ts X.env).map (·.2)) us) (fun _ s' => ∃ σ' H', Inv X pins σ' H' s' ∧ Q σ' H') X.xe s
abbrev TSet := V → V → V → Hp → (Hp → Prop) → Prop
def PSet (X : Cx) (t : TSet) : Prop :=
  ∀ (pins : List (Addr × Obj)) (s : Shared) (σ : St) (H : Hp) (o i v : V) (ov iv u : Value) (Q : Hp → Prop), Inv X pins σ H s → RelV o ov → RelV i iv → RelV v u → t o i v H Q →
    wpAny (model X.prog X.w) X.A (setItem ov iv u) (fun _ s' => ∃ H', Inv X pins σ H' s' ∧ Q H') X.xe s
abbrev TIp := V → V → Hp → VK → Prop
def PIp (X : Cx) (op : Operator) (t : TIp) : Prop :=
  ∀ (pins : List (Addr × Obj)) (s : Shared) (σ : St) (H : Hp) (x y : V) (v u : Value) (Q : VK), Inv X pins σ H s → RelV x v → RelV y u → t x y H Q →
    wpAny (model X.prog X.w) X.A (inplaceOp op v u) (EP X pins σ Q) X.xe s
section
variable {X : Cx} {pos : Pos}
def gName (i : Nat) : TG := fun v σ H Q => Q (σ.set i (some v)) H
theorem pg_name {i : Nat} {x : Str} (hN : X.N.Nodup) (hi : X.N[i]? = some x) (hx : Loc X.env.scope x) (hf : X.fn x = true ∨ X.env.scope.names.lookup x = some .local := by first | exact .inl rfl | exact .inr rfl | assumption) : PG X (.Name x pos) (gName i) := by
  intro pins s σ H v u Q I r h
  exact wpAny_assign_Name (store_ok I hN hi hx r (fun s' I' => ⟨_, H, I', h⟩) hf)
def gNil : TGs := fun vs σ H Q => vs = [] ∧ Q σ H
def gCons (t : TG) (u : TGs) : TGs := fun vs σ H Q => ∃ v r, vs = v :: r ∧ t v σ H fun σ' H' => u r σ' H' Q
theorem pgs_nil : PGs X [] gNil := by
  intro pins s σ H vs us Q I r h
  obtain ⟨e, h⟩ := h
  subst e
  cases r
  exact assignInOrder_nil ⟨σ, H, I, h⟩
theorem pgs_cons {e : Expr} {es : List Expr} {t : TG} {u : TGs} (h1 : PG X e t) (h2 : PGs X es u)
    (hs : (assignEach (e :: es) X.env).map (·.2) = assign e X.env :: (assignEach es X.env).map (·.2) := by rfl) : PGs X (e :: es) (gCons t u) := by
  intro pins s σ H vs us Q I r h
  obtain ⟨v, vr, e1, h⟩ := h
  subst e1
  cases r with
  | cons r rr =>
    rw [hs]
    refine assignInOrder_cons (thn (h1 pins s σ H _ _ _ I r h) fun _ s1 ⟨σ1, H1, I1, q1⟩ => ?_)
    exact h2 pins s1 σ1 H1 _ _ Q I1 rr q1
def gTup (K : PySem.W.Frag) (n : Nat) (t : TGs) : TG := fun v σ H Q => ∃ a xs, v = .ref a ∧ SqT K H a xs ∧ xs.length = n ∧ t xs σ H Q
theorem pg_tup {es : List Expr} {k : Nat} {t : TGs} {n : Nat} (hc : X.calm = true) (h : PGs X es t)
    (hn : (assignEach es X.env).length = n := by rfl) (hst : (assignEach es X.env).findIdx? (·.1) = none := by rfl) : PG X (.Tuple es k pos) (gTup X.K n t) := by
  intro pins s σ H v u Q I r hw
  obtain ⟨a, xs, e1, hq, hl, hw⟩ := hw
  subst e1
  cases r
  obtain ⟨its, rv, ht, hz⟩ := I.tuple hq
  refine assign_Tuple_tuple (I.ok.hd hc) ht (by simp [hn, ← hl, rv.length]) hst fun h' hx => ?_
  have I1 : Inv X pins σ H { s with heap := h' } := I.kept (t' := s.toks) fun b o e => hx b o (Nat.ne_of_lt (Heap.lt_size e)) e
  exact h pins _ σ H xs _ Q I1 (by simpa using rv) hw
def gSub (to ti : TE) (t : TSet) : TG := fun v σ H Q => to σ H fun o H1 => ti σ H1 fun i H2 => t o i v H2 fun H3 => Q σ H3
theorem pg_sub {o i : Expr} {to ti : TE} {t : TSet} (ho : PE X o to) (hi : PE X i ti) (hs : PSet X t)
    (ha : ∀ v, assign (.Subscript o i pos) X.env v = (do
      let ov ← holding [v] (eval o X.env)
      let iv ← holding [v, ov] (eval i X.env)
      standAt pos
      holding [v, ov, iv] (setItem ov iv v)
      release [v, ov, iv] []) := by intro _; rfl) : PG X (.Subscript o i pos) (gSub to ti t) := by
  intro pins s σ H v u Q I r h
  rw [ha]
  refine wpAny_bind (wpAny_holding (thn (ho pins s σ H _ I h) fun ov s1 ⟨x, H1, I1, r1, q1⟩ => ?_))
  refine wpAny_bind (wpAny_holding (thn (hi pins s1 σ H1 _ I1 q1) fun iv s2 ⟨y, H2, I2, r2, q2⟩ => ?_))
  refine wpAny_bind (wpAny_standAt (wpAny_bind (wpAny_holding (thn (hs pins s2 σ H2 x y v ov iv u _ I2 r1 r2 r q2) fun _ s3 ⟨H3, I3, q3⟩ => ?_))))
  exact wpAny_release ⟨σ, H3, I3, q3⟩
def tAsg (te : TE) (g : TG) : TS := fun D σ H => te σ H fun x H1 => g x σ H1 D.nx
theorem ps_asg {tg e : Expr} {te : TE} {g : TG} (he : PE X e te) (hg : PG X tg g) (hs : swapsWithSole [tg] e pos.line X.env = pure false := by rfl) (hw : swappedStores [tg] e X.env = pure none := by rfl)
    (h1 : (assignEach [tg] X.env).map (·.2) = [assign tg X.env] := by rfl) : PS X (.Assign [tg] e pos) (tAsg te g) := by
  intro pins s σ H D I h
  refine wpAny_Assign_stores (thn (he pins s σ H _ I h) fun v s1 ⟨x, H1, I1, r1, q1⟩ => ?_) hs hw
  rw [h1]
  exact thn (hg pins s1 σ H1 x v _ I1 r1 q1) fun _ s2 q => q
theorem ps_set {i : Nat} {x : Str} {e : Expr} {te : TE} {pos' : Pos} (hN : X.N.Nodup) (hi : X.N[i]? = some x) (hx : Loc X.env.scope x) (he : PE X e te) (hs : swapsWith e (some (.Name x pos')) pos.line X.env = pure false := by rfl) (hf : X.fn x = true ∨ X.env.scope.names.lookup x = some .local := by first | exact .inl rfl | exact .inr rfl | assumption) :
    PS X (.Assign [.Name x pos'] e pos) (tAsg te (gName i)) := by
  intro pins s σ H D I h
  refine wpAny_Assign_Name (thn (he pins s σ H _ I h) fun v s1 ⟨y, H1, I1, r1, q1⟩ => ?_) hs
  exact store_ok I1 hN hi hx r1 (fun s2 I2 => ⟨_, H1, I2, q1⟩) hf
def tPar (i j : Nat) (ta : TA) : TS := fun D σ H => ta σ H fun vs H1 => ∃ v w, vs = [v, w] ∧ D.nx ((σ.set i (some v)).set j (some w)) H1
theorem ps_par {i j : Nat} {x y : Str} {a b : Expr} {ta : TA} {px py pt : Pos} {kt k2 pt2} (hc : X.calm = true) (hN : X.N.Nodup) (hi : X.N[i]? = some x) (hj : X.N[j]? = some y) (hij : i ≠ j)
    (hx : X.env.scope.names.lookup x = some .local) (hy : X.env.scope.names.lookup y = some .local) (ha : PA X [a, b] ta)
    (hw : swappedStores [.Tuple [.Name x px, .Name y py] kt pt] (.Tuple [a, b] k2 pt2) X.env = pure (some [x, y]))
    (hs : swapsWithSole [.Tuple [.Name x px, .Name y py] kt pt] (.Tuple [a, b] k2 pt2) pos.line X.env = pure false := by rfl) :
    PS X (.Assign [.Tuple [.Name x px, .Name y py] kt pt] (.Tuple [a, b] k2 pt2) pos) (tPar i j ta) := by
  intro pins s σ H D I h
  rw [exec_Assign_arm]
  refine wpAny_bind (wpAny_standAt ?_)
  rw [hs]
  refine wpAny_bind (wpAny_pure ?_)
  rw [if_neg (by decide)]
  refine wpAny_bind (Tuple_ (thn (ha _ pins s σ H _ I h) fun us s1 ⟨vs, H1, I1, r1, q1⟩ => ?_))
  obtain ⟨v, w, e1, q1⟩ := q1
  subst e1
  obtain ⟨u1, u2, rfl, rv, rw'⟩ : ∃ u1 u2, us = [u1, u2] ∧ RelV v u1 ∧ RelV w u2 := by
    cases r1 with
    | cons p q =>
      cases q with
      | cons p' q' =>
        cases q'
        exact ⟨_, _, rfl, p, p'⟩
  refine wpAny_newObj_type ?_ (by show 2 ≤ sizeLine; decide)
  have I2 : Inv X pins σ H1 { s1 with heap := s1.heap.push { cls := .type "tuple", data := .seq [u1, u2].toArray } } := I1.kept (t' := s1.toks) fun b o e => Heap.get?_push_of_some _ e
  rw [hw]
  refine wpAny_bind (wpAny_pure ?_)
  show wpAny (model X.prog X.w) X.A (do rule "assign.swapped-stores"; let items ← unpackItems (.ref s1.heap.objs.size) 2 none; assignInOrder [fun v => bindName X.env y v, fun v => bindName X.env x v] items.reverse; pure Flow.next) _ _ _
  refine wpAny_bind (wpAny_rule (wpAny_bind (unpackItems_tuple (items := #[u1, u2]) (I.ok.hd hc) (IsTup.new s1.heap _) fun h' hx' => ?_)))
  have I3 := I2.kept (h' := h') (t' := s1.toks) fun b o e => hx' b o (Nat.ne_of_lt (Heap.lt_size e)) e
  show wpAny _ _ (assignInOrder [fun v => bindName X.env y v, fun v => bindName X.env x v] [u2, u1] >>= fun _ => pure Flow.next) _ _ _
  refine wpAny_bind (assignInOrder_cons (wpAny_bindName (store_ok I3 hN hj (.inl hy) rw' (fun s2 I4 => ?_) (.inr hy))))
  refine assignInOrder_cons (wpAny_bindName (store_ok I4 hN hi (.inl hx) rv (fun s3 I5 => assignInOrder_nil (wpAny_pure ?_)) (.inr hx)))
  rw [List.set_comm _ _ (Ne.symm hij)] at I5
  exact ⟨_, H1, I5, q1⟩
def tAug (i : Nat) (te : TE) (ti : TIp) : TS := fun D σ H => ∃ x, σ[i]? = some (some x) ∧ te σ H fun y H1 => ti x y H1 fun z H2 => D.nx (σ.set i (some z)) H2
def tAugS (to ti te : TE) (tget : V → V → Hp → VK → Prop) (tip : TIp) (tset : TSet) : TS := fun D σ H => to σ H fun o H1 => ti σ H1 fun i H2 => tget o i H2 fun x H3 => te σ H3 fun y H4 => tip x y H4 fun z H5 => tset o i z H5 fun H6 => D.nx σ H6
def PGet (X : Cx) (t : V → V → Hp → VK → Prop) : Prop :=
  ∀ (pins : List (Addr × Obj)) (s : Shared) (σ : St) (H : Hp) (o i : V) (ov iv : Value) (Q : VK), Inv X pins σ H s → RelV o ov → RelV i iv → t o i H Q →
    wpAny (model X.prog X.w) X.A (getItem ov iv) (EP X pins σ Q) X.xe s
def ipI (f : Int → Int → Int) : TIp := fun x y H Q => ∃ i j, x = .int i ∧ y = .int j ∧ Q (.int (f i j)) H
end
section
variable {X : Cx} {pos : Pos}
def tWhile (c : TT) (tb : TS) : TS := fun D σ H => ∃ W : Nat → St → Hp → Prop, (∃ m, W m σ H) ∧ ∀ m σ H, W m σ H →
  c σ H fun b H1 => if b = true then ∃ N : St → Hp → Prop, (∀ σ' H', N σ' H' → ∃ m', m' < m ∧ W m' σ' H') ∧ tb { D with nx := N, ct := N, bk := D.nx } σ H1 else D.nx σ H1
theorem ps_while {c : Expr} {body : List Stmt} {tc : TT} {tb : TS} (hp : PassesOwn (model X.prog X.w) X.A X.env X.xe) (hc : PT X c tc) (hb : PSs X body tb) : PS X (.While c body [] pos) (tWhile tc tb) := by
  intro pins s σ H D I h
  obtain ⟨W, ⟨m0, w0⟩, turn⟩ := h
  refine wpAny_While (codeAny_whileLoop (fun n s' => ∃ σ' H', Inv X pins σ' H' s' ∧ W n σ' H') ?_ m0 ⟨σ, H, I, w0⟩)
  rintro n s1 ⟨σ1, H1, I1, w1⟩
  refine wpAny_passesOwn hp (thn (hc pins s1 σ1 H1 _ I1 (turn n σ1 H1 w1)) fun b s2 ⟨H2, I2, q2⟩ => ?_)
  cases b with
  | true =>
    obtain ⟨N, hN, q2⟩ := q2
    rw [if_pos rfl]
    refine wpAny_passesOwn hp (thn (hb pins s2 σ1 H2 _ I2 q2) fun f s3 q3 => ?_)
    cases f with
    | next =>
      obtain ⟨σ3, H3, I3, n3⟩ := q3
      obtain ⟨m', hm, w3⟩ := hN σ3 H3 n3
      exact ⟨m', hm, σ3, H3, I3, w3⟩
    | cont =>
      obtain ⟨σ3, H3, I3, n3⟩ := q3
      obtain ⟨m', hm, w3⟩ := hN σ3 H3 n3
      exact ⟨m', hm, σ3, H3, I3, w3⟩
    | brk => exact q3
    | ret v => exact q3
  | false =>
    rw [if_neg Bool.false_ne_true]
    exact wpAny_execs_nil ⟨σ1, H2, I2, q2⟩
end
structure It where
  go : Nat → Hp → Prop
  yld : Nat → Hp → V → Hp → Prop
  stop : Nat → Hp → Prop
def FpOk (X : Cx) (pins : List (Addr × Obj)) (H : Hp) (b : Addr) : Prop :=
  H b = none ∧ b ≠ X.env.locals ∧ b ∉ X.fs ∧ (b ∈ X.ex ∨ X.s₀.heap.objs.size ≤ b) ∧ (∀ x c, X.env.cells.lookup x = some c → c ≠ b) ∧ ∀ p ∈ X.pn ++ pins, p.1 ≠ b
theorem Inv.fpOk {X : Cx} {pins : List (Addr × Obj)} {σ : St} {H H' : Hp} {s : Shared} {b : Addr} (I : Inv X pins σ H s) (hb : s.heap.objs.size ≤ b) (hn : H' b = none) : FpOk X pins H' b := by
  refine ⟨hn, Nat.ne_of_gt (Nat.lt_of_lt_of_le I.lt hb), I.nofs hb, .inr (Nat.le_trans I.sz hb), fun x c e z => ?_, fun p hp z => ?_⟩
  · obtain ⟨v, q⟩ := I.cell x c e
    exact absurd (Nat.lt_of_lt_of_le q.lt (by rw [z]; exact hb)) (Nat.lt_irrefl _)
  · exact absurd (Nat.lt_of_lt_of_le (Heap.lt_size (I.pin p hp).1) (by rw [z]; exact hb)) (Nat.lt_irrefl _)
structure Turn (P : Program) (w : World) (K : PySem.W.Frag) (tg : Expr) (J : It) (fp : List Addr) (it : Addr) (tn : Nat → Heap → Prop) : Prop where
  mem : it ∈ fp
  obj : ∀ i h, tn i h → ∀ b ∈ fp, ∃ o, h.get? b = some o ∧ ∀ v, o.data ≠ .cell v
  keep : ∀ i h h', tn i h → (∀ b ∈ fp, ∀ o, h.get? b = some o → h'.get? b = some o) → tn i h'
  item : ∀ (X : Cx), X.prog = P → X.w = w → X.K = K → X.calm = true → ∀ (i : Nat) (pins : List (Addr × Obj)) (s : Shared) (σ : St) (H : Hp) (E : Value → Shared → Prop), Inv X pins σ H s → (∀ b ∈ fp, FpOk X pins H b) → tn i s.heap → J.go i H →
    wpAny (model P w) X.A (pyNext (.ref it)) (fun r s1 => ∃ u, r = some u ∧
      wpAny (model P w) X.A (letOwnedTupleGo tg (.ref it) u) (fun _ s2 => ∃ x H', Inv X pins σ H' s2 ∧ RelV x u ∧ J.yld i H x H' ∧ tn (i + 1) s2.heap ∧ ∀ b ∈ fp, H' b = none) E s1) E s
  done : ∀ (X : Cx), X.prog = P → X.w = w → X.K = K → X.calm = true → ∀ (i : Nat) (pins : List (Addr × Obj)) (s : Shared) (σ : St) (H : Hp) (E : Value → Shared → Prop), Inv X pins σ H s → (∀ b ∈ fp, FpOk X pins H b) → tn i s.heap → J.stop i H →
    wpAny (model P w) X.A (pyNext (.ref it)) (fun r s1 => r = none ∧ Inv X pins σ H s1) E s
  self : ∀ (A : Around) (i : Nat) (s : Shared) (Q : Value → Shared → Prop) (E : Value → Shared → Prop), tn i s.heap → Q (.ref it) s → wpAny (model P w) A (pyIter (.ref it)) Q E s
abbrev TI := St → Hp → (It → Hp → Prop) → Prop
def PIE (X : Cx) (pins : List (Addr × Obj)) (σ : St) (tg : Expr) (R : It → Hp → Prop) (itv : Value) (s2 : Shared) : Prop :=
  ∃ (it : Addr) (fp : List Addr) (tn : Nat → Heap → Prop) (J : It) (H' : Hp), itv = .ref it ∧ Inv X pins σ H' s2 ∧ Turn X.prog X.w X.K tg J fp it tn ∧ tn 0 s2.heap ∧ (∀ b ∈ fp, FpOk X pins H' b) ∧ R J H'
def PI (X : Cx) (tg iter : Expr) (wi : TI) : Prop :=
  ∀ (pins : List (Addr × Obj)) (s : Shared) (σ : St) (H : Hp) (R : It → Hp → Prop), Inv X pins σ H s → wi σ H R →
    wpAny (model X.prog X.w) X.A (eval iter X.env) (fun v s1 => wpAny (model X.prog X.w) X.A (pyIter v) (PIE X pins σ tg R) X.xe s1) X.xe s
theorem go_of {M : Model} {A : Around} {E : Value → Shared → Prop} {s : Shared} {tg : Expr} {it : Addr} {u : Value} {o : Obj} {n : String} {vs : Array Value} {Q : Unit → Shared → Prop} (ho : s.heap.get? it = some o) (hc : o.cls = .type n) (hd : o.data = .fields vs)
    (hn : ["enumerate", "zip", "dict_itemiterator", "dict_reverseitemiterator", "odict_iterator", "itertools.zip_longest", "itertools.pairwise"].contains n = false) (hQ : Q () s) : wpAny M A (letOwnedTupleGo tg (.ref it) u) Q E s := by
  unfold letOwnedTupleGo
  cases tg <;> first
    | exact wpAny_pure hQ
    | (cases u <;> first
        | exact wpAny_pure hQ
        | (refine wpAny_bind (wpAny_load ho ?_)
           rw [hc, hd]
           show wpAny M A (if (["enumerate", "zip", "dict_itemiterator", "dict_reverseitemiterator", "odict_iterator", "itertools.zip_longest", "itertools.pairwise"].contains n && vs[0]? == some (rawInt _)) = true then _ else _) Q E s
           rw [if_neg (by intro h; rw [hn, Bool.false_and] at h; cases h)]
           exact wpAny_pure hQ))
def Itl (K : PySem.W.Frag) (a : Addr) : It :=
  ⟨fun i H => ∃ xs x, SqL K H a xs ∧ xs[i]? = some x, fun i H x H' => H' = H ∧ ∀ xs, SqL K H a xs → xs[i]? = some x, fun i H => ∃ xs, SqL K H a xs ∧ xs.length ≤ i⟩
def Itt (K : PySem.W.Frag) (a : Addr) : It :=
  ⟨fun i H => ∃ xs x, SqT K H a xs ∧ xs[i]? = some x, fun i H x H' => H' = H ∧ ∀ xs, SqT K H a xs → xs[i]? = some x, fun i H => ∃ xs, SqT K H a xs ∧ xs.length ≤ i⟩
def Itr (lo : Int) (n : Nat) : It := ⟨fun i _ => i < n, fun i H x H' => H' = H ∧ x = .int (lo + i), fun i _ => n ≤ i⟩
theorem turn_list {P : Program} {w : World} {K : PySem.W.Frag} {tg : Expr} (a it : Addr) : Turn P w K tg (Itl K a) [it] it (fun i h => h.IsListIter it a i) where
  mem := by simp
  obj := fun i h st b hb => by
    have e : b = it := by simpa using hb
    subst e
    obtain ⟨o, e, c, d⟩ := st
    exact ⟨o, e, fun v z => by rw [d] at z; cases z⟩
  keep := fun i h h' st k => st.at fun o e => k it (by simp) o e
  item := by
    intro X hP hw hK hc i pins s σ H E I hf st hg
    subst hP hw hK
    obtain ⟨xs, x, hq, hx⟩ := hg
    obtain ⟨its, rv, p, hz⟩ := I.list hq
    obtain ⟨u, hu, ru⟩ := rv.get hx
    obtain ⟨f0, f1, f2, f3, f4, f5⟩ := hf it (by simp)
    refine wpAny_pyNext_list_item st p.isList (x := u) (by simpa using hu) fun h' st' sb => ?_
    have I1 : Inv X pins σ H { s with heap := h' } := I.turned (t' := s.toks) (fun b o hb e => (sb.2 b hb).trans e) f0 f1 f3 f4 f5
    obtain ⟨o, e, c, d⟩ := id st'
    exact ⟨u, rfl, go_of (s := { s with heap := h' }) e c d (by decide) ⟨x, H, I1, ru, ⟨rfl, fun ys hy => by rw [I.list_inj hy hq]; exact hx⟩, st', fun b hb => (hf b hb).1⟩⟩
  done := by
    intro X hP hw hK hc i pins s σ H E I hf st hg
    subst hP hw hK
    obtain ⟨xs, hq, hx⟩ := hg
    obtain ⟨its, rv, p, hz⟩ := I.list hq
    obtain ⟨f0, f1, f2, f3, f4, f5⟩ := hf it (by simp)
    have hl := rv.length
    exact wpAny_pyNext_list_end (I.ok.hd hc) st p.isList (by simp; omega) fun h' eb => ⟨rfl, I.turned (t' := s.toks) (fun b o hb e => eb b o hb e) f0 f1 f3 f4 f5⟩
  self := fun _ _ _ _ _ st h => wpAny_pyIter_listiter st h
theorem turn_tuple {P : Program} {w : World} {K : PySem.W.Frag} {tg : Expr} (a it : Addr) : Turn P w K tg (Itt K a) [it] it (fun i h => h.IsTupleIter it a i) where
  mem := by simp
  obj := fun i h st b hb => by
    have e : b = it := by simpa using hb
    subst e
    obtain ⟨o, e, c, d⟩ := st
    exact ⟨o, e, fun v z => by rw [d] at z; cases z⟩
  keep := fun i h h' st k => st.at fun o e => k it (by simp) o e
  item := by
    intro X hP hw hK hc i pins s σ H E I hf st hg
    subst hP hw hK
    obtain ⟨xs, x, hq, hx⟩ := hg
    obtain ⟨its, rv, p, hz⟩ := I.tuple hq
    obtain ⟨u, hu, ru⟩ := rv.get hx
    obtain ⟨f0, f1, f2, f3, f4, f5⟩ := hf it (by simp)
    refine wpAny_pyNext_tuple_item st (show s.heap.IsTuple a its.toArray from p) (x := u) (by simpa using hu) fun h' st' sb => ?_
    have I1 : Inv X pins σ H { s with heap := h' } := I.turned (t' := s.toks) (fun b o hb e => (sb.2 b hb).trans e) f0 f1 f3 f4 f5
    obtain ⟨o, e, c, d⟩ := id st'
    exact ⟨u, rfl, go_of (s := { s with heap := h' }) e c d (by decide) ⟨x, H, I1, ru, ⟨rfl, fun ys hy => by rw [I.tuple_inj hy hq]; exact hx⟩, st', fun b hb => (hf b hb).1⟩⟩
  done := by
    intro X hP hw hK hc i pins s σ H E I hf st hg
    subst hP hw hK
    obtain ⟨xs, hq, hx⟩ := hg
    obtain ⟨its, rv, p, hz⟩ := I.tuple hq
    obtain ⟨f0, f1, f2, f3, f4, f5⟩ := hf it (by simp)
    have hl := rv.length
    exact wpAny_pyNext_tuple_end (I.ok.hd hc) st (show s.heap.IsTuple a its.toArray from p) (by simp; omega) fun h' eb => ⟨rfl, I.turned (t' := s.toks) (fun b o hb e => eb b o hb e) f0 f1 f3 f4 f5⟩
  self := fun _ _ _ _ _ st h => wpAny_pyIter_tupleiter st h
theorem turn_range {P : Program} {w : World} {K : PySem.W.Frag} {tg : Expr} (it : Addr) (lo : Int) (n : Nat) : Turn P w K tg (Itr lo n) [it] it (fun i h => IsRangeIter h it (lo + (i : Nat) * 1) ((n : Int) - (i : Nat)) 1) where
  mem := by simp
  obj := fun i h st b hb => by
    have e : b = it := by simpa using hb
    subst e
    exact ⟨_, st, fun v z => by
      have z' : Data.fields _ = Data.cell v := z
      cases z'⟩
  keep := fun i h h' st k => k it (by simp) _ st
  item := by
    intro X hP hw hK hc i pins s σ H E I hf st hg
    subst hP hw hK
    obtain ⟨f0, f1, f2, f3, f4, f5⟩ := hf it (by simp)
    have W := Walks.range (prog := X.prog) (w := X.w) (I.ok.hd hc) it lo 1 n
    refine W.item i s _ _ hg st fun v h' tk hv st' kk => ?_
    obtain ⟨t, rfl⟩ := hv
    have I1 : Inv X pins σ H { s with heap := h', toks := tk } := I.turned (fun b o hb e => kk b o (by simpa using hb) e) f0 f1 f3 f4 f5
    refine ⟨_, rfl, go_of (s := { s with heap := h', toks := tk }) (n := "range_iterator") st' rfl rfl (by decide) ⟨.int (lo + i), H, I1, ⟨t, ?_⟩, ⟨rfl, rfl⟩, st', fun b hb => (hf b hb).1⟩⟩
    rw [Int.mul_one]
  done := by
    intro X hP hw hK hc i pins s σ H E I hf st hg
    subst hP hw hK
    obtain ⟨f0, f1, f2, f3, f4, f5⟩ := hf it (by simp)
    exact wpAny_pyNext_range_end (I.ok.hd hc) st (by have : n ≤ i := hg; omega) fun h' eb => ⟨rfl, I.turned (t' := s.toks) (fun b o hb e => eb b o hb e) f0 f1 f3 f4 f5⟩
  self := fun _ _ _ _ _ st h => wpAny_pyIter_rangeiter st h
end L2
namespace L2
open PySem PySem.Spec PyProof.Rows
section
variable {X : Cx} {tg : Expr}
def iList (K : PySem.W.Frag) (tl : TE) : TI := fun σ H R => tl σ H fun x H1 => ∃ a, x = .ref a ∧ (∃ xs, SqL K H1 a xs) ∧ R (Itl K a) H1
def iTup (K : PySem.W.Frag) (tl : TE) : TI := fun σ H R => tl σ H fun x H1 => ∃ a, x = .ref a ∧ (∃ xs, SqT K H1 a xs) ∧ R (Itt K a) H1
theorem pi_list {l : Expr} {tl : TE} (hl : PE X l tl) : PI X tg l (iList X.K tl) := by
  intro pins s σ H R I h
  refine thn (hl pins s σ H _ I h) fun v s1 ⟨x, H1, I1, r1, q1⟩ => ?_
  obtain ⟨a, e, ⟨xs, hq⟩, q⟩ := q1
  subst e
  cases r1
  obtain ⟨its, rv, p, hz⟩ := I1.list hq
  refine wpAny_pyIter_list p.isList ?_
  refine ⟨s1.heap.objs.size, [s1.heap.objs.size], _, _, H1, rfl, I1.kept (t' := s1.toks) fun b o e => Heap.get?_push_of_some _ e, turn_list a _, ⟨_, Heap.get?_push_size _ rfl, rfl, rfl⟩, fun b hb => ?_, q⟩
  have e : b = s1.heap.objs.size := by simpa using hb
  subst e
  exact I1.fpOk (Nat.le_refl _) (I1.hok.fresh (Nat.le_refl _))
theorem pi_tup {l : Expr} {tl : TE} (hl : PE X l tl) : PI X tg l (iTup X.K tl) := by
  intro pins s σ H R I h
  refine thn (hl pins s σ H _ I h) fun v s1 ⟨x, H1, I1, r1, q1⟩ => ?_
  obtain ⟨a, e, ⟨xs, hq⟩, q⟩ := q1
  subst e
  cases r1
  obtain ⟨its, rv, p, hz⟩ := I1.tuple hq
  refine wpAny_pyIter_tuple (show s1.heap.IsTuple a its.toArray from p) ?_
  refine ⟨s1.heap.objs.size, [s1.heap.objs.size], _, _, H1, rfl, I1.kept (t' := s1.toks) fun b o e => Heap.get?_push_of_some _ e, turn_tuple a _, ⟨_, Heap.get?_push_size _ rfl, rfl, rfl⟩, fun b hb => ?_, q⟩
  have e : b = s1.heap.objs.size := by simpa using hb
  subst e
  exact I1.fpOk (Nat.le_refl _) (I1.hok.fresh (Nat.le_refl _))
theorem range_it {pins : List (Addr × Obj)} {σ : St} {H : Hp} {s : Shared} {R : It → Hp → Prop} {E : Value → Shared → Prop} {lo hi : Int} {t u v : Tok} {tk : Nat} (I : Inv X pins σ H s) (h1 : -(2 ^ 62) ≤ lo) (h2 : lo < 2 ^ 62) (h3 : -(2 ^ 62) ≤ hi) (h4 : hi < 2 ^ 62)
    (q : R (Itr lo (hi - lo).toNat) H) : wpAny (model X.prog X.w) X.A (pyIter (.ref s.heap.objs.size)) (PIE X pins σ tg R) E { s with heap := s.heap.push { cls := .type "range", data := .fields #[.int lo t, .int hi u, .int 1 v] }, toks := tk } := by
  refine wpAny_pyIter_range (IsRange.new ..) (small_one h1 h2 h3 h4) ?_
  have I1 : Inv X pins σ H { s with heap := s.heap.push { cls := .type "range", data := .fields #[.int lo t, .int hi u, .int 1 v] }, toks := tk } := I.kept fun b o e => Heap.get?_push_of_some _ e
  refine ⟨(s.heap.push { cls := .type "range", data := .fields #[.int lo t, .int hi u, .int 1 v] }).objs.size, [(s.heap.push { cls := .type "range", data := .fields #[.int lo t, .int hi u, .int 1 v] }).objs.size], _, _, H, rfl,
    I1.kept (t' := tk) fun b o e => Heap.get?_push_of_some _ e, turn_range _ lo (hi - lo).toNat, ?_, fun b hb => ?_, q⟩
  · have e1 : lo + ((0 : Nat) : Int) * 1 = lo := by simp
    have e2 : (((hi - lo).toNat : Nat) : Int) - ((0 : Nat) : Int) = Builtin.Range.rangeSize lo hi 1 := by rw [rangeSize_one]; split <;> omega
    show IsRangeIter _ _ (lo + ((0 : Nat) : Int) * 1) ((((hi - lo).toNat : Nat) : Int) - ((0 : Nat) : Int)) 1
    rw [e1, e2]
    exact Heap.get?_push_size _ rfl
  · have e : b = (s.heap.push { cls := .type "range", data := .fields #[.int lo t, .int hi u, .int 1 v] }).objs.size := by simpa using hb
    subst e
    exact I1.fpOk (Nat.le_refl _) (I1.hok.fresh (Nat.le_refl _))
def iRng1 (ta : TA) : TI := fun σ H R => ta σ H fun vs H1 => ∃ j : Int, vs = [.int j] ∧ -(2 ^ 62) ≤ j ∧ j < 2 ^ 62 ∧ R (Itr 0 j.toNat) H1
def iRng2 (ta : TA) : TI := fun σ H R => ta σ H fun vs H1 => ∃ i j : Int, vs = [.int i, .int j] ∧ (-(2 ^ 62) ≤ i ∧ i < 2 ^ 62 ∧ -(2 ^ 62) ≤ j ∧ j < 2 ^ 62) ∧ R (Itr i (j - i).toNat) H1
theorem pi_range1 {a : Expr} {ta : TA} {p pos : Pos} (hg : Gl X "range") (hm : X.mg "range" = none) (ha : PA X [a] ta) (hs : starEach [a] X.env = [(false, eval a X.env)] := by rfl) : PI X tg (.Call (.Name "range" p) [a] [] pos) (iRng1 ta) := by
  intro pins s σ H R I h
  refine Call_ (ld_blt I hg hm boot_range (PyProof.Rows.callWith_type1 (thn (ha pos pins s σ H _ I h) fun us s1 ⟨vs, H1, I1, r1, q1⟩ => ?_) hs rfl))
  obtain ⟨j, e, q1, q2, q⟩ := q1
  subst e
  cases r1 with
  | cons r rr =>
    cases rr
    obtain ⟨t, rfl⟩ := r
    exact call_range_1 (range_it I1 (by omega) (by omega) q1 q2 (by simpa using q))
theorem pi_range2 {a b : Expr} {ta : TA} {p pos : Pos} (hg : Gl X "range") (hm : X.mg "range" = none) (ha : PA X [a, b] ta) (hs : starEach [a, b] X.env = [(false, eval a X.env), (false, eval b X.env)] := by rfl) (hs2 : starEach [b] X.env = [(false, eval b X.env)] := by rfl) :
    PI X tg (.Call (.Name "range" p) [a, b] [] pos) (iRng2 ta) := by
  intro pins s σ H R I h
  refine Call_ (ld_blt I hg hm boot_range (PyProof.Rows.callWith_type1 (thn (ha pos pins s σ H _ I h) fun us s1 ⟨vs, H1, I1, r1, q1⟩ => ?_) (by rw [hs, hs2]) (by rw [hs2]; rfl)))
  obtain ⟨i, j, e, ⟨q1, q2, q3, q4⟩, q⟩ := q1
  subst e
  cases r1 with
  | cons r rr =>
    cases rr with
    | cons r' rr =>
      cases rr
      obtain ⟨t, rfl⟩ := r
      obtain ⟨t', rfl⟩ := r'
      exact call_range_2 (range_it I1 q1 q2 q3 q4 q)
def tFor (wi : TI) (g : TG) (tb : TS) : TS := fun D σ H => wi σ H fun J H1 => ∃ W : Nat → Nat → St → Hp → Prop, (∃ m, W 0 m σ H1) ∧ ∀ i m σ H, W i m σ H →
  (J.stop i H ∧ D.nx σ H) ∨ (J.go i H ∧ ∃ N : St → Hp → Prop, (∀ σ' H', N σ' H' → ∃ m', m' < m ∧ W (i + 1) m' σ' H') ∧ ∀ x H', J.yld i H x H' → g x σ H' fun σ2 H2 => tb { D with nx := N, ct := N, bk := D.nx } σ2 H2)
def pinsAt (fp : List Addr) (h : Heap) : List (Addr × Obj) := fp.filterMap fun b => (h.get? b).map fun o => (b, o)
theorem mem_pinsAt {fp : List Addr} {h : Heap} {b : Addr} {o : Obj} (hb : b ∈ fp) (e : h.get? b = some o) : (b, o) ∈ pinsAt fp h := List.mem_filterMap.mpr ⟨b, hb, by rw [e]; rfl⟩
theorem of_pinsAt {fp : List Addr} {h : Heap} {p : Addr × Obj} (hp : p ∈ pinsAt fp h) : p.1 ∈ fp ∧ h.get? p.1 = some p.2 := by
  obtain ⟨b, hb, e⟩ := List.mem_filterMap.mp hp
  cases q : h.get? b with
  | none => rw [q] at e; cases e
  | some o =>
    rw [q] at e
    have e' : (b, o) = p := Option.some.inj e
    subst e'
    exact ⟨hb, q⟩
theorem Inv.pinned {pins : List (Addr × Obj)} {σ : St} {H : Hp} {s : Shared} {fp : List Addr} (I : Inv X pins σ H s) (hf : ∀ b ∈ fp, FpOk X pins H b) (ho : ∀ b ∈ fp, ∃ o, s.heap.get? b = some o ∧ ∀ v, o.data ≠ .cell v) : Inv X (pins ++ pinsAt fp s.heap) σ H s :=
  I.pins_of fun p hp => (List.mem_append.mp hp).elim (fun z => I.pin p (List.mem_append_right _ z)) fun z => by
    obtain ⟨hb, e⟩ := of_pinsAt z
    obtain ⟨f0, f1, f2, _⟩ := hf p.1 hb
    obtain ⟨o, e', d⟩ := ho p.1 hb
    rw [e] at e'; cases e'
    exact ⟨e, f0, f1, f2, d⟩
theorem Inv.unpinned {pins pl : List (Addr × Obj)} {σ : St} {H : Hp} {s : Shared} (I : Inv X (pins ++ pl) σ H s) : Inv X pins σ H s := I.pins_of fun p hp => I.pin p (List.mem_append_right _ (List.mem_append_left _ hp))
theorem ps_for {iter : Expr} {body : List Stmt} {wi : TI} {g : TG} {tb : TS} {pos : Pos} (hp : PassesOwn (model X.prog X.w) X.A X.env X.xe) (hc : X.calm = true) (hi : PI X tg iter wi) (hg : PG X tg g) (hb : PSs X body tb)
    (hs : ∀ x, foldedSetIterable iter X.env x = pure x := by intro _; rfl) : PS X (.For tg iter body [] pos) (tFor wi g tb) := by
  intro pins s σ H D I h
  refine wpAny_For (thn (hi pins s σ H _ I h) fun v s1 h1 => thn h1 fun itv s2 h2 => ?_) hs
  obtain ⟨it, fp, tn, J, H2, e, I2, T, st2, f2, W, ⟨m0, w0⟩, turn⟩ := h2
  subst e
  have stat : ∀ {H' : Hp}, (∀ b ∈ fp, H' b = none) → ∀ b ∈ fp, FpOk X pins H' b := fun hn b hb => ⟨hn b hb, (f2 b hb).2⟩
  refine codeAny_forLoop_any (fun n s' => ∃ i σ' H', Inv X pins σ' H' s' ∧ tn i s'.heap ∧ (∀ b ∈ fp, H' b = none) ∧ W i n σ' H') ?_ m0 ⟨0, σ, H2, I2, st2, fun b hb => (f2 b hb).1, w0⟩
  rintro n s3 ⟨i, σ3, H3, I3, st3, fr3, w3⟩
  rcases turn i n σ3 H3 w3 with ⟨stop, qn⟩ | ⟨go, N, hN, step⟩
  · refine wpAny_passesOwn hp (thn (T.done X rfl rfl rfl hc i pins s3 σ3 H3 X.xe I3 (stat fr3) st3 stop) fun r s4 ⟨hr, I4⟩ => ?_)
    subst hr
    exact wpAny_execs_nil ⟨σ3, H3, I4, qn⟩
  · refine wpAny_passesOwn hp (thn (T.item X rfl rfl rfl hc i pins s3 σ3 H3 X.xe I3 (stat fr3) st3 go) fun r s4 ⟨u, hr, h4⟩ => ?_)
    subst hr
    refine wpAny_passesOwn hp (thn h4 fun _ s5 ⟨x, H5, I5, r5, y5, st5, fr5⟩ => ?_)
    have I5' := I5.pinned (stat fr5) (T.obj _ _ st5)
    refine wpAny_passesOwn hp (thn (hg _ s5 σ3 H5 x u _ I5' r5 (step x H5 y5)) fun _ s6 ⟨σ6, H6, I6, q6⟩ => ?_)
    refine wpAny_passesOwn hp (thn (hb _ s6 σ6 H6 _ I6 q6) fun f s7 q7 => ?_)
    have again : ∀ {σ7 : St} {H7 : Hp}, Inv X (pins ++ pinsAt fp s5.heap) σ7 H7 s7 → N σ7 H7 → ∃ m, m < n ∧ ∃ i σ' H', Inv X pins σ' H' s7 ∧ tn i s7.heap ∧ (∀ b ∈ fp, H' b = none) ∧ W i m σ' H' := fun {σ7 H7} I7 n7 => by
      obtain ⟨m', hm, w7⟩ := hN σ7 H7 n7
      refine ⟨m', hm, i + 1, σ7, H7, I7.unpinned, T.keep _ _ _ st5 fun b hb o e => (I7.pin (b, o) (List.mem_append_right _ (List.mem_append_right _ (mem_pinsAt hb e)))).1, fun b hb => ?_, w7⟩
      obtain ⟨o, e, d⟩ := T.obj _ _ st5 b hb
      exact (I7.pin (b, o) (List.mem_append_right _ (List.mem_append_right _ (mem_pinsAt hb e)))).2.1
    cases f with
    | next => obtain ⟨σ7, H7, I7, n7⟩ := q7; exact again I7 n7
    | cont => obtain ⟨σ7, H7, I7, n7⟩ := q7; exact again I7 n7
    | brk => obtain ⟨σ7, H7, I7, q7⟩ := q7; exact ⟨σ7, H7, I7.unpinned, q7⟩
    | ret v => obtain ⟨x7, σ7, H7, I7, r7, q7⟩ := q7; exact ⟨x7, σ7, H7, I7.unpinned, r7, q7⟩
end
theorem for_list {K : PySem.W.Frag} {a : Addr} {xs : List V} {g : TG} {tb : TS} {D : Ends} {σ : St} {H : Hp} (Pv : Nat → St → Hp → Prop) (h0 : Pv 0 σ H) (hl : ∀ i σ H, i ≤ xs.length → Pv i σ H → SqL K H a xs)
    (hs : ∀ i x σ H, xs[i]? = some x → Pv i σ H → g x σ H fun σ2 H2 => tb { D with nx := Pv (i + 1), ct := Pv (i + 1), bk := D.nx } σ2 H2) (hd : ∀ σ H, Pv xs.length σ H → D.nx σ H) :
    ∃ W : Nat → Nat → St → Hp → Prop, (∃ m, W 0 m σ H) ∧ ∀ i m σ H, W i m σ H →
      ((Itl K a).stop i H ∧ D.nx σ H) ∨ ((Itl K a).go i H ∧ ∃ N : St → Hp → Prop, (∀ σ' H', N σ' H' → ∃ m', m' < m ∧ W (i + 1) m' σ' H') ∧ ∀ x H', (Itl K a).yld i H x H' → g x σ H' fun σ2 H2 => tb { D with nx := N, ct := N, bk := D.nx } σ2 H2) := by
  refine ⟨fun i m σ H => m = xs.length - i ∧ i ≤ xs.length ∧ Pv i σ H, ⟨xs.length, by simp, Nat.zero_le _, h0⟩, ?_⟩
  rintro i m σ H ⟨rfl, hi, p⟩
  have q := hl i σ H hi p
  by_cases hlt : i < xs.length
  · refine .inr ⟨⟨xs, xs[i], q, by simp [hlt]⟩, Pv (i + 1), fun σ' H' p' => ⟨xs.length - (i + 1), by omega, rfl, hlt, p'⟩, fun x H' y => ?_⟩
    obtain ⟨e, y⟩ := y
    subst e
    exact hs i x σ _ (y xs q) p
  · have e : i = xs.length := by omega
    subst e
    exact .inl ⟨⟨xs, q, Nat.le_refl _⟩, hd σ H p⟩
theorem for_range {lo : Int} {n : Nat} {g : TG} {tb : TS} {D : Ends} {σ : St} {H : Hp} (Pv : Nat → St → Hp → Prop) (h0 : Pv 0 σ H)
    (hs : ∀ i σ H, i < n → Pv i σ H → g (.int (lo + i)) σ H fun σ2 H2 => tb { D with nx := Pv (i + 1), ct := Pv (i + 1), bk := D.nx } σ2 H2) (hd : ∀ σ H, Pv n σ H → D.nx σ H) :
    ∃ W : Nat → Nat → St → Hp → Prop, (∃ m, W 0 m σ H) ∧ ∀ i m σ H, W i m σ H →
      ((Itr lo n).stop i H ∧ D.nx σ H) ∨ ((Itr lo n).go i H ∧ ∃ N : St → Hp → Prop, (∀ σ' H', N σ' H' → ∃ m', m' < m ∧ W (i + 1) m' σ' H') ∧ ∀ x H', (Itr lo n).yld i H x H' → g x σ H' fun σ2 H2 => tb { D with nx := N, ct := N, bk := D.nx } σ2 H2) := by
  refine ⟨fun i m σ H => m = n - i ∧ i ≤ n ∧ Pv i σ H, ⟨n, by simp, Nat.zero_le _, h0⟩, ?_⟩
  rintro i m σ H ⟨rfl, hi, p⟩
  by_cases hlt : i < n
  · refine .inr ⟨hlt, Pv (i + 1), fun σ' H' p' => ⟨n - (i + 1), by omega, rfl, hlt, p'⟩, fun x H' y => ?_⟩
    obtain ⟨e, y⟩ := y
    subst e y
    exact hs i σ _ hlt p
  · have e : i = n := by omega
    subst e
    exact .inl ⟨Nat.le_refl _, hd σ H p⟩
theorem while_by {c : TT} {tb : TS} {D : Ends} {σ : St} {H : Hp} (Pv : St → Hp → Prop) (μ : St → Hp → Nat) (h0 : Pv σ H)
    (hs : ∀ σ H, Pv σ H → c σ H fun b H1 => if b = true then tb { D with nx := fun σ' H' => Pv σ' H' ∧ μ σ' H' < μ σ H, ct := fun σ' H' => Pv σ' H' ∧ μ σ' H' < μ σ H, bk := D.nx } σ H1 else D.nx σ H1)
    (mono : ∀ σ H Q Q', (∀ b H1, Q b H1 → Q' b H1) → c σ H Q → c σ H Q') : tWhile c tb D σ H := by
  refine ⟨fun m σ H => m = μ σ H ∧ Pv σ H, ⟨_, rfl, h0⟩, ?_⟩
  rintro m σ H ⟨rfl, p⟩
  refine mono σ H _ _ (fun b H1 q => ?_) (hs σ H p)
  cases b with
  | true => exact ⟨_, fun σ' H' ⟨p', l⟩ => ⟨_, l, rfl, p'⟩, q⟩
  | false => exact q
end L2
namespace L2
open PySem PySem.Spec PyProof.Rows
abbrev R2 := V → V → Hp → VK → Prop
def OpR (X : Cx) (f : Value → Value → Sem Value) (r : R2) : Prop :=
  ∀ (pins : List (Addr × Obj)) (s : Shared) (σ : St) (H : Hp) (x y : V) (v u : Value) (Q : VK), Inv X pins σ H s → RelV x v → RelV y u → r x y H Q →
    wpAny (model X.prog X.w) X.A (f v u) (EP X pins σ Q) X.xe s
def UnR (X : Cx) (f : Value → Sem Value) (r : V → Hp → VK → Prop) : Prop :=
  ∀ (pins : List (Addr × Obj)) (s : Shared) (σ : St) (H : Hp) (x : V) (v : Value) (Q : VK), Inv X pins σ H s → RelV x v → r x H Q →
    wpAny (model X.prog X.w) X.A (f v) (EP X pins σ Q) X.xe s
def CallR (X : Cx) (f : Value) (r : List V → Hp → VK → Prop) : Prop :=
  ∀ (pins : List (Addr × Obj)) (s : Shared) (σ : St) (H : Hp) (xs : List V) (us : List Value) (Q : VK), Inv X pins σ H s → Vals xs us → r xs H Q →
    wpAny (model X.prog X.w) X.A (call f us) (EP X pins σ Q) X.xe s
def TruR (X : Cx) (r : V → Hp → (Bool → Hp → Prop) → Prop) : Prop :=
  ∀ (pins : List (Addr × Obj)) (s : Shared) (σ : St) (H : Hp) (x : V) (v : Value) (Q : Bool → Hp → Prop), Inv X pins σ H s → RelV x v → r x H Q →
    wpAny (model X.prog X.w) X.A (truthy v) (TP X pins σ Q) X.xe s
def tOp (r : R2) (ta tb : TE) : TE := fun σ H Q => ta σ H fun x H1 => tb σ H1 fun y H2 => r x y H2 Q
def tUn (r : V → Hp → VK → Prop) (ta : TE) : TE := fun σ H Q => ta σ H fun x H1 => r x H1 Q
def rI (C : Int → Int → Prop) (g : Int → Int → V) : R2 := fun x y H Q => ∃ i j, x = .int i ∧ y = .int j ∧ C i j ∧ Q (g i j) H
def rI0 (g : Int → Int → V) : R2 := fun x y H Q => ∃ i j, x = .int i ∧ y = .int j ∧ Q (g i j) H
def rU (g : Int → V) : V → Hp → VK → Prop := fun x H Q => ∃ i, x = .int i ∧ Q (g i) H
section
variable {X : Cx} {a b c : Expr} {ta tb tc : TE} {pos : Pos}
theorem binT (ha : PE X a ta) (hb : PE X b tb) {pins : List (Addr × Obj)} {s : Shared} {σ : St} {H : Hp} {R : V → V → Hp → Prop} (I : Inv X pins σ H s)
    (h : ta σ H fun x H1 => tb σ H1 fun y H2 => R x y H2) {Q : Value → Shared → Prop} {f : Value → Value → Sem Value}
    (hf : ∀ v u s2 x y H2, Inv X pins σ H2 s2 → RelV x v → RelV y u → R x y H2 → wpAny (model X.prog X.w) X.A (f v u) Q X.xe s2) :
    wpAny (model X.prog X.w) X.A (eval a X.env) (fun v s₁ => wpAny (model X.prog X.w) X.A (eval b X.env) (fun u s₂ => wpAny (model X.prog X.w) X.A (f v u) Q X.xe s₂) X.xe s₁) X.xe s := by
  refine thn (ha pins s σ H _ I h) fun v s1 ⟨x, H1, I1, r1, q1⟩ => ?_
  refine thn (hb pins s1 σ H1 _ I1 q1) fun u s2 ⟨y, H2, I2, r2, q2⟩ => ?_
  exact hf v u s2 x y H2 I2 r1 r2 q2
theorem pe_op {op : Operator} {r : R2} (ho : OpR X (binaryOp op) r) (ha : PE X a ta) (hb : PE X b tb) : PE X (.BinOp a op b pos) (tOp r ta tb) := by
  intro pins s σ H Q I h
  exact wpAny_BinOp (binT ha hb I h fun v u s2 x y H2 I2 rx ry q => ho pins s2 σ H2 x y v u Q I2 rx ry q)
theorem pe_un {op : UnaryOp} {r : V → Hp → VK → Prop} (ho : UnR X (unaryOp op) r) (ha : PE X a ta) : PE X (.UnaryOp op a pos) (tUn r ta) := by
  intro pins s σ H Q I h
  exact UnaryOp_ (thn (ha pins s σ H _ I h) fun v s1 ⟨x, H1, I1, r1, q1⟩ => ho pins s1 σ H1 x v Q I1 r1 q1)
theorem opI {f : Value → Value → Sem Value} {C : Int → Int → Prop} {g : Int → Int → Int}
    (rule : ∀ (i j : Int) (t u : Tok) (s : Shared) (Q : Value → Shared → Prop) (E : Value → Shared → Prop), C i j → Q (.int (g i j) s.toks) { s with toks := s.toks + 1 } → wpAny (model X.prog X.w) X.A (f (.int i t) (.int j u)) Q E s) :
    OpR X f (rI C fun i j => .int (g i j)) := by
  intro pins s σ H x y v u Q I rx ry h
  obtain ⟨i, j, rfl, rfl, hc, q⟩ := h
  obtain ⟨t, rfl⟩ := rx
  obtain ⟨t', rfl⟩ := ry
  exact rule i j t t' s _ _ hc ⟨.int (g i j), H, I.tok _, ⟨_, rfl⟩, q⟩
theorem opI0 {f : Value → Value → Sem Value} {g : Int → Int → Int}
    (rule : ∀ (i j : Int) (t u : Tok) (s : Shared) (Q : Value → Shared → Prop) (E : Value → Shared → Prop), Q (.int (g i j) s.toks) { s with toks := s.toks + 1 } → wpAny (model X.prog X.w) X.A (f (.int i t) (.int j u)) Q E s) :
    OpR X f (rI0 fun i j => .int (g i j)) := by
  intro pins s σ H x y v u Q I rx ry h
  obtain ⟨i, j, rfl, rfl, q⟩ := h
  obtain ⟨t, rfl⟩ := rx
  obtain ⟨t', rfl⟩ := ry
  exact rule i j t t' s _ _ ⟨.int (g i j), H, I.tok _, ⟨_, rfl⟩, q⟩
theorem opB0 {f : Value → Value → Sem Value} {g : Int → Int → Bool}
    (rule : ∀ (i j : Int) (t u : Tok) (s : Shared) (Q : Value → Shared → Prop) (E : Value → Shared → Prop), Q (.bool (g i j)) s → wpAny (model X.prog X.w) X.A (f (.int i t) (.int j u)) Q E s) :
    OpR X f (rI0 fun i j => .bl (g i j)) := by
  intro pins s σ H x y v u Q I rx ry h
  obtain ⟨i, j, rfl, rfl, q⟩ := h
  obtain ⟨t, rfl⟩ := rx
  obtain ⟨t', rfl⟩ := ry
  exact rule i j t t' s _ _ ⟨.bl (g i j), H, I, rfl, q⟩
def CDiv (i j : Int) : Prop := 0 < j ∧ j < 1073741824
def CDivN (i j : Int) : Prop := j ≠ 0 ∧ j.natAbs < 1073741824
def CPow (i j : Int) : Prop := 0 ≤ j ∧ j ≤ 1000000 ∧ i.natAbs < 2 ^ 64
def CMul (i j : Int) : Prop := (-(2 ^ 64) < i ∧ i < 2 ^ 64) ∨ (-(2 ^ 64) < j ∧ j < 2 ^ 64)
theorem op_add : OpR X (binaryOp .Add) (rI0 fun i j => .int (i + j)) := opI0 fun _ _ _ _ _ _ _ q => add_int q
theorem op_mod : OpR X (binaryOp .Mod) (rI (fun _ j => 0 < j) fun i j => .int (i % j)) := opI fun i j _ _ _ _ _ hc q => by
  have h1 : (0 : Int) < j := hc
  exact mod_int' (by omega) (by rw [Int.fmod_eq_emod_of_nonneg i (by omega)]; exact q)
theorem op_pow : OpR X (binaryOp .Pow) (rI CPow fun i j => .int (i ^ j.toNat)) := opI fun _ _ _ _ _ _ _ hc q => pow_int_small hc.1 hc.2.1 hc.2.2 q
theorem unI {f : Value → Sem Value} {g : Int → Int}
    (rule : ∀ (i : Int) (t : Tok) (s : Shared) (Q : Value → Shared → Prop) (E : Value → Shared → Prop), Q (.int (g i) s.toks) { s with toks := s.toks + 1 } → wpAny (model X.prog X.w) X.A (f (.int i t)) Q E s) :
    UnR X f (rU fun i => .int (g i)) := by
  intro pins s σ H x v Q I rx h
  obtain ⟨i, rfl, q⟩ := h
  obtain ⟨t, rfl⟩ := rx
  exact rule i t s _ _ ⟨.int (g i), H, I.tok _, ⟨_, rfl⟩, q⟩
theorem un_neg : UnR X (unaryOp .USub) (rU fun i => .int (-i)) := unI fun _ _ _ _ _ q => neg_int q
end
def scal : V → V → Bool
  | .non, .non => true | .non, .int _ => true | .int _, .non => true | .non, .bl _ => true | .bl _, .non => true | .non, .str _ => true | .str _, .non => true
  | .int _, .int _ => true | .bl _, .bl _ => true | .str _, .str _ => true | .byt _, .byt _ => true
  | .int _, .str _ => true | .str _, .int _ => true | .bl _, .str _ => true | .str _, .bl _ => true
  | _, _ => false
def rEq : R2 := fun x y H Q => scal x y = true ∧ Q (.bl (decide (x = y))) H
def rNe : R2 := fun x y H Q => scal x y = true ∧ Q (.bl (!decide (x = y))) H
theorem dec_int {i j : Int} : decide (V.int i = V.int j) = (i == j) := by
  rw [Bool.eq_iff_iff]
  simp
theorem dec_bl {i j : Bool} : decide (V.bl i = V.bl j) = (i == j) := by
  rw [Bool.eq_iff_iff]
  simp
theorem dec_str {i j : Str} : decide (V.str i = V.str j) = (i == j) := by
  rw [Bool.eq_iff_iff]
  simp
theorem dec_byt {i j : Array UInt8} : decide (V.byt i = V.byt j) = (i.toList == j.toList) := by
  rw [Bool.eq_iff_iff]
  cases i
  cases j
  simp
section
variable {X : Cx} {a b c : Expr} {ta tb tc : TE} {pos : Pos}
theorem fin_bl {pins : List (Addr × Obj)} {σ : St} {H : Hp} {s : Shared} {Q : VK} {k k' : Bool} (I : Inv X pins σ H s) (q : Q (.bl k) H) (e : k = k') : EP X pins σ Q (.bool k') s := by
  subst e
  exact ⟨.bl k, H, I, rfl, q⟩
theorem op_eq : OpR X (compareOp .Eq) rEq := by
  intro pins s σ H x y v u Q I rx ry h
  obtain ⟨hs, q⟩ := h
  cases x with
  | non =>
    cases rx
    cases y with
    | non => cases ry; exact PySem.EqNone.eq_none_none (fin_bl I q (by simp))
    | bl j => cases ry; exact PySem.EqNone.eq_none_bool (fin_bl I q (by simp))
    | int j => obtain ⟨t', rfl⟩ := ry; exact PySem.EqNone.eq_none_int (fin_bl I q (by simp))
    | str j => obtain ⟨t', rfl⟩ := ry; exact PySem.EqNone.eq_none_str (fin_bl I q (by simp))
    | _ => exact absurd (show false = true from hs) Bool.false_ne_true
  | bl i =>
    cases rx
    cases y with
    | non => cases ry; exact PySem.EqNone.eq_bool_none (fin_bl I q (by simp))
    | bl j => cases ry; exact eq_bool (fin_bl I q dec_bl)
    | str j => obtain ⟨t', rfl⟩ := ry; exact PySem.EqMixed.eq_bool_str (fin_bl I q (by simp))
    | _ => exact absurd (show false = true from hs) Bool.false_ne_true
  | int i =>
    obtain ⟨t, rfl⟩ := rx
    cases y with
    | non => cases ry; exact PySem.EqNone.eq_int_none (fin_bl I q (by simp))
    | int j => obtain ⟨t', rfl⟩ := ry; exact eq_int (fin_bl I q dec_int)
    | str j => obtain ⟨t', rfl⟩ := ry; exact PySem.EqMixed.eq_int_str (fin_bl I q (by simp))
    | _ => exact absurd (show false = true from hs) Bool.false_ne_true
  | str i =>
    obtain ⟨t, rfl⟩ := rx
    cases y with
    | non => cases ry; exact PySem.EqNone.eq_str_none (fin_bl I q (by simp))
    | bl j => cases ry; exact PySem.EqMixed.eq_str_bool (fin_bl I q (by simp))
    | int j => obtain ⟨t', rfl⟩ := ry; exact PySem.EqMixed.eq_str_int (fin_bl I q (by simp))
    | str j => obtain ⟨t', rfl⟩ := ry; exact eq_str (fin_bl I q dec_str)
    | _ => exact absurd (show false = true from hs) Bool.false_ne_true
  | byt i =>
    obtain ⟨t, rfl⟩ := rx
    cases y with
    | byt j => obtain ⟨t', rfl⟩ := ry; exact PySem.W.eq_bytes (fin_bl I q dec_byt)
    | _ => exact absurd (show false = true from hs) Bool.false_ne_true
  | _ => cases y <;> exact absurd (show false = true from hs) Bool.false_ne_true
theorem op_ne : OpR X (compareOp .NotEq) rNe := by
  intro pins s σ H x y v u Q I rx ry h
  obtain ⟨hs, q⟩ := h
  cases x with
  | non =>
    cases rx
    cases y with
    | non => cases ry; exact PySem.EqNone.ne_none_none (fin_bl I q (by simp))
    | bl j => cases ry; exact PySem.EqNone.ne_none_bool (fin_bl I q (by simp))
    | int j => obtain ⟨t', rfl⟩ := ry; exact PySem.EqNone.ne_none_int (fin_bl I q (by simp))
    | str j => obtain ⟨t', rfl⟩ := ry; exact PySem.EqNone.ne_none_str (fin_bl I q (by simp))
    | _ => exact absurd (show false = true from hs) Bool.false_ne_true
  | bl i =>
    cases rx
    cases y with
    | non => cases ry; exact PySem.EqNone.ne_bool_none (fin_bl I q (by simp))
    | bl j => cases ry; exact ne_bool (fin_bl I q (congrArg not dec_bl))
    | str j => obtain ⟨t', rfl⟩ := ry; exact PySem.EqMixed.ne_bool_str (fin_bl I q (by simp))
    | _ => exact absurd (show false = true from hs) Bool.false_ne_true
  | int i =>
    obtain ⟨t, rfl⟩ := rx
    cases y with
    | non => cases ry; exact PySem.EqNone.ne_int_none (fin_bl I q (by simp))
    | int j => obtain ⟨t', rfl⟩ := ry; exact ne_int (fin_bl I q (congrArg not dec_int))
    | str j => obtain ⟨t', rfl⟩ := ry; exact PySem.EqMixed.ne_int_str (fin_bl I q (by simp))
    | _ => exact absurd (show false = true from hs) Bool.false_ne_true
  | str i =>
    obtain ⟨t, rfl⟩ := rx
    cases y with
    | non => cases ry; exact PySem.EqNone.ne_str_none (fin_bl I q (by simp))
    | bl j => cases ry; exact PySem.EqMixed.ne_str_bool (fin_bl I q (by simp))
    | int j => obtain ⟨t', rfl⟩ := ry; exact PySem.EqMixed.ne_str_int (fin_bl I q (by simp))
    | str j => obtain ⟨t', rfl⟩ := ry; exact ne_str (fin_bl I q (congrArg not dec_str))
    | _ => exact absurd (show false = true from hs) Bool.false_ne_true
  | byt i =>
    obtain ⟨t, rfl⟩ := rx
    cases y with
    | byt j => obtain ⟨t', rfl⟩ := ry; exact PySem.W.ne_bytes (fin_bl I q (congrArg not dec_byt))
    | _ => exact absurd (show false = true from hs) Bool.false_ne_true
  | _ => cases y <;> exact absurd (show false = true from hs) Bool.false_ne_true
theorem op_lt : OpR X (compareOp .Lt) (rI0 fun i j => .bl (decide (i < j))) := opB0 fun _ _ _ _ _ _ _ q => lt_int q
theorem op_gt : OpR X (compareOp .Gt) (rI0 fun i j => .bl (decide (j < i))) := opB0 fun _ _ _ _ _ _ _ q => gt_int q
theorem op_ge : OpR X (compareOp .GtE) (rI0 fun i j => .bl (decide (j ≤ i))) := opB0 fun _ _ _ _ _ _ _ q => ge_int q
theorem op_isN : OpR X (compareOp .Is) (fun x y H Q => y = .non ∧ Q (.bl (decide (x = .non))) H) := by
  intro pins s σ H x y v u Q I rx ry h
  obtain ⟨rfl, q⟩ := h
  cases ry
  refine is_none_gen (fin_bl I q ?_)
  cases x <;> first
    | (cases rx; rfl)
    | (obtain ⟨t, rfl⟩ := rx; rfl)
def isObj : HO → Bool
  | .lst _ => true
  | .ins _ _ _ => true
  | _ => false
theorem nomark (b : Expr) {op : CmpOp} (h : op ≠ .In := by decide) (h2 : op ≠ .NotIn := by decide) : behindInMarks op b = false := by
  have e1 : (op == CmpOp.In) = false := by cases op <;> first | rfl | exact absurd rfl h
  have e2 : (op == CmpOp.NotIn) = false := by cases op <;> first | rfl | exact absurd rfl h2
  cases b <;> simp [behindInMarks, e1, e2]
theorem pe_cmpR {op : CmpOp} {r : R2} (ho : OpR X (compareOp op) r) (ha : PE X a ta) (hb : PE X b tb) (hm : behindInMarks op b = false) : PE X (.Compare a [op] [b] pos) (tOp r ta tb) := by
  intro pins s σ H Q I h
  exact wpAny_Compare1 (binT ha hb I h fun v u s2 x y H2 I2 rx ry q => ho pins s2 σ H2 x y v u Q I2 rx ry q) hm
def tTest (t : TE) : TT := fun σ H Q => t σ H fun x H' => ∃ k, x = .bl k ∧ Q k H'
theorem pt_cmpR {op : CmpOp} {r : R2} (ho : OpR X (compareOp op) r) (ha : PE X a ta) (hb : PE X b tb) (hm : behindInMarks op b = false) : PT X (.Compare a [op] [b] pos) (tTest (tOp r ta tb)) := by
  intro pins s σ H Q I h
  refine wpAny_isTrue_Compare1 (thn (ha pins s σ H _ I h) fun v s1 ⟨x, H1, I1, r1, q1⟩ => thn (hb pins s1 σ H1 _ I1 q1) fun u s2 ⟨y, H2, I2, r2, q2⟩ =>
    thn (ho pins s2 σ H2 x y v u _ I2 r1 r2 q2) fun c s3 ⟨z, H3, I3, r3, k, e, q3⟩ => ?_) hm
  subst e
  cases r3
  exact wpAny_truthy_bool ⟨H3, I3, q3⟩
def tChain (r r' : R2) (ta tb tc : TE) : TE := fun σ H Q => ta σ H fun x H1 => tb σ H1 fun y H2 => r x y H2 fun z H3 => ∃ k, z = .bl k ∧
  (if k = true then tc σ H3 fun w' H4 => r' y w' H4 Q else Q (.bl false) H3)
def TruV (K : PySem.W.Frag) (x : V) (H : Hp) (k : Bool) : Prop :=
  match x with
  | .non => k = false
  | .bl b => k = b
  | .int i => k = (i != 0)
  | .str y => y.length ≤ sizeLine ∧ k = ((y.length : Int) != 0)
  | .byt y => y.size ≤ sizeLine ∧ k = ((y.size : Int) != 0)
  | .ref p => (∃ xs, SqL K H p xs ∧ k = !xs.isEmpty) ∨ (∃ xs, SqT K H p xs ∧ k = !xs.isEmpty) ∨ ∃ kvs, H p = some (.dK kvs) ∧ k = !kvs.isEmpty
  | _ => False
theorem line63 : (sizeLine : Nat) < 2 ^ 63 := by rw [sizeLine_eq]; decide
theorem op_add_str : OpR X (binaryOp .Add) (fun x y H Q => ∃ i j, x = .str i ∧ y = .str j ∧ i.length + j.length ≤ sizeLine ∧ Q (.str (i ++ j)) H) := by
  intro pins s σ H x y v u Q I rx ry h
  obtain ⟨i, j, rfl, rfl, hz, q⟩ := h
  obtain ⟨t, rfl⟩ := rx
  obtain ⟨t', rfl⟩ := ry
  exact add_str (fun t' tk => ⟨.str (i ++ j), H, I.tok _, ⟨_, rfl⟩, q⟩) hz
def PlainIxT (b : Expr) : Prop := ∀ o i, subscripted b false o i = operate [o, i] (getItem o i)
theorem vals1 {x : V} {us : List Value} (r : Vals [x] us) : ∃ u, us = [u] ∧ RelV x u := by
  cases r with
  | cons r1 r2 => cases r2; exact ⟨_, rfl, r1⟩
theorem vals2 {x y : V} {us : List Value} (r : Vals [x, y] us) : ∃ u w', us = [u, w'] ∧ RelV x u ∧ RelV y w' := by
  cases r with
  | cons r1 r2 =>
    cases r2 with
    | cons r3 r4 => cases r4; exact ⟨_, _, rfl, r1, r3⟩
theorem call_abs : CallR X (.builtin "abs") (fun xs H Q => ∃ i, xs = [.int i] ∧ Q (.int (if i < 0 then -i else i)) H) := by
  intro pins s σ H xs us Q I r h
  obtain ⟨i, rfl, q⟩ := h
  obtain ⟨u, rfl, t, rfl⟩ := vals1 r
  exact call_abs_int fun u tk => ⟨.int (if i < 0 then -i else i), H, I.tok _, ⟨_, rfl⟩, q⟩
theorem call_min2 (hc : X.calm = true) : CallR X (.builtin "min") (fun xs H Q => ∃ i j, xs = [.int i, .int j] ∧ Q (.int (if j < i then j else i)) H) := by
  intro pins s σ H xs us Q I r h
  obtain ⟨i, j, rfl, q⟩ := h
  obtain ⟨u, w', rfl, ⟨t, rfl⟩, ⟨t', rfl⟩⟩ := vals2 r
  refine min_two_ints (I.ok.hd hc) fun h' tk k => ⟨_, H, I.kept k, ?_, q⟩
  by_cases hj : j < i
  · rw [if_pos hj, if_pos hj]; exact ⟨_, rfl⟩
  · rw [if_neg hj, if_neg hj]; exact ⟨_, rfl⟩
def LenV (K : PySem.W.Frag) (x : V) (H : Hp) (n : Nat) : Prop :=
  match x with
  | .str y => y.length ≤ sizeLine ∧ n = y.length
  | .byt y => y.size ≤ sizeLine ∧ n = y.size
  | .ref p => (∃ xs, SqL K H p xs ∧ n = xs.length) ∨ ∃ xs, SqT K H p xs ∧ n = xs.length
  | _ => False
end
end L2
namespace L2
open PySem PySem.Spec PyProof.Rows
structure ObjM (h : Heap) (x dx C : Addr) (mA : Str → Option Value) : Prop where
  obj : h.get? x = some (PySem.W.instObj C dx)
  ns : h.Ns1 dx mA
  ne : dx ≠ x
theorem lookIn_ns {h : Heap} {dx : Addr} {mA : Str → Option Value} (n : h.Ns1 dx mA) : ∃ od, h.get? dx = some od ∧ ∀ name, PySem.W.lookIn name od = some (mA name) := by
  obtain ⟨o, es, ep, ho, hd, hk, _, hm⟩ := n
  refine ⟨o, ho, fun name => ?_⟩
  have e := hm name
  unfold nsFind findBy at e
  rw [← Array.find?_toList] at e
  unfold PySem.W.lookIn
  rw [hd]
  dsimp only
  split
  · rename_i y q
    rw [q] at e
    exact congrArg some e
  · rename_i q
    rw [q] at e
    have a : es.toList.any (·.refKey) = false := by
      rw [List.any_eq_false]
      intro y hy
      obtain ⟨z, t, hkey⟩ := hk y (Array.mem_toList_iff.mp hy)
      simp [DictEntry.refKey, hkey]
    have a' : ¬ es.toList.any (·.refKey) = true := by rw [a]; exact Bool.false_ne_true
    rw [if_neg a']
    exact congrArg some e
theorem ObjM.look {h : Heap} {x dx C : Addr} {mA : Str → Option Value} (I : ObjM h x dx C mA) : ∃ od, PySem.W.InstAt h x (PySem.W.instObj C dx) C (some od) ∧ ∀ name, PySem.W.lookIn name od = some (mA name) :=
  let ⟨od, ho, hl⟩ := lookIn_ns I.ns
  ⟨od, ⟨I.obj, rfl, rfl, ho⟩, hl⟩
section
variable {prog : Program} {w : World} {A : Around} {E : Value → Shared → Prop} {s : Shared} {K : PySem.W.Frag} {x dx C f : Addr} {mA : Str → Option Value} {name : Str} {v : Value}
end
def putF (f : Str) (v : V) : List (Str × V) → List (Str × V)
  | [] => [(f, v)]
  | (g, x) :: r => if g = f then (g, v) :: r else (g, x) :: putF f v r
section
variable {P : Program} {w : World} {H H' : Hp} {h h' : Heap} {a C dx : Addr} {fs fs' : List (Str × V)}
theorem ins_get (hok : HOk P w H h) (e : H a = some (.ins C dx fs)) : ∃ mA, ObjM h a dx C mA ∧ (∀ f, RelO (fs.lookup f) (mA f)) ∧ PySem.Within mA (fs.map (·.1)) ∧ fs.length ≤ 1000 ∧ H dx = some (.own a) := by
  obtain ⟨d, z, ne, ob, mA, n, r, q⟩ := (show ObjOk P w H h a (.ins C dx fs) from hok a _ e)
  exact ⟨mA, ⟨ob, n, ne⟩, r, q, z, d⟩
end
structure Cls (K : PySem.W.Frag) (C : Addr) : Prop where
  pg : PySem.W.plainGet K C Str.empty = true
  hd : PySem.W.hasDictIn K C = true
  po : PySem.W.plainOver K C = true
  sa : PySem.W.findIn K (.ref C) "__setattr__" = some (some (.builtin "object.__setattr__"))
theorem Cls.get {K : PySem.W.Frag} {C : Addr} (c : Cls K C) (f : Str) : PySem.W.plainGet K C f = true := c.pg
def NoAttr (K : PySem.W.Frag) (C : Addr) (f : Str) : Prop := PySem.W.findIn K (.ref C) f = some none
structure Con (K : PySem.W.Frag) (C : Addr) (f : Str) (v : V) (u : Value) : Prop where
  at_ : PySem.W.findIn K (.ref C) f = some (some u)
  rel : RelV v u
  get : PySem.W.specialIn K u "__get__" = some none
  cp : PySem.W.copiedNames.contains f = false
structure Meth (K : PySem.W.Frag) (C : Addr) (m : Str) (f : Addr) : Prop where
  at_ : PySem.W.findIn K (.ref C) m = some (some (.ref f))
  fn : PySem.W.isFn K (.ref f) = true
  kp : PySem.W.keepIn K (.ref f) = true
section
variable {X : Cx} {pins : List (Addr × Obj)} {σ : St} {H : Hp} {s : Shared} {a C dx : Addr} {fs : List (Str × V)} {f : Str} {v : V} {A : Around} {E : Value → Shared → Prop}
end
def tFld (K : PySem.W.Frag) (ta : TE) (f : Str) : TE := fun σ H Q => ta σ H fun x H1 => ∃ a C dx fs v, x = .ref a ∧ H1 a = some (.ins C dx fs) ∧ Cls K C ∧ NoAttr K C f ∧ fs.lookup f = some v ∧ Q v H1
def tCon (K : PySem.W.Frag) (ta : TE) (f : Str) : TE := fun σ H Q => ta σ H fun x H1 => ∃ a C dx fs v u, x = .ref a ∧ H1 a = some (.ins C dx fs) ∧ Cls K C ∧ Con K C f v u ∧ fs.lookup f = none ∧ Q v H1
def sFld (K : PySem.W.Frag) (ta tv : TE) (f : Str) : TS := fun D σ H => tv σ H fun y H1 => ta σ H1 fun x H2 => ∃ a C dx fs, x = .ref a ∧ H2 a = some (.ins C dx fs) ∧ Cls K C ∧ NoAttr K C f ∧ fs.length < 1000 ∧
  D.nx σ (upd H2 a (.ins C dx (putF f y fs)))
def InOp (X : Cx) (op : Operator) (rd : V → V → Hp → VK → Prop) : Prop :=
  ∀ (pins : List (Addr × Obj)) (s : Shared) (σ : St) (H : Hp) (x y : V) (u v : Value) (Q : VK), Inv X pins σ H s → RelV x u → RelV y v → rd x y H Q → wpAny (model X.prog X.w) X.A (inplaceOp op u v) (EP X pins σ Q) X.xe s
def sFldAug (K : PySem.W.Frag) (ta tv : TE) (rd : V → V → Hp → VK → Prop) (f : Str) : TS := fun D σ H => ta σ H fun x H1 => ∃ a C dx fs v, x = .ref a ∧ H1 a = some (.ins C dx fs) ∧ Cls K C ∧ NoAttr K C f ∧ fs.lookup f = some v ∧
  tv σ H1 fun y H2 => rd v y H2 fun z H3 => ∃ dx' fs', H3 a = some (.ins C dx' fs') ∧ fs'.length < 1000 ∧ D.nx σ (upd H3 a (.ins C dx' (putF f z fs')))
section
variable {X : Cx} {o e value : Expr} {f : Str} {pos pos' tpos : Pos} {ta tv : TE}
def rAdd : V → V → Hp → VK → Prop := fun x y H Q => ∃ i j, x = .int i ∧ y = .int j ∧ Q (.int (i + j)) H
def rSub : V → V → Hp → VK → Prop := fun x y H Q => ∃ i j, x = .int i ∧ y = .int j ∧ Q (.int (i - j)) H
end
section
variable {X : Cx} {pins : List (Addr × Obj)} {σ : St} {H : Hp} {s : Shared} {A : Around} {E : Value → Shared → Prop} {Q : Value → Shared → Prop} {c : Value} {b : Bool}
inductive TyOf (K : PySem.W.Frag) (H : Hp) : V → Value → Prop where
  | non : TyOf K H .non (.type "NoneType")
  | bl (x : Bool) : TyOf K H (.bl x) (.type "bool")
  | int (i : Int) : TyOf K H (.int i) (.type "int")
  | str (x : Str) : TyOf K H (.str x) (.type "str")
  | flt (x : UInt64) : TyOf K H (.flt x) (.type "float")
  | lst {a : Addr} {xs : List V} (e : H a = some (.lst xs)) : TyOf K H (.ref a) (.type "list")
  | frz {a : Addr} {o : Obj} {xs : List V} (e : H a = some (.frz o (.lst xs))) : TyOf K H (.ref a) (.type "list")
  | tup {a : Addr} {xs : List V} (e : H a = some (.tup xs)) : TyOf K H (.ref a) (.type "tuple")
  | dK {a : Addr} {kvs : List (Key × V)} (e : H a = some (.dK kvs)) : TyOf K H (.ref a) (.type "dict")
  | dT {a : Addr} {kvs : List (List Key × V)} (e : H a = some (.dT kvs)) : TyOf K H (.ref a) (.type "dict")
  | ins {a C dx : Addr} {fs : List (Str × V)} (e : H a = some (.ins C dx fs)) (cl : Cls K C) (ha : PySem.W.findIn K (.ref C) "__class__" = some (some (.builtin "object.__class__")))
      (hn : PySem.W.specialIn K (.builtin "object.__class__") "__get__" = some (some (.builtin "getset_descriptor.__get__"))) (htk : PySem.W.takesIn K (.builtin "object.__class__") = some true)
      (hm : PySem.W.mroIn K C (.type "object") = some true) : TyOf K H (.ref a) (.ref C)
theorem isinst_ok {x : V} {u t : Value} (I : Inv X pins σ H s) (rx : RelV x u) (ty : TyOf X.K H x t) (e : PySem.W.kitOne X.K t c = some b) (h : ∀ tk, Q (.bool b) { s with toks := tk }) :
    wpAny (model X.prog X.w) A (call (.builtin "isinstance") [u, c]) Q E s := by
  cases ty with
  | non => cases (show u = Value.none from rx); exact PySem.W.kia_one PySem.W.kitx_none I.kIn True.intro e (fun z => nomatch z) h
  | bl y => cases (show u = Value.bool y from rx); exact PySem.W.kia_one PySem.W.kitx_bool I.kIn True.intro e (fun z => nomatch z) h
  | int i => obtain ⟨t, q⟩ := (show ∃ t, u = Value.int i t from rx); cases q; exact PySem.W.kia_one PySem.W.kitx_int I.kIn True.intro e (fun z => nomatch z) h
  | str y => obtain ⟨t, q⟩ := (show ∃ t, u = Value.str y t from rx); cases q; exact PySem.W.kia_one PySem.W.kitx_str I.kIn True.intro e (fun z => nomatch z) h
  | flt y => obtain ⟨t, q⟩ := (show ∃ t, u = Value.float y t from rx); cases q; exact PySem.W.kia_one PySem.W.kitx_float I.kIn True.intro e (fun z => nomatch z) h
  | @lst a xs ea =>
    cases (show u = Value.ref a from rx)
    obtain ⟨_, _, n, _, h1⟩ := (show ObjOk X.prog X.w H s.heap a (.lst xs) from I.hok a _ ea)
    exact PySem.W.kia_one PySem.W.kitx_list I.kIn ⟨_, h1, rfl⟩ e (fun z => nomatch z) h
  | @frz a ob xs ea =>
    cases (show u = Value.ref a from rx)
    obtain ⟨_, _, _, n, _, h1⟩ := (show ObjOk X.prog X.w H s.heap a (.frz ob (.lst xs)) from I.hok a _ ea)
    exact PySem.W.kia_one PySem.W.kitx_list I.kIn ⟨_, h1, rfl⟩ e (fun z => nomatch z) h
  | @tup a xs ea =>
    cases (show u = Value.ref a from rx)
    obtain ⟨_, _, _, p⟩ := (show ObjOk X.prog X.w H s.heap a (.tup xs) from I.hok a _ ea)
    obtain ⟨o, h1, h2, _⟩ := p
    exact PySem.W.kia_one PySem.W.kitx_tuple I.kIn ⟨o, h1, h2⟩ e (fun z => nomatch z) h
  | @dK a kvs ea =>
    cases (show u = Value.ref a from rx)
    obtain ⟨_, _, vs, _, p⟩ := (show ObjOk X.prog X.w H s.heap a (.dK kvs) from I.hok a _ ea)
    obtain ⟨o, es, ep, h1, h2, _⟩ := p
    exact PySem.W.kia_one PySem.W.kitx_dict I.kIn ⟨o, h1, h2.1⟩ e (fun z => nomatch z) h
  | @dT a kvs ea =>
    cases (show u = Value.ref a from rx)
    obtain ⟨_, _, xs, _, o, es, ep, h1, h2, _⟩ := (show ObjOk X.prog X.w H s.heap a (.dT kvs) from I.hok a _ ea)
    exact PySem.W.kia_one PySem.W.kitx_dict I.kIn ⟨o, h1, h2.1⟩ e (fun z => nomatch z) h
  | @ins a C dx fs ea cl ha hn htk hm =>
    cases (show u = Value.ref a from rx)
    obtain ⟨mA, O, _⟩ := ins_get I.hok ea
    obtain ⟨od, J, _⟩ := O.look
    exact PySem.W.kia_one (PySem.W.kitx_own (cl.get _) cl.hd ha hn htk hm) I.kIn J e (fun z => nomatch z) h
end
end L2
namespace L2
open PySem PySem.Spec PyProof.Rows
structure Room (k : Nat) (A : Around) : Prop where
  hd : A.handled = none
  dp : A.depth + 3 * k + 5 < recursionLimit
  un : A.units + 16 * k + 200 < cLine
theorem Room.mono {j k : Nat} {A : Around} (r : Room k A) (h : j ≤ k) : Room j A := ⟨r.hd, by have := r.dp; omega, by have := r.un; omega⟩
theorem Room.deeper {k : Nat} {A : Around} (r : Room (k + 1) A) (env : Env) : Room k (A.deeper env) :=
  ⟨r.hd, by have := r.dp; show A.depth + 1 + 3 * k + 5 < _; omega, by have := r.un; show A.units + 3 + 16 * k + 200 < _; omega⟩
theorem Room.in1 {k : Nat} {A : Around} (r : Room (k + 1) A) : Room k A.in1 :=
  ⟨r.hd, by have := r.dp; show A.depth + 3 * k + 5 < _; omega, by have := r.un; show A.units + 1 + 16 * k + 200 < _; omega⟩
theorem Room.depth {k : Nat} {A : Around} (r : Room k A) : A.depth < recursionLimit := by have := r.dp; omega
theorem Room.units {k : Nat} {A : Around} (r : Room k A) : A.units + 64 < cLine := by have := r.un; omega
def tNil : TA := fun _ H Q => Q [] H
def tCons (ta : TE) (tr : TA) : TA := fun σ H Q => ta σ H fun x H1 => tr σ H1 fun xs H2 => Q (x :: xs) H2
section
variable {X : Cx} {e : Expr} {es : List Expr} {te : TE} {t : TA} {pos : Pos}
theorem pa_nil : PA X [] tNil := fun _ _ _ _ H Q I h => Calls.spliced_nil ⟨[], H, I, .nil, h⟩
theorem pa_cons (ha : PE X e te) (hr : PA X es t) (hs : starEach (e :: es) X.env = (false, eval e X.env) :: starEach es X.env := by rfl) : PA X (e :: es) (tCons te t) := by
  intro pos pins s σ H Q I h
  rw [hs]
  show wpAny _ _ (spliced ((false, eval e X.env) :: backTo pos (starEach es X.env))) _ _ s
  refine Calls.spliced_cons (thn (ha pins s σ H _ I h) fun u s1 ⟨x, H1, I1, r1, q1⟩ => ?_)
  exact thn (hr pos pins s1 σ H1 _ I1 q1) fun us s2 ⟨xs, H2, I2, r2, q2⟩ => ⟨x :: xs, H2, I2, .cons r1 r2, q2⟩
def tTup (t : TA) : TE := fun σ H Q => t σ H fun xs H1 => xs.length ≤ sizeLine ∧ ∀ p, H1 p = none → Q (.ref p) (upd H1 p (.tup xs))
def tLst (t : TA) : TE := fun σ H Q => t σ H fun xs H1 => xs.length ≤ sizeLine ∧ ∀ p, H1 p = none → Q (.ref p) (upd H1 p (.lst xs))
theorem pe_tup {x1} (h : PA X es t) : PE X (.Tuple es x1 pos) (tTup t) := by
  intro pins s σ H Q I hq
  refine wpAny_Tuple_spliced (thn (h pos pins s σ H _ I hq) fun us s1 ⟨xs, H1, I1, r, z, q⟩ => ⟨by rw [← r.length]; exact z, ?_⟩)
  have hf : H1 s1.heap.objs.size = none := I1.hok.fresh (Nat.le_refl _)
  refine ⟨.ref s1.heap.objs.size, upd H1 s1.heap.objs.size (.tup xs), I1.laid (t' := s1.toks) (fun b u e => Heap.get?_push_of_some _ e) (Nat.le_refl _) ?_, rfl, q _ hf⟩
  exact ⟨z, us, r, ⟨_, Heap.get?_push_size _ rfl, rfl, _, rfl⟩⟩
theorem pe_lst (h : PA X es t) : PE X (.List es pos) (tLst t) := by
  intro pins s σ H Q I hq
  refine wpAny_List_spliced (thn (h pos pins s σ H _ I hq) fun us s1 ⟨xs, H1, I1, r, z, q⟩ => ⟨by rw [← r.length]; exact z, ?_⟩)
  have hf : H1 s1.heap.objs.size = none := I1.hok.fresh (Nat.le_refl _)
  refine ⟨.ref s1.heap.objs.size, upd H1 s1.heap.objs.size (.lst xs), I1.laid (t' := s1.toks) (fun b u e => Heap.get?_push_of_some _ e) (Nat.le_refl _) ?_, rfl, q _ hf⟩
  exact ⟨z, us, 0, r, Heap.get?_push_size _ rfl⟩
end
abbrev Sp := List V → Hp → VK → XK → Prop
abbrev CXT := List Env → Hp → Shared → XK → Value → Shared → Prop
structure Env0 (P : Program) (w : World) (K : PySem.W.Frag) (mg : Str → Option Value) (base : Heap) (A : Around) (outer : List Env) (s : Shared) (H : Hp) : Prop where
  frames : A.frames = some outer
  mod : Mod K mg base
  bs : ∀ b o, base.get? b = some o → s.heap.get? b = some o ∧ H b = none
  bsz : base.objs.size ≤ s.heap.objs.size
  funs : s.heap.FunFrames base outer
  frf : ∀ b ∈ frs outer, H b = none
  hok : HOk P w H s.heap
  bare : AllBare s.gens
def CE (outer : List Env) (P : Program) (w : World) (H : Hp) (s : Shared) (Q : VK) (u : Value) (s' : Shared) : Prop :=
  ∃ v H', s'.os = s.os ∧ AllBare s'.gens ∧ Un (frs outer) [] H H' s.heap s'.heap ∧ HOk P w H' s'.heap ∧ RelV v u ∧ Q v H'
def CR (CX : CXT) (outer : List Env) (P : Program) (w : World) (H : Hp) (s : Shared) (Q : VK) (E : XK) (r : Result) (s' : Shared) : Prop :=
  match r with
  | .ok (.ret u) => CE outer P w H s Q u s'
  | .ok _ => False
  | .error e => CX outer H s E e s'
structure FnOk (P : Program) (w : World) (K : PySem.W.Frag) (mg : Str → Option Value) (base : Heap) (CX : CXT) (k : Nat) (f : Addr) (fd : FuncData) (ps : List Str) (sp : Sp) : Prop where
  len : ∀ vs H Q E, sp vs H Q E → vs.length = ps.length
  run : ∀ (A : Around) (outer : List Env) (s : Shared) (H : Hp) (args : Args) (us : List Value) (vs : List V) (Q : VK) (E : XK), Room k A → Env0 P w K mg base A outer s H → BindsTo s fd args (ps.zip us) → Vals vs us → sp vs H Q E →
    codeAny (model P w) A (.call (.ref f) args) (CR CX outer P w H s Q E) s
section
variable {X : Cx} {pins : List (Addr × Obj)} {σ : St} {H : Hp} {s s' : Shared}
theorem Inv.env0 (I : Inv X pins σ H s) : Env0 X.prog X.w X.K X.mg X.base X.A X.stack s H :=
  ⟨I.ok.frames, I.ok.mod, I.bs, Nat.le_trans I.ok.bsz I.sz, I.stack, I.stkFree, I.hok, I.bare⟩
theorem Inv.after {Q : VK} {u : Value} (I : Inv X pins σ H s) (h : CE X.stack X.prog X.w H s Q u s') : EP X pins σ Q u s' := by
  obtain ⟨v, H', os, bare, un, hok, r, q⟩ := h
  obtain ⟨hh, g, d, t, os'⟩ := s'
  obtain rfl : os' = s.os := os
  exact ⟨v, H', I.call (h' := hh) (g' := g) (d' := d) (t' := t) (ch := []) un hok bare (fun b z => absurd z (by simp)), r, q⟩
end
def tCall (sp : Sp) (dvs : List V) (E : XK) (t : TA) : TE := fun σ H Q => t σ H fun vs H1 => sp (vs ++ dvs) H1 Q E
def tMeth (C : Addr) (m : Str) (sp : Sp) (dvs : List V) (E : XK) (ta : TE) (t : TA) : TE := fun σ H Q => ta σ H fun x H1 => ∃ a dx fs, x = .ref a ∧ H1 a = some (.ins C dx fs) ∧ fs.lookup m = none ∧
  t σ H1 fun vs H2 => sp (x :: (vs ++ dvs)) H2 Q E
def tMake (C : Addr) (sp : Sp) (dvs : List V) (E : XK) (t : TA) : TE := fun σ H Q => t σ H fun vs H1 => ∀ x dx, H1 x = none → H1 dx = none → dx ≠ x →
  sp (.ref x :: (vs ++ dvs)) (upd (upd H1 dx (.own x)) x (.ins C dx [])) (fun v H2 => v = .non ∧ Q (.ref x) H2) E
def Binds (K : PySem.W.Frag) (fd : FuncData) (ps : List Str) (ds : List Value) : Prop :=
  ∀ (s : Shared) (us : List Value), K.In s.heap → (us ++ ds).length = ps.length → BindsTo s fd ⟨us, []⟩ (ps.zip (us ++ ds))
theorem Binds.all {K : PySem.W.Frag} {fd : FuncData} {ps : List Str} (h : ∀ us : List Value, us.length = ps.length → bindArgs fd ⟨us, []⟩ = pure (ps.zip us)) : Binds K fd ps [] := fun s us _ hl => by
  rw [List.append_nil] at hl ⊢
  exact .of_eq (h us hl)
def Passes (CX : CXT) (X : Cx) (E : XK) : Prop := ∀ (pins : List (Addr × Obj)) (σ : St) (H : Hp) (s : Shared) (e : Value) (s' : Shared), Inv X pins σ H s → CX X.stack H s E e s' → X.xe e s'
section
variable {X : Cx} {CX : CXT} {k : Nat} {f C : Addr} {fd : FuncData} {ps : List Str} {sp : Sp} {dvs : List V} {ds : List Value} {E : XK} {x m : Str} {p pos apos : Pos} {e o : Expr} {es : List Expr} {ta : TE} {t : TA}
theorem run_fn {pins : List (Addr × Obj)} {σ : St} {H : Hp} {s : Shared} {Q : VK} {us : List Value} {vs : List V} (F : FnOk X.prog X.w X.K X.mg X.base CX k f fd ps sp) (hr : Room k X.A) (hb : Binds X.K fd ps ds) (hd : Vals dvs ds) (hx : Passes CX X E)
    (I : Inv X pins σ H s) (r : Vals vs us) (h : sp (vs ++ dvs) H Q E) : wpAny (model X.prog X.w) X.A (call (.ref f) us) (EP X pins σ Q) X.xe s := by
  have r2 : Vals (vs ++ dvs) (us ++ ds) := r.append hd
  have hl : (us ++ ds).length = ps.length := by rw [← r2.length]; exact F.len _ _ _ _ h
  refine wpAny_call (codeAny_mono (F.run X.A X.stack s H ⟨us, []⟩ (us ++ ds) (vs ++ dvs) Q E hr I.env0 (hb s us I.kIn hl) r2 h) fun r s' hq => ?_)
  cases r with
  | error e => exact hx pins σ H s e s' I hq
  | ok fl =>
    cases fl with
    | ret u => exact I.after hq
    | next => exact False.elim hq
    | brk => exact False.elim hq
    | cont => exact False.elim hq
theorem pe_call (F : FnOk X.prog X.w X.K X.mg X.base CX k f fd ps sp) (hr : Room k X.A) (hg : Gl X x) (hm : X.mg x = some (.ref f)) (hk : PySem.W.keepIn X.K (.ref f) = true) (hb : Binds X.K fd ps ds) (hd : Vals dvs ds) (hx : Passes CX X E)
    (ha : PA X (e :: es) t) (hdb : (x == ("__debug__" : Str)) = false := by decide) (he : starEach (e :: es) X.env = (false, eval e X.env) :: starEach es X.env := by rfl) (hpl : (backTo pos (starEach es X.env)).any (·.1) = false := by rfl) :
    PE X (.Call (.Name x p) (e :: es) [] pos) (tCall sp dvs E t) := by
  intro pins s σ H Q I h
  refine wpAny_Call_Name_kw (ld_glob I hg hm ?_ hdb)
  refine PySem.W.callWith_K (h₀ := X.base) I.ok.mod.kin hk (thn (ha pos pins s σ H _ I h) fun us s1 ⟨vs, H1, I1, r, q⟩ => ⟨I1.kIn, ?_⟩) he hpl
  exact run_fn F hr hb hd hx I1 r q
structure Mk (K : PySem.W.Frag) (C f : Addr) : Prop where
  makes : PySem.W.makesIn K C = true
  init : PySem.W.findIn K (.ref C) "__init__" = some (some (.ref f))
  fn : PySem.W.isFn K (.ref f) = true
  kp : PySem.W.keepIn K (.ref C) = true
end
def PK (X : Cx) (kws : List Keyword) (t : TA) : Prop :=
  ∀ (pos : Pos) (pins : List (Addr × Obj)) (s : Shared) (σ : St) (H : Hp) (Q : List V → Hp → Prop), Inv X pins σ H s → t σ H Q → wpAny (model X.prog X.w) X.A (evalAll ((backToKw pos (keywordEach kws X.env)).map (·.2))) (AP X pins σ Q) X.xe s
section
variable {X : Cx} {CX : CXT} {k : Nat} {f C : Addr} {fd : FuncData} {ps ks : List Str} {sp : Sp} {E : XK} {x m : Str} {p pos apos kpos : Pos} {e o : Expr} {es : List Expr} {kws : List Keyword} {te ta : TE} {t tk : TA} {nm : Option Str}
theorem pk_nil : PK X [] tNil := fun _ _ _ _ H Q I h => wpAny_evalAll_nil ⟨[], H, I, .nil, h⟩
theorem pk_cons (ha : PE X e te) (hr : PK X kws t) : PK X (⟨nm, e, kpos⟩ :: kws) (tCons te t) := by
  intro pos pins s σ H Q I h
  show wpAny _ _ (evalAll ((do let v ← eval e X.env; standAt pos; pure v) :: (backToKw pos (keywordEach kws X.env)).map (·.2))) _ _ s
  refine wpAny_evalAll_cons (wpAny_bind (thn (ha pins s σ H _ I h) fun u s1 ⟨x, H1, I1, r1, q1⟩ => wpAny_bind (wpAny_standAt (wpAny_pure ?_))))
  exact thn (hr pos pins s1 σ H1 _ I1 q1) fun us s2 ⟨xs, H2, I2, r2, q2⟩ => ⟨x :: xs, H2, I2, .cons r1 r2, q2⟩
structure KBinds (K : PySem.W.Frag) (fd : FuncData) (ps ks : List Str) (g : List Value → List Value → List Value) (gV : List V → List V → List V) : Prop where
  to : ∀ (s : Shared) (us ws : List Value), K.In s.heap → (g us ws).length = ps.length → BindsTo s fd ⟨us, ks.zip ws⟩ (ps.zip (g us ws))
  rel : ∀ {vs : List V} {us : List Value} {zs : List V} {ws : List Value}, Vals vs us → Vals zs ws → Vals (gV vs zs) (g us ws)
def tCallK (sp : Sp) (gV : List V → List V → List V) (E : XK) (t tk : TA) : TE := fun σ H Q => t σ H fun vs H1 => tk σ H1 fun zs H2 => sp (gV vs zs) H2 Q E
variable {g : List Value → List Value → List Value} {gV : List V → List V → List V}
end
structure FnScope (N P : List Str) (sc : Scope) : Prop where
  kind : sc.kind = .function
  co : sc.isCoroutine = false
  gen : sc.isGenerator = false
  nd : N.Nodup
  pre : N.take P.length = P
  par : ∀ x ∈ P, sc.names.lookup x = some .local ∨ sc.names.lookup x = some .cell
  nofree : ∀ y ∈ sc.names, y.2 ≠ .free
theorem bindL_out {kindOf : Str → Option NameKind} {x : Str} : ∀ {binds : List (Str × Value)} {m : Str → Option Value}, (∀ v, (x, v) ∉ binds) → bindL kindOf binds m x = m x
  | [], _, _ => rfl
  | (n, v) :: r, m, h => by
    unfold bindL
    rw [bindL_out fun w hw => h w (List.mem_cons_of_mem _ hw)]
    split
    · have : x ≠ n := by rintro rfl; exact h v List.mem_cons_self
      simp [this]
    · rfl
theorem bindC_out {kindOf : Str → Option NameKind} {x : Str} : ∀ {binds : List (Str × Value)} {m : Str → Option Value}, (∀ v, (x, v) ∉ binds) → bindC kindOf binds m x = m x
  | [], _, _ => rfl
  | (n, v) :: r, m, h => by
    unfold bindC
    rw [bindC_out fun w hw => h w (List.mem_cons_of_mem _ hw)]
    split
    · rfl
    · have : x ≠ n := by rintro rfl; exact h v List.mem_cons_self
      simp [this]
theorem bindL_get {kindOf : Str → Option NameKind} {x : Str} {v : Value} : ∀ {P : List Str} {vs : List Value} {i : Nat} {m : Str → Option Value}, P.Nodup → P[i]? = some x → vs[i]? = some v → kindOf x = some .local →
    bindL kindOf (P.zip vs) m x = some v
  | [], _, _, _, _, h, _, _ => by simp at h
  | _ :: _, [], _, _, _, _, h, _ => by simp at h
  | p :: P, w :: vs, 0, m, nd, h1, h2, hk => by
    simp at h1 h2; subst h1; subst h2
    show bindL kindOf ((p, w) :: P.zip vs) m p = _
    unfold bindL
    rw [bindL_out fun v hv => (List.nodup_cons.mp nd).1 (List.of_mem_zip hv).1, if_pos hk]
    simp
  | p :: P, w :: vs, i + 1, m, nd, h1, h2, hk => by
    show bindL kindOf ((p, w) :: P.zip vs) m x = _
    unfold bindL
    exact bindL_get (i := i) (List.nodup_cons.mp nd).2 (by simpa using h1) (by simpa using h2) hk
theorem bindC_get {kindOf : Str → Option NameKind} {x : Str} {v : Value} : ∀ {P : List Str} {vs : List Value} {i : Nat} {m : Str → Option Value}, P.Nodup → P[i]? = some x → vs[i]? = some v → kindOf x ≠ some .local →
    bindC kindOf (P.zip vs) m x = some v
  | [], _, _, _, _, h, _, _ => by simp at h
  | _ :: _, [], _, _, _, _, h, _ => by simp at h
  | p :: P, w :: vs, 0, m, nd, h1, h2, hk => by
    simp at h1 h2; subst h1; subst h2
    show bindC kindOf ((p, w) :: P.zip vs) m p = _
    unfold bindC
    rw [bindC_out fun v hv => (List.nodup_cons.mp nd).1 (List.of_mem_zip hv).1, if_neg hk]
    simp
  | p :: P, w :: vs, i + 1, m, nd, h1, h2, hk => by
    show bindC kindOf ((p, w) :: P.zip vs) m x = _
    unfold bindC
    exact bindC_get (i := i) (List.nodup_cons.mp nd).2 (by simpa using h1) (by simpa using h2) hk
def start (N : List Str) (vs : List V) : St := vs.map some ++ List.replicate (N.length - vs.length) none
def cxOf (CX : CXT) (P : Program) (w : World) (K : PySem.W.Frag) (mg : Str → Option Value) (base : Heap) (N : List Str) (qual : Str) (scope : Scope) (f : Addr) (cd : Value) (A : Around) (outer : List Env) (s : Shared) (H : Hp) (E : XK) : Cx where
  prog := P
  w := w
  K := K
  mg := mg
  base := base
  A := A.deeper (envOfC qual scope s.heap.objs.size f cd)
  N := N
  s₀ := s
  H₀ := H
  env := envOfC qual scope s.heap.objs.size f cd
  outer := outer
  stack := envOfC qual scope s.heap.objs.size f cd :: outer
  ex := []
  calm := true
  fn := fun _ => true
  pn := []
  xe := fun e s' => wpAny (model P w) (A.deeper (envOfC qual scope s.heap.objs.size f cd)) (leaving (envOfC qual scope s.heap.objs.size f cd) e) (fun _ s'' => CX outer H s E e s'') (fun e' s'' => CX outer H s E e' s'') s'
theorem cell_has {sc : Scope} {n : Nat} {x : Str} (h : sc.names.lookup x = some .cell) : ∃ c, (cellsFrom n sc.names []).lookup x = some c := by
  have q := PySem.W.cellsFrom_some sc.names n [] (.inl h)
  exact Option.isSome_iff_exists.mp q
theorem inv_start {CX : CXT} {P : Program} {w : World} {K : PySem.W.Frag} {mg : Str → Option Value} {base : Heap} {N ps : List Str} {qual : Str} {scope : Scope} {f : Addr} {cd : Value} {A : Around} {outer : List Env} {s s1 : Shared} {H : Hp} {E : XK} {us : List Value} {vs : List V}
    (S : FnScope N ps scope) (hd : A.handled = none) (e0 : Env0 P w K mg base A outer s H) (hl : vs.length = ps.length) (r : Vals vs us)
    (x : InCallC s s.heap.objs.size (bindL (envOfC qual scope s.heap.objs.size f cd).kindOf (ps.zip us) fun _ => none) (cellsFrom (s.heap.objs.size + 1) scope.names []) (bindC (envOfC qual scope s.heap.objs.size f cd).kindOf (ps.zip us) fun _ => none) s1) :
    Inv (cxOf CX P w K mg base N qual scope f cd A outer s H E) [] (start N vs) H s1 := by
  have hpl : ps.length ≤ N.length := by have := congrArg List.length S.pre; rw [List.length_take] at this; omega
  obtain ⟨h1, tk, rfl, hk⟩ := x.done
  have noA : ∀ b : Addr, b ∉ (cxOf CX P w K mg base N qual scope f cd A outer s H E).ex := fun b z => absurd (show b ∈ ([] : List Addr) from z) (by simp)
  refine ⟨⟨e0.mod, S.kind, rfl, rfl, Nat.le_refl _, fun y z c h1 h2 => ?_, fun y hy => ?_, fun y c _ h => ?_, fun _ => hd, Around.frames_deeper e0.frames, .inr ⟨rfl, rfl⟩, fun b z => absurd z (noA b), e0.bs, e0.bsz, fun b _ _ => noA b, fun b z => absurd z (noA b), e0.funs, e0.frf⟩,
    rfl, e0.bare, Un.kept hk, ⟨_, x.toInCall.ns, fun i y v h1 h2 h3 => ?_⟩, fun y c h => ⟨_, x.cell y c h⟩, e0.hok.fresh (Nat.le_refl _), fun y c h => ?_, fun p hp => absurd (show p ∈ ([] : List (Addr × Obj)) from hp) (by simp), e0.hok.kept hk, ?_⟩
  · exact name_of_addr x.apart (PySem.mem_of_lookup h1) (PySem.mem_of_lookup h2)
  · have hy : scope.names.lookup y = some .cell ∨ scope.names.lookup y = some .free := hy
    rcases hy with hy | hy
    · exact cell_has hy
    · exact absurd rfl (S.nofree _ (PySem.mem_of_lookup hy))
  · exact Nat.le_of_lt (x.above y c (PySem.mem_of_lookup h))
  · have hi : i < vs.length := by
      unfold start at h2
      by_cases hi : i < vs.length
      · exact hi
      · rw [List.getElem?_append_right (by simpa using hi)] at h2
        rw [List.getElem?_replicate] at h2
        split at h2 <;> cases h2
    have ha : vs[i]? = some v := by
      unfold start at h2
      rw [List.getElem?_append_left (by simpa using hi), List.getElem?_map] at h2
      cases e : vs[i]? with
      | none => rw [e] at h2; cases h2
      | some a => rw [e] at h2; cases h2; rfl
    obtain ⟨u, hu, rv⟩ := r.get ha
    have hp : ps[i]? = some y := by
      rw [← S.pre, List.getElem?_take_of_lt (by omega)]; exact h1
    have ndP : ps.Nodup := by rw [← S.pre]; exact S.nd.sublist (List.take_sublist _ _)
    refine ⟨u, rv, ?_⟩
    rcases S.par y (List.mem_of_getElem? hp) with k | k
    · exact .inl ⟨k, bindL_get ndP hp hu k⟩
    · obtain ⟨c, e⟩ := cell_has (n := s.heap.objs.size + 1) k
      refine .inr ⟨.inl k, c, e, ?_⟩
      have q := x.cell y c e
      rw [bindC_get ndP hp hu (by show scope.names.lookup y ≠ _; rw [k]; decide)] at q
      exact q
  · exact e0.hok.fresh (Nat.le_of_lt (x.above y c (PySem.mem_of_lookup h)))
  · unfold start
    show _ = N.length
    rw [List.length_append, List.length_map, List.length_replicate]
    omega
theorem fn_of {CX : CXT} {P : Program} {w : World} {K : PySem.W.Frag} {mg : Str → Option Value} {base : Heap} {k : Nat} {f : Addr} {name qual : Str} {params : Arguments} {body : List Stmt} {scope : Scope} {dV kV doc pm cdv ct oc : Value} {an od : Option Addr}
    {osl : Array (Option Value)} {N ps : List Str} {sp : Sp} (lk : K.lookup f = some ⟨oc, od, .func (PySem.W.fnOf name qual params body scope dV kV doc pm an cdv ct), osl⟩) (hcd : PySem.W.codeIn K cdv qual = true) (S : FnScope N ps scope)
    (len : ∀ vs H Q E, sp vs H Q E → vs.length = ps.length)
    (hbody : ∀ (A : Around) (outer : List Env) (s : Shared) (H : Hp) (vs : List V) (Q : VK) (E : XK), Room k (A.deeper (envOfC qual scope s.heap.objs.size f cdv)) → sp vs H Q E →
      ∃ t, PSs (cxOf CX P w K mg base N qual scope f cdv A outer s H E) body t ∧ t { nx := fun _ H' => Q .non H', rt := Q } (start N vs) H) :
    FnOk P w K mg base CX (k + 1) f (PySem.W.fnOf name qual params body scope dV kV doc pm an cdv ct) ps sp := by
  refine ⟨len, fun A outer s H args us vs Q E hr e0 hb r hsp => ?_⟩
  have hl := len _ _ _ _ hsp
  have KX : K.In s.heap := e0.mod.kin.keeps fun b o e => (e0.bs b o e).1
  have lim : s.heap.NoLimit := e0.mod.nolimit.keeps fun b o e => (e0.bs b o e).1
  have hkind : ∀ y ∈ ps.zip us, scope.names.lookup y.1 = some .local ∨ (scope.names.lookup y.1 = some .cell ∧ ((cellsFrom (s.heap.objs.size + 1) scope.names []).lookup y.1).isSome = true) := fun ⟨n, v⟩ hy => by
    rcases S.par n (List.of_mem_zip hy).1 with q | q
    · exact .inl q
    · exact .inr ⟨q, PySem.W.cellsFrom_some _ _ _ (.inl q)⟩
  refine codeAny_call_function hr.depth (KX _ _ lk) rfl S.co S.gen rfl (PySem.W.codeRec_of KX hcd) (hb _ _ _ _ ?_)
  refine wpAny_newFunctionEnv_cells S.kind hkind fun env he s1 x => ?_
  subst he
  refine ⟨lim.keeps x.toInCall.keep, codeAny_func ?_⟩
  obtain ⟨t, ht, hq⟩ := hbody A outer s H vs Q E (hr.deeper _) hsp
  have I : Inv (cxOf CX P w K mg base N qual scope f cdv A outer s H E) [] (start N vs) H s1 := inv_start S hr.hd e0 hl r x
  refine wpAny_mono (ht [] s1 (start N vs) H _ I hq) (fun fl s' hs => ?_) fun e s' hs => hs
  have fin : ∀ {σ' : St} {H' : Hp} {v : V} {u : Value}, Inv (cxOf CX P w K mg base N qual scope f cdv A outer s H E) [] σ' H' s' → RelV v u → Q v H' → CE outer P w H s Q u s' :=
    fun {σ' H' v u} J rv q => ⟨v, H', J.os, J.bare, J.base, J.hok, rv, q⟩
  cases fl with
  | ret u =>
    obtain ⟨v, σ', H', J, rv, q⟩ := hs
    exact fin J rv q
  | next =>
    obtain ⟨σ', H', J, q⟩ := hs
    exact fin (v := V.non) (u := Value.none) J rfl q
  | brk =>
    obtain ⟨_, _, _, q⟩ := hs
    exact False.elim q
  | cont =>
    obtain ⟨_, _, _, q⟩ := hs
    exact False.elim q
end L2
namespace L2
open PySem PySem.Spec PyProof.Rows
section
variable {X : Cx} {x : Str} {p pos : Pos} {e : Expr} {es : List Expr} {t : TA} {id T : String} {r : List V → Hp → VK → Prop}
def tCB (r : List V → Hp → VK → Prop) (t : TA) : TE := fun σ H Q => t σ H fun vs H1 => r vs H1 Q
theorem pe_callB (hc : CallR X (.builtin id) r) (hg : Gl X x) (hm : X.mg x = none) (hv : bootBuiltins x = some (.builtin id)) (ha : PA X (e :: es) t) (hn : x ≠ "__name__" := by decide) (hdb : (x == ("__debug__" : Str)) = false := by decide)
    (he : starEach (e :: es) X.env = (false, eval e X.env) :: starEach es X.env := by rfl) (hpl : (backTo pos (starEach es X.env)).any (·.1) = false := by rfl) : PE X (.Call (.Name x p) (e :: es) [] pos) (tCB r t) := by
  intro pins s σ H Q I h
  refine wpAny_Call_Name_kw (ld_blt I hg hm hv ?_ hn hdb)
  exact PyProof.Rows.callWith_builtin1 (thn (ha pos pins s σ H _ I h) fun us s1 ⟨vs, H1, I1, r1, q1⟩ => hc pins s1 σ H1 vs us Q I1 r1 q1) he hpl
theorem pe_callTy (hc : CallR X (.type T) r) (hg : Gl X x) (hm : X.mg x = none) (hv : bootBuiltins x = some (.type T)) (ha : PA X (e :: es) t) (hn : x ≠ "__name__" := by decide) (hdb : (x == ("__debug__" : Str)) = false := by decide)
    (he : starEach (e :: es) X.env = (false, eval e X.env) :: starEach es X.env := by rfl) (hpl : (backTo pos (starEach es X.env)).any (·.1) = false := by rfl) : PE X (.Call (.Name x p) (e :: es) [] pos) (tCB r t) := by
  intro pins s σ H Q I h
  refine wpAny_Call_Name_kw (ld_blt I hg hm hv ?_ hn hdb)
  exact PyProof.Rows.callWith_type1 (thn (ha pos pins s σ H _ I h) fun us s1 ⟨vs, H1, I1, r1, q1⟩ => hc pins s1 σ H1 vs us Q I1 r1 q1) he hpl
end
end L2
namespace HT
open PySem PyProof.Rows
def lexLt : List Int → List Int → Bool
  | [], [] => false
  | [], _ :: _ => true
  | _ :: _, [] => false
  | x :: xs, y :: ys => if x = y then lexLt xs ys else decide (x < y)
section
open PySem.SeqAt
open PySem.AutoSeq1 (wpAny_loadPart')
open PySem.MeetsSeq PySem.MeetsSeq2 PySem.MeetsSeq3
end
section
variable {prog : Program} {w : World} {A : Around} {E : Value → Shared → Prop} {s : Shared}
theorem cat_tup {t b : Addr} {vs ws : List Value} {Q : Value → Shared → Prop} (ht : IsTup s.heap t vs.toArray) (hb : IsTup s.heap b ws.toArray) (hv : vs ≠ [])
    (h1 : ws = [] → Q (.ref t) s) (h2 : ws ≠ [] → Q (.ref s.heap.objs.size) { s with heap := s.heap.push { cls := .type "tuple", data := .seq (vs ++ ws).toArray } })
    (hsz : vs.length + ws.length ≤ sizeLine) : wpAny (model prog w) A (binaryOp .Add (.ref t) (.ref b)) Q E s := by
  obtain ⟨⟨cls, dd, data, sl⟩, ho, hc, n, hd⟩ := id ht
  obtain ⟨⟨cls2, dd2, data2, sl2⟩, ho2, hc2, n2, hd2⟩ := id hb
  simp only at hc hd hc2 hd2
  subst hc hd hc2 hd2
  have e : vs.toArray ++ ws.toArray = (vs ++ ws).toArray := by simp
  by_cases hw : ws = []
  · exact concat_meets ⟨_, ho, rfl⟩ ⟨_, ho2, rfl⟩ noFill_tuple_add seq_tuple_add PySem.F.slot_tuple_add PySem.F.entry_tuple_add (PySem.F.args_tuple_add_2 _ _)
      (tuple_addW1 t b vs.toArray ws.toArray n n2 dd dd2 sl sl2 (by simpa using hv) (by simp [hw])) ⟨ho, ho2, h1 hw⟩
  · refine concat_meets ⟨_, ho, rfl⟩ ⟨_, ho2, rfl⟩ noFill_tuple_add seq_tuple_add PySem.F.slot_tuple_add PySem.F.entry_tuple_add (PySem.F.args_tuple_add_2 _ _)
      (tuple_addW2 t b vs.toArray ws.toArray n n2 dd dd2 sl sl2 (by simpa using hv) (by simpa using hw) (by rw [List.size_toArray, List.size_toArray]; exact hsz)) ⟨ho, ho2, ?_⟩
    rw [e]
    exact h2 hw
def sIx (n d : Nat) : Option Int → Nat
  | none => d
  | some v => if v < 0 then (v + (n : Int)).toNat else min v.toNat n
theorem sIx_none (n d : Nat) : sIx n d none = d := rfl
theorem sIx_nat (n d k : Nat) : sIx n d (some (k : Int)) = min k n := by
  show (if (k : Int) < 0 then ((k : Int) + (n : Int)).toNat else min (k : Int).toNat n) = min k n
  rw [if_neg (by omega), Int.toNat_natCast]
theorem sIx_le (n d : Nat) (hd : d ≤ n) (o : Option Int) : sIx n d o ≤ n := by
  cases o with
  | none => exact hd
  | some v =>
    show (if v < 0 then (v + (n : Int)).toNat else min v.toNat n) ≤ n
    by_cases hv : v < 0
    · rw [if_pos hv]; omega
    · rw [if_neg hv]; exact Nat.min_le_right _ _
theorem clip_eq (v : Int) (n d : Nat) : (if v < 0 then max (v + (n : Int)) 0 else min v (n : Int)) = ((sIx n d (some v) : Nat) : Int) := by
  show (if v < 0 then max (v + (n : Int)) 0 else min v (n : Int)) = (((if v < 0 then (v + (n : Int)).toNat else min v.toNat n) : Nat) : Int)
  by_cases hv : v < 0
  · simp only [if_pos hv]; omega
  · simp only [if_neg hv]; omega
theorem adjust_gen (lo hi : Option Int) (n : Nat) : Builtin.Slice.sliceAdjust lo hi 1 (n : Int) = (((sIx n 0 lo : Nat) : Int), ((sIx n n hi : Nat) : Int)) := by
  have h1 : ¬ ((1 : Int) < 0) := by omega
  unfold Builtin.Slice.sliceAdjust
  simp only [h1, if_false]
  refine Prod.ext ?_ ?_
  · cases lo with
    | none => rfl
    | some v => exact clip_eq v n 0
  · cases hi with
    | none => rfl
    | some v => exact clip_eq v n n
theorem places_gen (i j : Nat) : Builtin.Slice.slicePlaces (i : Int) (j : Int) 1 = j - i := by
  unfold Builtin.Slice.slicePlaces
  have h1 : (1 : Int) > 0 := by omega
  simp only [h1, if_true, Int.ediv_one]
  split <;> omega
theorem slicePart_ {v : Value} {o : Option Int} {Q : Option Int → Shared → Prop} (p : IsPart v o) (h : Q o s) : wpAny (model prog w) A (Builtin.Slice.slicePartIndex v) Q E s := by
  cases p with
  | none => exact slicePart_none h
  | int i t => exact slicePart_int h
theorem sliceApplied_gen {sl : Addr} {vl vu : Value} {lo hi : Option Int} {n : Nat} {Q : Int × Int × Nat → Shared → Prop} (hs : s.heap.IsSliceOf sl vl vu .none) (pl : IsPart vl lo) (pu : IsPart vu hi)
    (h : Q (((sIx n 0 lo : Nat) : Int), 1, sIx n n hi - sIx n 0 lo) s) : wpAny (model prog w) A (Builtin.Slice.sliceApplied (.ref sl) (pure (n : Int))) Q E s := by
  obtain ⟨os, hos, hcs, hds⟩ := id hs
  unfold Builtin.Slice.sliceApplied Builtin.Slice.sliceFields
  refine wpAny_bind (wpAny_bind (wpAny_field hos hds (x := vl) rfl (wpAny_bind (wpAny_field hos hds (x := vu) rfl (wpAny_bind (wpAny_field hos hds (x := .none) rfl (wpAny_pure ?_)))))))
  refine wpAny_bind (slicePart_none ?_)
  show wpAny _ _ (if ((1 : Int) == 0) = true then _ else _) _ _ s
  rw [if_neg (by decide)]
  refine wpAny_bind (slicePart_ pl (wpAny_bind (slicePart_ pu (wpAny_bind (wpAny_pure ?_)))))
  show wpAny _ _ (match Builtin.Slice.sliceAdjust lo hi 1 (n : Int) with | (lo, hi) => pure (lo, (1 : Int), Builtin.Slice.slicePlaces lo hi 1)) _ _ s
  rw [adjust_gen lo hi n]
  show wpAny _ _ (pure (((sIx n 0 lo : Nat) : Int), (1 : Int), Builtin.Slice.slicePlaces ((sIx n 0 lo : Nat) : Int) ((sIx n n hi : Nat) : Int) 1)) _ _ s
  rw [places_gen]
  exact wpAny_pure h
theorem pick_gen (xs : Array Value) (i k : Nat) : ((List.range k).filterMap fun (m : Nat) => xs[((i : Int) + (m : Int) * 1).toNat]?).toArray = ((xs.toList.drop i).take k).toArray := by
  have e : (fun (m : Nat) => xs[((i : Int) + (m : Int) * 1).toNat]?) = fun m => xs[i + m]? := by
    funext m
    have : ((i : Int) + (m : Int) * 1).toNat = i + m := by omega
    rw [this]
  rw [e]
  have := pick_run xs i k
  rw [List.filterMap_map] at this
  have e2 : ((fun x => xs[x]?) ∘ fun x => i + x) = fun m => xs[i + m]? := rfl
  rw [e2] at this
  rw [this]
theorem getItem_tuple_cut {t sl : Addr} {items : Array Value} {vl vu : Value} {lo hi : Option Int} {Q : Value → Shared → Prop} (ht : IsTup s.heap t items) (hs : s.heap.IsSliceOf sl vl vu .none) (pl : IsPart vl lo) (pu : IsPart vu hi)
    (hw : ¬ (sIx items.size 0 lo = 0 ∧ sIx items.size items.size hi = items.size))
    (h : Q (.ref s.heap.objs.size) { s with heap := s.heap.push { cls := .type "tuple", data := .seq ((items.toList.drop (sIx items.size 0 lo)).take (sIx items.size items.size hi - sIx items.size 0 lo)).toArray } })
    (hsz : items.size ≤ sizeLine) : wpAny (model prog w) A (getItem (.ref t) (.ref sl)) Q E s := by
  have htake : sizeOk (.seq ((items.toList.drop (sIx items.size 0 lo)).take (sIx items.size items.size hi - sIx items.size 0 lo)).toArray) := by
    show ((items.toList.drop (sIx items.size 0 lo)).take (sIx items.size items.size hi - sIx items.size 0 lo)).toArray.size ≤ sizeLine
    rw [List.size_toArray, List.length_take, List.length_drop, Array.length_toList]
    omega
  have hj : sIx items.size items.size hi ≤ items.size := sIx_le _ _ (Nat.le_refl _) hi
  obtain ⟨os, hos, hcs, hds⟩ := id hs
  have hTs : s.TypeIs (.ref sl) "slice" := ⟨os, hos, hcs⟩
  unfold getItem
  try with_reducible refine wpAny_holding ?_
  first | refine wpAny_bind (wpAny_pure ?_) | skip
  refine wpAny_bind (wpAny_sequenceKey ht.typeIs (by decide) ?_)
  refine wpAny_bind (wpAny_callSpecial?_slot (name := Str.ofString "__getitem__") ht.typeIs PyProof.Rows.slot_tuple_getitem
    (wpAny_call_entry PyProof.Rows.slot_tuple_getitem ht.typeIs entry_tuple_getitem ?_ (args_tuple_getitem _ _)))
  show wpAny _ _ (Builtin.Tuple.tupleItemsOf (.ref t) >>= _) _ _ s
  refine wpAny_bind (tupleItemsOf_ ht ?_)
  refine wpAny_bind (wpAny_typeOf hTs ?_)
  rw [if_pos (by decide)]
  refine wpAny_bind (sliceApplied_gen hs pl pu ?_)
  have hno : ¬ ((((sIx items.size 0 lo : Nat) : Int) == 0 && (1 : Int) == 1 && (sIx items.size items.size hi - sIx items.size 0 lo) == items.size) = true) := by
    intro q
    rw [Bool.and_eq_true, Bool.and_eq_true] at q
    have q1 : ((sIx items.size 0 lo : Nat) : Int) = 0 := eq_of_beq q.1.1
    have q2 : sIx items.size items.size hi - sIx items.size 0 lo = items.size := eq_of_beq q.2
    exact hw ⟨by omega, by omega⟩
  show wpAny _ _ (if (((sIx items.size 0 lo : Nat) : Int) == 0 && (1 : Int) == 1 && (sIx items.size items.size hi - sIx items.size 0 lo) == items.size) = true then _ else _) _ _ s
  rw [if_neg hno, pick_gen]
  first
    | exact wpAny_bind (m := Builtin.Tuple.tupleExact _) (wpAny_newObj_type (wpAny_pure ⟨_, rfl, wpAny_pure h⟩) htake)
    | exact wpAny_bind (m := Builtin.Tuple.tupleExact _) (wpAny_newObj_type (wpAny_bind (wpAny_pure (wpAny_pure ⟨_, rfl, wpAny_pure h⟩))) htake)
    | exact wpAny_bind (wpAny_bind (m := Builtin.Tuple.tupleExact _) (wpAny_newObj_type (wpAny_pure (wpAny_pure ⟨_, rfl, wpAny_pure h⟩)) htake))
    | exact wpAny_bind (wpAny_bind (m := Builtin.Tuple.tupleExact _) (wpAny_newObj_type (wpAny_pure ⟨_, rfl, wpAny_pure h⟩) htake))
end
end HT
namespace L2
open PySem PySem.Spec PyProof.Rows
abbrev TO := St → Hp → (Option Int → Hp → Prop) → Prop
def PO (X : Cx) (e : Option Expr) (t : TO) : Prop :=
  ∀ (pins : List (Addr × Obj)) (s : Shared) (σ : St) (H : Hp) (Q : Option Int → Hp → Prop), Inv X pins σ H s → t σ H Q →
    wpAny (model X.prog X.w) X.A (evalPart e X.env) (fun u s' => ∃ o H', Inv X pins σ H' s' ∧ IsPart u o ∧ Q o H') X.xe s
def tNoPart : TO := fun _ H Q => Q none H
def tPart (t : TE) : TO := fun σ H Q => t σ H fun x H1 => ∃ i, x = .int i ∧ Q (some i) H1
theorem intsAre_of {ns : List Int} : ∀ {us : List Value}, Vals (ns.map V.int) us → IntsAre us ns := by
  induction ns with
  | nil => intro us r; rw [List.map_nil] at r; cases r; exact .nil
  | cons n ns ih =>
    intro us r
    rw [List.map_cons] at r
    cases r with
    | cons r1 r2 =>
      obtain ⟨t, e⟩ := r1
      subst e
      exact .cons n t (ih r2)
section
variable {X : Cx} {e : Expr} {te : TE} {lo hi : Option Expr} {tl th : TO} {pos p2 : Pos}
theorem po_none : PO X none tNoPart := by
  intro pins s σ H Q I h
  rw [evalPart_none]
  exact wpAny_pure ⟨none, H, I, .none, h⟩
theorem po_some (h : PE X e te) : PO X (some e) (tPart te) := by
  intro pins s σ H Q I hw
  rw [evalPart_some]
  refine thn (h pins s σ H _ I hw) fun u s1 ⟨x, H1, I1, r1, q1⟩ => ?_
  obtain ⟨i, rfl, q⟩ := q1
  obtain ⟨t, rfl⟩ := r1
  exact ⟨some i, H1, I1, .int i t, q⟩
def SlR (X : Cx) (r : V → Option Int → Option Int → Hp → VK → Prop) : Prop :=
  ∀ (pins : List (Addr × Obj)) (s : Shared) (σ : St) (H : Hp) (x : V) (v vl vu : Value) (lo hi : Option Int) (sl : Addr) (Q : VK), Inv X pins σ H s → RelV x v → s.heap.IsSliceOf sl vl vu .none → IsPart vl lo → IsPart vu hi → r x lo hi H Q →
    ∃ T id, typeLookup (.type T) "__getitem__" = pure (some (.builtin id)) ∧ s.TypeIs v T ∧ wpAny (model X.prog X.w) X.A (getItem v (.ref sl)) (EP X pins σ Q) X.xe s
def tSl (r : V → Option Int → Option Int → Hp → VK → Prop) (te : TE) (tl th : TO) : TE := fun σ H Q => te σ H fun x H1 => tl σ H1 fun l H2 => th σ H2 fun u H3 => r x l u H3 Q
theorem pe_slice {r : V → Option Int → Option Int → Hp → VK → Prop} (hr : SlR X r) (he : PE X e te) (hl : PO X lo tl) (hu : PO X hi th) : PE X (.Subscript e (.Slice lo hi none p2) pos) (tSl r te tl th) := by
  intro pins s σ H Q I h
  refine Subscript_ (thn (he pins s σ H _ I h) fun v s1 ⟨x, H1, I1, r1, q1⟩ => ?_)
  refine wpAny_Slice (thn (hl pins s1 σ H1 _ I1 q1) fun vl s2 ⟨l, H2, I2, pl, q2⟩ => thn (hu pins s2 σ H2 _ I2 q2) fun vu s3 ⟨u, H3, I3, pu, q3⟩ => ?_)
  rw [evalPart_none]
  refine wpAny_pure ?_
  have I4 : Inv X pins σ H3 { s3 with heap := s3.heap.push { cls := .type "slice", data := .fields #[vl, vu, .none] } } := I3.kept (t' := s3.toks) fun b ob q => Heap.get?_push_of_some _ q
  obtain ⟨T, id, hT, ht, hg⟩ := hr pins { s3 with heap := s3.heap.push { cls := .type "slice", data := .fields #[vl, vu, .none] } } σ H3 x v vl vu l u s3.heap.objs.size Q I4 r1 (Heap.IsSliceOf.new ..) pl pu q3
  show wpAny (model X.prog X.w) X.A (subscriptTail e (.Slice lo hi none p2) v (.ref s3.heap.objs.size)) (EP X pins σ Q) X.xe { s3 with heap := s3.heap.push { cls := .type "slice", data := .fields #[vl, vu, .none] } }
  exact tail_any (ops := [.ref s3.heap.objs.size, v]) ht hT hg (by with_unfolding_all rfl)
def cutV (xs : List V) (lo hi : Option Int) : List V := (xs.drop (HT.sIx xs.length 0 lo)).take (HT.sIx xs.length xs.length hi - HT.sIx xs.length 0 lo)
theorem cutV_length (xs : List V) (lo hi : Option Int) : (cutV xs lo hi).length ≤ xs.length := by
  unfold cutV
  rw [List.length_take, List.length_drop]
  omega
def rSlT (K : PySem.W.Frag) : V → Option Int → Option Int → Hp → VK → Prop := fun x lo hi H Q => ∃ a xs, x = .ref a ∧ SqT K H a xs ∧
  ¬ (HT.sIx xs.length 0 lo = 0 ∧ HT.sIx xs.length xs.length hi = xs.length) ∧ ∀ p, H p = none → Q (.ref p) (upd H p (.tup (cutV xs lo hi)))
theorem sl_tup : SlR X (rSlT X.K) := by
  intro pins s σ H x v vl vu lo hi sl Q I rx hs pl pu h
  obtain ⟨a, xs, rfl, hx, hw, q⟩ := h
  cases rx
  obtain ⟨its, r, ht, hz⟩ := I.tuple hx
  have hlen : its.toArray.size = xs.length := by rw [List.size_toArray]; exact r.length.symm
  refine ⟨"tuple", _, PyProof.Rows.slot_tuple_getitem.lookup, ht.typeIs, ?_⟩
  refine HT.getItem_tuple_cut ht hs pl pu (by rw [hlen]; exact hw) ?_ (by rw [hlen]; exact hz)
  rw [hlen]
  refine ⟨.ref s.heap.objs.size, _, I.laid (t' := s.toks) (o := .tup (cutV xs lo hi)) (fun b ob q => Heap.get?_push_of_some _ q) (Nat.le_refl _) ?_, rfl, q _ (I.hok.fresh (Nat.le_refl _))⟩
  exact ⟨Nat.le_trans (cutV_length xs lo hi) hz, _, (r.drop (HT.sIx xs.length 0 lo)).take (HT.sIx xs.length xs.length hi - HT.sIx xs.length 0 lo), IsTup.new _ _⟩
def rLtT (K : PySem.W.Frag) : R2 := fun x y H Q => ∃ a b ns ms, x = .ref a ∧ y = .ref b ∧ SqT K H a (ns.map V.int) ∧ SqT K H b (ms.map V.int) ∧ Q (.bl (HT.lexLt ns ms)) H
def rCatT (K : PySem.W.Frag) : R2 := fun x y H Q => ∃ a b xs ys, x = .ref a ∧ y = .ref b ∧ SqT K H a xs ∧ SqT K H b ys ∧ xs ≠ [] ∧ xs.length + ys.length ≤ sizeLine ∧
  (ys = [] → Q (.ref a) H) ∧ (ys ≠ [] → ∀ p, H p = none → Q (.ref p) (upd H p (.tup (xs ++ ys))))
theorem Vals.nil_iff {xs : List V} {us : List Value} (r : Vals xs us) : us = [] ↔ xs = [] := by
  cases r with
  | nil => simp
  | cons _ _ => simp
theorem op_catT : OpR X (binaryOp .Add) (rCatT X.K) := by
  intro pins s σ H x y v u Q I rx ry h
  obtain ⟨a, b, xs, ys, rfl, rfl, ha, hb, hx, hz, q1, q2⟩ := h
  cases rx
  cases ry
  obtain ⟨its, r1, p1, _⟩ := I.tuple ha
  obtain ⟨its2, r2, p2, _⟩ := I.tuple hb
  refine HT.cat_tup p1 p2 (fun z => hx (r1.nil_iff.mp z)) (fun z => ⟨.ref a, H, I, rfl, q1 (r2.nil_iff.mp z)⟩) (fun z => ?_) (by rw [← r1.length, ← r2.length]; exact hz)
  refine ⟨.ref s.heap.objs.size, _, I.laid (t' := s.toks) (o := .tup (xs ++ ys)) (fun b ob q => Heap.get?_push_of_some _ q) (Nat.le_refl _) ?_, rfl, q2 (fun w => z (r2.nil_iff.mpr w)) _ (I.hok.fresh (Nat.le_refl _))⟩
  exact ⟨by rw [List.length_append]; exact hz, _, r1.append r2, IsTup.new _ _⟩
end
end L2
namespace L2
open PySem PySem.Spec PyProof.Rows
def ixN (n : Nat) (i : Int) : Option Nat := if 0 ≤ i then (if i < n then some i.toNat else none) else if -(n : Int) ≤ i then some (i + n).toNat else none
def atI {α : Type} (xs : List α) (i : Int) : Option α := (ixN xs.length i).bind fun j => xs[j]?
theorem ixN_seq {n : Nat} {i : Int} {j : Nat} (h : ixN n i = some j) : seqIndex? i n = some j ∧ j < n ∧ -(n : Int) ≤ i ∧ i < n := by
  unfold ixN at h
  by_cases h0 : 0 ≤ i
  · rw [if_pos h0] at h
    by_cases h1 : i < n
    · rw [if_pos h1] at h
      have e : i.toNat = j := Option.some.inj h
      exact ⟨by rw [seqIndex_of h0 h1, e], by omega, by omega, h1⟩
    · rw [if_neg h1] at h; cases h
  · rw [if_neg h0] at h
    by_cases h1 : -(n : Int) ≤ i
    · rw [if_pos h1] at h
      have e : (i + n).toNat = j := Option.some.inj h
      exact ⟨by rw [seqIndex_neg (by omega) h1, e], by omega, h1, by omega⟩
    · rw [if_neg h1] at h; cases h
theorem atI_get {α : Type} {xs : List α} {i : Int} {v : α} (h : atI xs i = some v) : ∃ j, seqIndex? i xs.length = some j ∧ xs[j]? = some v ∧ j < xs.length ∧ -(xs.length : Int) ≤ i ∧ i < xs.length := by
  unfold atI at h
  cases e : ixN xs.length i with
  | none => rw [e] at h; cases h
  | some j =>
    rw [e] at h
    obtain ⟨h1, h2, h3, h4⟩ := ixN_seq e
    exact ⟨j, h1, h, h2, h3, h4⟩
theorem atI_nat {α : Type} {xs : List α} {j : Nat} {v : α} (h : xs[j]? = some v) : atI xs (j : Int) = some v := by
  have hj : j < xs.length := (List.getElem?_eq_some_iff.mp h).1
  have e : ixN xs.length (j : Int) = some j := by
    unfold ixN
    rw [if_pos (by omega), if_pos (by omega)]; simp
  unfold atI; rw [e]; exact h
def PlainIx (b : Expr) : Prop := ∀ o i, subscripted b false o i = operate [o, i] (getItem o i)
def IxR (X : Cx) (r : R2) : Prop :=
  ∀ (value slice : Expr) (pins : List (Addr × Obj)) (s : Shared) (σ : St) (H : Hp) (x y : V) (v u : Value) (Q : VK), Inv X pins σ H s → RelV x v → RelV y u → r x y H Q →
    subscripted slice false v u = operate [v, u] (getItem v u) → wpAny (model X.prog X.w) X.A (subscriptTail value slice v u) (EP X pins σ Q) X.xe s
def MtR (X : Cx) (id : String) (r : V → List V → Hp → VK → Prop) : Prop :=
  ∀ (pins : List (Addr × Obj)) (s : Shared) (σ : St) (H : Hp) (x : V) (xs : List V) (v : Value) (us : List Value) (Q : VK), Inv X pins σ H s → RelV x v → Vals xs us → r x xs H Q →
    wpAny (model X.prog X.w) X.A (call (.builtin id) (v :: us)) (EP X pins σ Q) X.xe s
section
variable {X : Cx} {a b : Expr} {ta tb : TE} {pos : Pos}
theorem pe_ix {r : R2} (hr : IxR X r) (ha : PE X a ta) (hb : PE X b tb) (hs : PlainIx b) : PE X (.Subscript a b pos) (tOp r ta tb) := by
  intro pins s σ H Q I h
  exact Subscript_ (binT ha hb I h fun v u s2 x y H2 I2 rx ry q => hr a b pins s2 σ H2 x y v u Q I2 rx ry q (hs _ _))
def rIxL (K : PySem.W.Frag) : R2 := fun x y H Q => ∃ p xs i v, x = .ref p ∧ y = .int i ∧ SqL K H p xs ∧ atI xs i = some v ∧ Q v H
def rIxT (K : PySem.W.Frag) : R2 := fun x y H Q => ∃ p xs i v, x = .ref p ∧ y = .int i ∧ SqT K H p xs ∧ atI xs i = some v ∧ Q v H
def rIxS : R2 := fun x y H Q => ∃ z i c, x = .str z ∧ y = .int i ∧ z.length ≤ sizeLine ∧ atI z.cps.toList i = some c ∧ Q (.str ⟨#[c]⟩) H
theorem ix_list : IxR X (rIxL X.K) := by
  intro value slice pins s σ H x y v u Q I rx ry h hs
  obtain ⟨p, xs, i, z, rfl, rfl, hq, he, q⟩ := h
  cases rx
  obtain ⟨t, rfl⟩ := ry
  obtain ⟨its, r, pl, hz⟩ := I.list hq
  obtain ⟨j, h1, h2, h3, h4, h5⟩ := atI_get he
  obtain ⟨w, ew, rw'⟩ := r.get h2
  have hl := r.length
  have hn := line63
  have fin : EP X pins σ Q w s := ⟨z, H, I, rw', q⟩
  by_cases h0 : 0 ≤ i
  · have hj : i.toNat = j := by
      rw [seqIndex_of h0 h5] at h1
      exact Option.some.inj h1
    exact item_listR pl.isList h0 (by omega) (by rw [hj]; simpa using ew) fin hs
  · have hj : (i + (its.toArray.size : Int)).toNat = j := by
      rw [seqIndex_neg (by omega) h4] at h1
      rw [List.size_toArray, ← hl]
      exact Option.some.inj h1
    exact subscriptTail_builtinR (x := w) pl.isList.typeIs slot_list_getitem.lookup
      (wpAny_getItem_list_neg (Q := fun r s' => r = w ∧ EP X pins σ Q r s') pl.isList (by omega) (by rw [List.size_toArray] <;> omega) (by omega) (by rw [hj]; simpa using ew) ⟨rfl, fin⟩) hs
theorem ix_tup : IxR X (rIxT X.K) := by
  intro value slice pins s σ H x y v u Q I rx ry h hs
  obtain ⟨p, xs, i, z, rfl, rfl, hq, he, q⟩ := h
  cases rx
  obtain ⟨t, rfl⟩ := ry
  obtain ⟨its, r, pl, hz⟩ := I.tuple hq
  obtain ⟨j, h1, h2, h3, h4, h5⟩ := atI_get he
  obtain ⟨w, ew, rw'⟩ := r.get h2
  have hl := r.length
  have hn := line63
  have fin : EP X pins σ Q w s := ⟨z, H, I, rw', q⟩
  exact subscriptTail_builtinR (x := w) pl.typeIs slot_tuple_getitem.lookup
    (getItem_tuple (j := j) (Q := fun r s' => r = w ∧ EP X pins σ Q r s') pl (by omega) (by omega) (by rw [List.size_toArray, ← hl]; exact h1) (by simpa using ew) ⟨rfl, fin⟩) hs
theorem ix_str : IxR X rIxS := by
  intro value slice pins s σ H x y v u Q I rx ry h hs
  obtain ⟨z, i, c, rfl, rfl, hz, he, q⟩ := h
  obtain ⟨t, rfl⟩ := rx
  obtain ⟨t', rfl⟩ := ry
  obtain ⟨j, h1, h2, h3, h4, h5⟩ := atI_get he
  have hl : z.cps.toList.length = z.length := by simp [Str.length]
  rw [hl] at h1 h4 h5
  have hn := line63
  exact tail_any (typeIs_str s z t) slot_str_getitem.lookup (getItem_str (c := c) (by
    have e1 : decide (i < -(2 ^ 63 : Int)) = false := decide_eq_false (by omega)
    have e2 : decide (i ≥ 2 ^ 63) = false := decide_eq_false (by omega)
    rw [e1, e2, Bool.or_false]) (by rw [h1]; simpa using h2) ⟨.str ⟨#[c]⟩, H, I.tok _, ⟨_, rfl⟩, q⟩) hs
def rIx (K : PySem.W.Frag) : R2 := fun x y H Q => rIxL K x y H Q ∨ rIxT K x y H Q ∨ rIxS x y H Q
theorem mapSeq_set (its : List Value) (n j : Nat) (u : Value) : Obj.mapSeq (·.setIfInBounds j u) { cls := .type "list", data := .seq its.toArray n } = { cls := .type "list", data := .seq (its.set j u).toArray n } := by
  simp [Obj.mapSeq]
theorem Inv.lst {pins : List (Addr × Obj)} {σ : St} {H : Hp} {s : Shared} {p : Addr} {xs : List V} (I : Inv X pins σ H s) (h : H p = some (.lst xs)) :
    ∃ (its : List Value) (n : Nat), Vals xs its ∧ s.heap.get? p = some { cls := .type "list", data := .seq its.toArray n } ∧ xs.length ≤ sizeLine := by
  obtain ⟨z, its, n, r, e⟩ := I.hok p _ h
  exact ⟨its, n, r, e, z⟩
theorem Inv.lstUpd {pins : List (Addr × Obj)} {σ : St} {H : Hp} {s : Shared} {p : Addr} {xs ys : List V} {its its' : List Value} {n n' : Nat} {f : Obj → Obj} (I : Inv X pins σ H s) (h : H p = some (.lst xs))
    (ho : s.heap.get? p = some { cls := .type "list", data := .seq its.toArray n }) (hf : f { cls := .type "list", data := .seq its.toArray n } = { cls := .type "list", data := .seq its'.toArray n' }) (r : Vals ys its') (hz : ys.length ≤ sizeLine) (t : Nat) :
    Inv X pins σ (upd H p (.lst ys)) { s with heap := s.heap.update p f, toks := t } := by
  have e : (s.heap.update p f).get? p = some { cls := .type "list", data := .seq its'.toArray n' } := by
    rw [Heap.get?_update_self f ho (by rw [hf] <;> rfl), hf]
  refine I.write (x := p) (e := p) (by rw [h]; trivial) (.inl rfl) (fun b u hb q => (Heap.get?_update_other _ _ (Ne.symm hb)).trans q) ⟨_, e⟩ ?_
  exact ⟨hz, its', n', r, e⟩
def rSetL : V → V → V → Hp → (Hp → Prop) → Prop := fun o i v H Q => ∃ p xs k j, o = .ref p ∧ i = .int k ∧ H p = some (.lst xs) ∧ ixN xs.length k = some j ∧ Q (upd H p (.lst (xs.set j v)))
theorem set_list : PSet X rSetL := by
  intro pins s σ H o i v ov iv u Q I ro ri rv h
  obtain ⟨p, xs, k, j, rfl, rfl, hp, hj, q⟩ := h
  cases ro
  obtain ⟨t, rfl⟩ := ri
  obtain ⟨its, n, r, ho, hz⟩ := I.lst hp
  obtain ⟨h1, h2, h3, h4⟩ := ixN_seq hj
  have hl := r.length
  have hn := line63
  have I' : Inv X pins σ (upd H p (.lst (xs.set j v))) { s with heap := s.heap.update p (Obj.mapSeq (·.setIfInBounds j u)) } :=
    I.lstUpd hp ho (mapSeq_set its n j u) (r.set rv j) (by rw [List.length_set]; exact hz) s.toks
  by_cases h0 : 0 ≤ k
  · have hk : k.toNat = j := by
      rw [seqIndex_of h0 h4] at h1
      exact Option.some.inj h1
    exact PySem.W.ki_setAt ho h0 (by omega) (by rw [List.size_toArray, ← hl]; exact h4) (by rw [hk]; exact ⟨_, I', q⟩)
  · have hk : (k + (its.toArray.size : Int)).toNat = j := by
      rw [seqIndex_neg (by omega) h3] at h1
      rw [List.size_toArray, ← hl]
      exact Option.some.inj h1
    exact PySem.W.ki_setBack ho (by omega) (by rw [List.size_toArray, ← hl]; exact h3) (by omega) (by rw [hk]; exact ⟨_, I', q⟩)
theorem slice_bounds (lo hi : Option Int) (n : Nat) : (sliceBounds lo hi none n).1 = ((HT.sIx n 0 lo : Nat) : Int) ∧ (sliceBounds lo hi none n).2.1 = ((HT.sIx n n hi : Nat) : Int) ∧ (sliceBounds lo hi none n).2.2 = 1 := by
  refine ⟨?_, ?_, rfl⟩
  · cases lo with
    | none => simp [sliceBounds, HT.sIx]
    | some i =>
      simp only [sliceBounds, HT.sIx, Option.getD_none, show (1 : Int) > 0 by decide, if_true]
      by_cases h : i < 0
      · simp only [h, if_true] <;> omega
      · simp only [h, if_false] <;> omega
  · cases hi with
    | none => simp [sliceBounds, HT.sIx]
    | some i =>
      simp only [sliceBounds, HT.sIx, Option.getD_none, show (1 : Int) > 0 by decide, if_true]
      by_cases h : i < 0
      · simp only [h, if_true] <;> omega
      · simp only [h, if_false] <;> omega
theorem slicePick_cut (its : List Value) (lo hi : Option Int) : slicePick its.toArray lo hi none = ((its.drop (HT.sIx its.length 0 lo)).take (HT.sIx its.length its.length hi - HT.sIx its.length 0 lo)).toArray := by
  obtain ⟨h1, h2, h3⟩ := slice_bounds lo hi its.toArray.size
  unfold slicePick
  rw [h1, h2, h3]
  simp only [sliceRange_one, pick_run, List.size_toArray] <;> rfl
def rSlL (K : PySem.W.Frag) : V → Option Int → Option Int → Hp → VK → Prop := fun x lo hi H Q => ∃ a xs, x = .ref a ∧ SqL K H a xs ∧ ∀ p, H p = none → Q (.ref p) (upd H p (.lst (cutV xs lo hi)))
theorem sl_list : SlR X (rSlL X.K) := by
  intro pins s σ H x v vl vu lo hi sl Q I rx hs pl pu h
  obtain ⟨a, xs, rfl, hx, q⟩ := h
  cases rx
  obtain ⟨its, r, ht, hz⟩ := I.list hx
  have hlen := r.length
  refine ⟨"list", _, slot_list_getitem.lookup, ht.isList.typeIs, ?_⟩
  refine wpAny_getItem_list_slice ht.isList hs pl pu .none (by simp) ?_ (by rw [List.size_toArray] <;> omega)
  rw [slicePick_cut, ← hlen]
  refine ⟨.ref s.heap.objs.size, _, I.laid (t' := s.toks) (o := .lst (cutV xs lo hi)) (fun b ob q => Heap.get?_push_of_some _ q) (Nat.le_refl _) ?_, rfl, q _ (I.hok.fresh (Nat.le_refl _))⟩
  exact ⟨Nat.le_trans (cutV_length xs lo hi) hz, _, 0, (r.drop (HT.sIx xs.length 0 lo)).take (HT.sIx xs.length xs.length hi - HT.sIx xs.length 0 lo), Heap.get?_push_size _ rfl⟩
def flatV : V → Bool
  | .non => true
  | .bl _ => true
  | .int _ => true
  | .str _ => true
  | _ => false
def eqV : V → V → Bool
  | .non, .non => true
  | .bl a, .bl b => a == b
  | .bl a, .int b => (if a then 1 else 0) == b
  | .int a, .bl b => a == (if b then 1 else 0)
  | .int a, .int b => a == b
  | .str a, .str b => a == b
  | _, _ => false
def eqU (x : V) (u : Value) : Bool := match u with
  | .none => eqV .non x
  | .bool b => eqV (.bl b) x
  | .int i _ => eqV (.int i) x
  | .str z _ => eqV (.str z) x
  | _ => false
def inV (x : V) (xs : List V) : Bool := xs.any fun y => eqV y x
def rIn (K : PySem.W.Frag) (neg : Bool) : R2 := fun x y H Q => ∃ p xs, y = .ref p ∧ (SqL K H p xs ∨ SqT K H p xs) ∧ flatV x = true ∧ xs.all flatV = true ∧ Q (.bl (if neg then !inV x xs else inV x xs)) H
theorem call_len_seq : CallR X (.builtin "len") (fun xs H Q => ∃ p ys, xs = [.ref p] ∧ (SqL X.K H p ys ∨ SqT X.K H p ys) ∧ Q (.int ys.length) H) := by
  intro pins s σ H xs us Q I r h
  obtain ⟨p, ys, rfl, hq, q⟩ := h
  obtain ⟨u, rfl, rx⟩ := vals1 r
  cases rx
  have hn := line63
  rcases hq with hq | hq
  · obtain ⟨its, r', pl, hz⟩ := I.list hq
    have hlen := r'.length
    exact Calls.call_len_list pl.isList (by simp only [List.size_toArray] <;> omega) ⟨.int ys.length, H, I.tok _, ⟨s.toks + 1, by rw [List.size_toArray, hlen]⟩, q⟩
  · obtain ⟨its, r', pl, hz⟩ := I.tuple hq
    have hlen := r'.length
    exact len_tuple pl (by simp only [List.size_toArray] <;> omega) ⟨.int ys.length, H, I.tok _, ⟨s.toks + 1, by rw [List.size_toArray, hlen]⟩, q⟩
theorem call_list_of : CallR X (.type "list") (fun xs H Q => ∃ p ys, xs = [.ref p] ∧ (SqL X.K H p ys ∨ SqT X.K H p ys) ∧ ∀ l, H l = none → Q (.ref l) (upd H l (.lst ys))) := by
  intro pins s σ H xs us Q I r h
  obtain ⟨p, ys, rfl, hq, q⟩ := h
  obtain ⟨u, rfl, rx⟩ := vals1 r
  cases rx
  have fin : ∀ (its : List Value), Vals ys its → ys.length ≤ sizeLine → ∀ (h' : Heap) (c' : Nat), (∀ b o', s.heap.get? b = some o' → h'.get? b = some o') →
      h'.get? s.heap.objs.size = some { cls := .type "list", dict := none, data := .seq its.toArray c', slots := #[] } → EP X pins σ Q (.ref s.heap.objs.size) { s with heap := h' } := fun its r' hz h' c' kp e =>
    ⟨.ref s.heap.objs.size, _, I.laid (t' := s.toks) kp (Nat.le_refl _) (show ObjOk X.prog X.w _ h' _ (.lst ys) from ⟨hz, its, c', r', e⟩), rfl, q _ (I.hok.fresh (Nat.le_refl _))⟩
  rcases hq with hq | hq
  · obtain ⟨its, r', pl, hz⟩ := I.list hq
    have hlen := r'.length
    obtain ⟨o, ho, hc, n, hd⟩ := pl.isList
    exact call_list_seq p (.inl rfl) ho hc hd (fun h' c' kp e => fin its r' hz h' c' kp e) (by simp only [List.size_toArray] <;> omega)
  · obtain ⟨its, r', pl, hz⟩ := I.tuple hq
    have hlen := r'.length
    obtain ⟨o, ho, hc, n, hd⟩ := pl
    exact call_list_seq p (.inr rfl) ho hc hd (fun h' c' kp e => fin its r' hz h' c' kp e) (by simp only [List.size_toArray] <;> omega)
theorem call_tuple_of : CallR X (.type "tuple") (fun xs H Q => ∃ p ys, xs = [.ref p] ∧ ((SqL X.K H p ys ∧ ∀ l, H l = none → Q (.ref l) (upd H l (.tup ys))) ∨ (SqT X.K H p ys ∧ Q (.ref p) H))) := by
  intro pins s σ H xs us Q I r h
  obtain ⟨p, ys, rfl, h⟩ := h
  obtain ⟨u, rfl, rx⟩ := vals1 r
  cases rx
  rcases h with ⟨hq, q⟩ | ⟨hq, q⟩
  · obtain ⟨its, r', pl, hz⟩ := I.list hq
    have hlen := r'.length
    refine call_tuple_list pl.isList (fun h' kp => ?_) (by simp only [List.size_toArray] <;> omega)
    have I1 : Inv X pins σ H { s with heap := h' } := I.kept (t' := s.toks) kp
    have I2 : Inv X pins σ (upd H h'.objs.size (.tup ys)) { s with heap := h'.push { cls := .type "tuple", data := .seq its.toArray } } :=
      I1.laid (t' := s.toks) (fun b o e => Heap.get?_push_of_some _ e) (Nat.le_refl _) (show ObjOk X.prog X.w _ _ _ (.tup ys) from ⟨hz, its, r', IsTup.new _ _⟩)
    exact ⟨.ref h'.objs.size, _, I2, rfl, q _ (I1.hok.fresh (Nat.le_refl _))⟩
  · obtain ⟨its, r', pl, hz⟩ := I.tuple hq
    exact call_tuple_same pl ⟨.ref p, H, I, rfl, q⟩
def tyV (K : PySem.W.Frag) (T : String) (x : V) (H : Hp) : Prop := match x with
  | .str _ => T = "str"
  | .int _ => T = "int"
  | .ref p => (T = "list" ∧ ∃ xs, SqL K H p xs) ∨ (T = "tuple" ∧ ∃ o, K.lookup p = some o ∧ o.cls = .type "tuple" ∧ o.dict = none) ∨
      (T = "dict" ∧ ((∃ kvs, H p = some (.dK kvs)) ∨ ∃ kvs, H p = some (.dT kvs))) ∨ (T = "set" ∧ ∃ S n, H p = some (.set S n))
  | _ => False
theorem tyV_is {pins : List (Addr × Obj)} {σ : St} {H : Hp} {s : Shared} {T : String} {x : V} {v : Value} (I : Inv X pins σ H s) (r : RelV x v) (ty : tyV X.K T x H) :
    s.TypeIs v T ∧ ∀ a, v = .ref a → ∃ ob, s.heap.get? a = some ob ∧ ob.dict = none := by
  cases x with
  | str z =>
    obtain ⟨t, rfl⟩ := r
    cases (show T = "str" from ty)
    exact ⟨typeIs_str s z t, fun _ e => nomatch e⟩
  | int i =>
    obtain ⟨t, rfl⟩ := r
    cases (show T = "int" from ty)
    exact ⟨typeIs_int s i t, fun _ e => nomatch e⟩
  | ref p =>
    cases r
    rcases ty with ⟨rfl, xs, hq⟩ | ⟨rfl, o, hk, hc, hd⟩ | ⟨rfl, hk⟩ | ⟨rfl, S, n, hk⟩
    · obtain ⟨its, _, pl, _⟩ := I.list hq
      refine ⟨pl.isList.typeIs, fun a e => ?_⟩
      cases e
      obtain ⟨o, n, e, c, hd, _⟩ := pl
      exact ⟨o, e, hd⟩
    · refine ⟨⟨o, I.kIn p o hk, hc⟩, fun a e => ?_⟩
      cases e
      exact ⟨o, I.kIn _ o hk, hd⟩
    · have z : ∃ o, s.heap.get? p = some o ∧ o.ExactDict := by
        rcases hk with ⟨kvs, hk⟩ | ⟨kvs, hk⟩
        · obtain ⟨_, _, _, _, o, _, _, e, ex, _⟩ := I.hok p _ hk
          exact ⟨o, e, ex⟩
        · obtain ⟨_, _, _, _, o, _, _, e, ex, _⟩ := I.hok p _ hk
          exact ⟨o, e, ex⟩
      obtain ⟨o, e, ex⟩ := z
      refine ⟨⟨o, e, ex.1⟩, fun a e2 => ?_⟩
      cases e2
      exact ⟨o, e, ex.2.1⟩
    · obtain ⟨o, _, _, _, e, ex, _⟩ := I.hok p _ hk
      refine ⟨⟨o, e, ex.1⟩, fun a e2 => ?_⟩
      cases e2
      exact ⟨o, e, ex.2.1⟩
  | _ => exact False.elim ty
def tBM0 (K : PySem.W.Frag) (T : String) (r : V → List V → Hp → VK → Prop) (to : TE) : TE := fun σ H Q => to σ H fun x H1 => tyV K T x H1 ∧ r x [] H1 Q
def tBM (K : PySem.W.Frag) (T : String) (r : V → List V → Hp → VK → Prop) (to : TE) (t : TA) : TE := fun σ H Q => to σ H fun x H1 => tyV K T x H1 ∧ t σ H1 fun xs H2 => r x xs H2 Q
variable {o e : Expr} {es : List Expr} {to : TE} {t : TA} {name : Str} {apos cpos : Pos} {T id : String} {r : V → List V → Hp → VK → Prop}
theorem pe_bm0 (pa : PlainAttrs T) (slot : Slot T name id) (hty : typeOf (.builtin id) = pure (.type "method_descriptor")) (hm : MtR X id r) (ho : PE X o to)
    (hbase : attributeBase o name X.env (eval o X.env) = eval o X.env := by rfl) (hline : (apos.endLine == cpos.line) = true := by rfl) : PE X (.Call (.Attribute o name apos) [] [] cpos) (tBM0 X.K T r to) := by
  intro pins s σ H Q I h
  refine wpAny_Call_method0_late hbase hline (thn (ho pins s σ H _ I h) fun v s1 ⟨x, H1, I1, r1, ty, q1⟩ => ?_)
  obtain ⟨h1, h2⟩ := tyV_is I1 r1 ty
  exact ⟨T, id, pa, slot, hty, h1, h2, Calls.callWith_builtin rfl (PySem.evalArgs_none (hm pins s1 σ H1 x [] v [] Q I1 r1 .nil q1))⟩
theorem pe_bm (pa : PlainAttrs T) (slot : Slot T name id) (hty : typeOf (.builtin id) = pure (.type "method_descriptor")) (hm : MtR X id r) (ho : PE X o to) (ha : PA X (e :: es) t)
    (hbase : attributeBase o name X.env (eval o X.env) = eval o X.env := by rfl)
    (hfew : ((backTo cpos (starEach (e :: es) X.env)).all (fun x => !x.1) && (backToKw cpos (keywordEach [] X.env)).all (fun x => x.1.isSome)
      && decide ((e :: es).length + ([] : List Keyword).length + (if ([] : List Keyword).isEmpty then 0 else 1) < 30)) = true := by rfl)
    (hline : (apos.endLine == cpos.line) = true := by rfl) (hs : starEach (e :: es) X.env = (false, eval e X.env) :: starEach es X.env := by rfl) (hplain : (backTo cpos (starEach es X.env)).any (·.1) = false := by rfl) :
    PE X (.Call (.Attribute o name apos) (e :: es) [] cpos) (tBM X.K T r to t) := by
  intro pins s σ H Q I h
  refine wpAny_Call_method_late hbase hfew hline rfl (thn (ho pins s σ H _ I h) fun v s1 ⟨x, H1, I1, r1, ty, q1⟩ => ?_)
  obtain ⟨h1, h2⟩ := tyV_is I1 r1 ty
  refine ⟨T, id, pa, slot, hty, h1, h2, ?_⟩
  have hA := ha cpos pins s1 σ H1 _ I1 q1
  rw [hs] at hA ⊢
  refine Calls.callWith_builtin (by show (false || (backTo cpos (starEach es X.env)).any (·.1)) = false; rw [hplain] <;> rfl) (Calls.evalArgs_plain ?_)
  exact thn hA fun us s2 ⟨vs, H2, I2, r2, q2⟩ => hm pins s2 σ H2 x vs v us Q I2 r1 r2 q2
/- xs.append(e), list.index on a module's tuple .. are MtR facts of 06m -/
end
end L2
namespace L2
open PySem PySem.Spec PyProof.Rows
def MtM (X : Cx) (id : String) (r : V → List V → Hp → VK → Prop) : Prop :=
  ∀ (pins : List (Addr × Obj)) (s : Shared) (σ : St) (H : Hp) (x : V) (xs : List V) (v : Value) (us : List Value) (Q : VK), Inv X pins σ H s → RelV x v → Vals xs us → r x xs H Q →
    wpAny (model X.prog X.w) X.A (call (.builtin id) (v :: us)) (EP X pins σ Q) X.xe s
theorem Vals.one : ∀ {x : V} {us : List Value}, Vals [x] us → ∃ u, us = [u] ∧ RelV x u
  | _, _, .cons r .nil => ⟨_, rfl, r⟩
theorem Vals.zero : ∀ {us : List Value}, Vals [] us → us = []
  | _, .nil => rfl
section
variable {X : Cx} {pins : List (Addr × Obj)} {σ : St} {H : Hp} {s : Shared} {l b : Addr} {xs ys zs : List V}
theorem Inv.lset {its its' : List Value} {n : Nat} {f : Array Value → Array Value} {t' : Nat} (I : Inv X pins σ H s) (hH : H l = some (.lst xs))
    (e : s.heap.get? l = some { cls := .type "list", data := .seq its.toArray n }) (hf : f its.toArray = its'.toArray) (hv : Vals ys its') (hz : ys.length ≤ sizeLine) :
    Inv X pins σ (upd H l (.lst ys)) { s with heap := s.heap.update l (Obj.mapSeq f), toks := t' } := by
  have q := PySem.IsL.update e f
  rw [hf] at q
  refine I.write (x := l) (e := l) (by rw [hH]; exact trivial) (.inl rfl) (fun b' u hb hu => (Heap.get?_update_other s.heap (Obj.mapSeq f) (Ne.symm hb)).trans hu) ⟨_, q⟩ ?_
  exact ⟨hz, its', _, hv, q⟩
theorem Inv.lnew {its : List Value} {t' : Nat} (I : Inv X pins σ H s) (hv : Vals ys its) (hz : ys.length ≤ sizeLine) :
    Inv X pins σ (upd H s.heap.objs.size (.lst ys)) { s with heap := s.heap.push { cls := .type "list", data := .seq its.toArray }, toks := t' } :=
  I.laid (fun _ _ q => Heap.get?_push_of_some _ q) (Nat.le_refl _) ⟨hz, its, 0, hv, Heap.get?_push_size _ rfl⟩
theorem Inv.fresh (I : Inv X pins σ H s) : H s.heap.objs.size = none := I.hok.fresh (Nat.le_refl _)
theorem Inv.lstM (I : Inv X pins σ H s) (hH : H l = some (.lst xs)) : xs.length ≤ sizeLine ∧ ∃ (its : List Value) (n : Nat), Vals xs its ∧ xs.length = its.length ∧ s.heap.get? l = some { cls := .type "list", data := .seq its.toArray n } := by
  obtain ⟨z, its, n, r, e⟩ := I.hok l _ hH
  exact ⟨z, its, n, r, r.length, e⟩
end
section
variable {X : Cx}
def rAppend : V → List V → Hp → VK → Prop := fun x vs H Q => ∃ l xs y, x = .ref l ∧ vs = [y] ∧ H l = some (.lst xs) ∧ xs.length < sizeLine ∧ Q .non (upd H l (.lst (xs ++ [y])))
theorem mt_append : MtM X "list.append" rAppend := by
  intro pins s σ H x vs v us Q I rx rv h
  obtain ⟨l, xs, y, rfl, rfl, hH, hz, q⟩ := h
  cases rx
  obtain ⟨u, rfl, ru⟩ := rv.one
  obtain ⟨z, its, n, r, hl, e⟩ := I.lstM hH
  refine call_meets F.slot_list_append ⟨_, e, rfl⟩ F.entry_list_append (F.args_list_append_2 _ _) (PySem.list_append l its.toArray n u (by rw [List.size_toArray]; omega)) ⟨e, ?_⟩
  refine ⟨.non, _, I.lset (its' := its ++ [u]) hH e (by simp) (r.append (.cons ru .nil)) ?_, rfl, q⟩
  rw [List.length_append, List.length_singleton]
  omega
def rExtend : V → List V → Hp → VK → Prop := fun x vs H Q => ∃ l b xs zs, x = .ref l ∧ vs = [.ref b] ∧ H l = some (.lst xs) ∧ H b = some (.lst zs) ∧ xs.length + zs.length ≤ sizeLine ∧ Q .non (upd H l (.lst (xs ++ zs)))
def rPop : V → List V → Hp → VK → Prop := fun x vs H Q => ∃ l xs y, x = .ref l ∧ vs = [] ∧ H l = some (.lst xs) ∧ xs[xs.length - 1]? = some y ∧ Q y (upd H l (.lst xs.dropLast))
def rPopAt : V → List V → Hp → VK → Prop := fun x vs H Q => ∃ l xs i k y, x = .ref l ∧ vs = [.int i] ∧ H l = some (.lst xs) ∧ -(2 ^ 63) ≤ i ∧ i < 2 ^ 63 ∧ seqIndex? i xs.length = some k ∧ xs[k]? = some y ∧ Q y (upd H l (.lst (xs.eraseIdx k)))
def rReverse : V → List V → Hp → VK → Prop := fun x vs H Q => ∃ l xs, x = .ref l ∧ vs = [] ∧ H l = some (.lst xs) ∧ Q .non (upd H l (.lst xs.reverse))
def rClear : V → List V → Hp → VK → Prop := fun x vs H Q => ∃ l xs, x = .ref l ∧ vs = [] ∧ H l = some (.lst xs) ∧ Q .non (upd H l (.lst []))
theorem mt_clear : MtM X "list.clear" rClear := by
  intro pins s σ H x vs v us Q I rx rv h
  obtain ⟨l, xs, rfl, rfl, hH, q⟩ := h
  cases rx
  have hus := rv.zero
  subst hus
  obtain ⟨z, its, n, r, hl, e⟩ := I.lstM hH
  refine call_meets F.slot_list_clear ⟨_, e, rfl⟩ F.entry_list_clear (F.args_list_clear_1 _) (AutoSeq1.list_clear_list_0 l its.toArray n (by rw [List.size_toArray]; omega)) ⟨e, ?_⟩
  exact ⟨.non, _, I.lset (its' := []) (ys := []) hH e rfl .nil (Nat.zero_le _), rfl, q⟩
def rCat : R2 := fun x y H Q => ∃ l b xs zs, x = .ref l ∧ y = .ref b ∧ H l = some (.lst xs) ∧ H b = some (.lst zs) ∧ xs.length + zs.length ≤ sizeLine ∧ ∀ p, H p = none → Q (.ref p) (upd H p (.lst (xs ++ zs)))
theorem op_cat : OpR X (binaryOp .Add) rCat := by
  intro pins s σ H x y v u Q I rx ry h
  obtain ⟨l, b, xs, zs, rfl, rfl, hH, hB, hz, q⟩ := h
  cases rx
  cases ry
  obtain ⟨z, its, n, r, hl, e⟩ := I.lstM hH
  obtain ⟨z2, its2, n2, r2, hl2, e2⟩ := I.lstM hB
  refine PySem.P.add_list e e2 ?_ (by rw [List.size_toArray, List.size_toArray]; omega)
  have ea : its.toArray ++ its2.toArray = (its ++ its2).toArray := by simp
  rw [ea]
  exact ⟨.ref _, _, I.lnew (t' := s.toks) (r.append r2) (by rw [List.length_append]; omega), rfl, q _ I.fresh⟩
def rRep : R2 := fun x y H Q => ∃ l k xs, x = .ref l ∧ y = .int k ∧ H l = some (.lst xs) ∧ -(2 ^ 63) ≤ k ∧ k < 2 ^ 63 ∧ xs.length * k.toNat ≤ sizeLine ∧
  ∀ p, H p = none → Q (.ref p) (upd H p (.lst (List.replicate k.toNat xs).flatten))
end
section
variable {prog : Program} {w : World} {A : Around} {E : Value → Shared → Prop} {s : Shared}
end
section
variable {X : Cx}
end
end L2
namespace Att
open PySem PySem.W PySem.Calls PyProof.Rows
theorem ints_of_wellAll {P : Params} {h : Heap} : ∀ (ns : List Int) (vs : List Value), WellAll P h vs (ns.map WData.int) → IntsAre vs ns := by
  intro ns
  induction ns with
  | nil =>
    intro vs w
    rw [List.map_nil] at w
    cases w
    exact .nil
  | cons n ns ih =>
    intro vs w
    rw [List.map_cons] at w
    cases w with
    | cons a b =>
      cases a
      exact .cons _ _ (ih _ b)
theorem script_of {l : OpenLaw} {n : Nat} (hn : l.most = some n) {P : Params} {h : Heap} {args : List WData} {vals : List Value}
    (hpre : l.row.toRowW.claim.pre args = true) (hwl : WellAll P h vals args) :
    ∃ a vs ns, vals = [Value.ref a] ∧ args = [WData.list (ns.map WData.int)] ∧ h.get? a = some { cls := .type "list", data := .seq vs.toArray } ∧ IntsAre vs ns ∧ ns.length ≤ n := by
  have hsh : WShape.hasAll [] args [.list .int] = true := (pre_splitW hpre).1
  have hc : l.pre.holds [] { args := args } = true := (pre_splitW hpre).2
  obtain ⟨d, r, rfl, h1, h2⟩ := hasAllW_cons hsh
  obtain rfl := hasAllW_nil h2
  obtain ⟨xs, rfl, h3⟩ := hasW_list h1
  obtain ⟨ns, rfl⟩ := items_int h3
  have hlen : ns.length ≤ n := by
    unfold OpenLaw.pre at hc
    have h4 : (WTm.not (.lt (.lit (.int (n : Int))) (.len (.arg 0)))).holds [] { args := [.list (ns.map .int)] } = true := by
      have h4 := (holds_andW hc).1
      rw [hn] at h4
      exact h4
    have h5 := condW_of h4 (w_not (w_lt w_lit (w_len_list (w_arg rfl))))
    rw [List.length_map] at h5
    refine Nat.le_of_not_lt fun q => ?_
    have q' : (n : Int) < ((ns.length : Nat) : Int) := by omega
    first
      | (rw [decide_eq_true q'] at h5; exact absurd h5 (by decide))
      | (simp at h5; omega)
  cases hwl with
  | cons w1 w2 =>
    cases w2
    cases w1 with
    | list ho hall => exact ⟨_, _, ns, rfl, rfl, ho, ints_of_wellAll ns _ hall, hlen⟩
theorem post_true (l : OpenLaw) (args : List WData) : l.row.toRowW.claim.post args (.bool true) args = true :=
  postW_of (r := l.row.toRowW) (X := (true == true))
    (show WShape.has [] (.bool true) .bool = true by first | rfl | decide | simp [WShape.has, WShape.arms, WShape.armsAll])
    (show (WTm.eq .res (.lit (.bool true))).value [] { args := args, res := some (.bool true), after := args } = some (.bool (true == true)) from w_eq_bool (w_res rfl) w_lit) rfl
section
variable {prog : Program} {w : World} {A : Around} {E : Value → Shared → Prop} {s : Shared} {K : Frag}
def noObjs (h : Heap) : Heap := { h with objs := #[] }
def ledger (h : Heap) (L d : Addr) : List (Addr × Obj) := (List.range h.objs.size).filterMap fun a => if a = L ∨ a = d then none else (h.get? a).map fun o => (a, o)
end
end Att
namespace L2
open PySem PySem.Spec PyProof.Rows
theorem vals_ints : ∀ {vs : List Value} {ns : List Int}, IntsAre vs ns → Vals (ns.map V.int) vs
  | _, _, .nil => .nil
  | _, _, .cons n t h => .cons ⟨t, rfl⟩ (vals_ints h)
def Only (H : Hp) : Prop := ∀ b, H b = none ∨ ∃ o xs, H b = some (.frz o (.lst xs))
theorem law_call {P : Program} {w : World} {K : PySem.W.Frag} {mg mb : Str → Option Value} {CX : CXT} {k : Nat} {fa a : Addr} {fd : FuncData} {x : Str} {sp : Sp} {s₁ : Shared} {vs : List Value} {ns : List Int}
    (KX : K.In s₁.heap) (hns : s₁.heap.Ns mainGlobals mg) (hb : s₁.heap.Ns builtinsNs mb) (hbb : ∀ x : Str, x ≠ "__name__" → mb x = bootBuiltins x) (hlim : s₁.heap.NoLimit) (hg : s₁.gens = #[])
    (ha : s₁.heap.get? a = some { cls := .type "list", data := .seq vs.toArray }) (hi : IntsAre vs ns) (hl : ns.length ≤ sizeLine) (hr : Room k callerA)
    (F : ∀ base : Heap, K.In base → base.Ns mainGlobals mg → FnOk P w K mg base CX k fa fd [x] sp) (hbind : ∀ (s : Shared) (u : Value), BindsTo s fd ⟨[u], []⟩ [(x, u)])
    (hsp : ∀ H : Hp, Only H → SqL K H a (ns.map V.int) → sp [.ref a] H (fun v _ => v = .bl true) fun _ _ _ => False)
    (hCX : ∀ H e s', CX [] H s₁ (fun _ _ _ => False) e s' → False) :
    codeAny (model P w) callerA (.call (.ref fa) ⟨[.ref a], []⟩) (fun r s' => r = .ok (.ret (.bool true)) ∧ OldK s₁.heap s'.heap ∧ s'.os = s₁.os ∧ AllBare s'.gens) s₁ := by
  have rv := vals_ints hi
  have lenV := hi.length
  have core : ∀ H : Hp, Only H → SqL K H a (ns.map V.int) → HOk P w H s₁.heap → (∀ b, H b ≠ none → b = a) → (H a ≠ none → K.lookup a = none) →
      codeAny (model P w) callerA (.call (.ref fa) ⟨[.ref a], []⟩) (fun r s' => r = .ok (.ret (.bool true)) ∧ OldK s₁.heap s'.heap ∧ s'.os = s₁.os ∧ AllBare s'.gens) s₁ := by
    intro H hO hS hok hA hK
    have base_of : ∀ {b : Addr} {o : Obj}, s₁.heap.get? b = some o → H b = none → (hidT s₁.heap H).get? b = some o := fun e n => hidT_get e n
    have noA : ∀ {b : Addr} {o : Obj} {es : Array DictEntry} {ep : Nat}, s₁.heap.get? b = some o → o.data = .dict es ep → H b = none := fun {b o es ep} e d => by
      cases q : H b with
      | none => rfl
      | some u =>
        have e' : b = a := hA b (by rw [q]; simp)
        subst e'
        rw [ha] at e; cases e
        have d' : Data.seq vs.toArray _ = Data.dict es ep := d
        cases d'
    have nsK : ∀ {b : Addr} {m : Str → Option Value}, s₁.heap.Ns b m → (hidT s₁.heap H).Ns b m := fun {b m} ⟨o, es, ep, e, d, r⟩ => ⟨o, es, ep, base_of e (noA e d), d, r⟩
    have hKb : K.In (hidT s₁.heap H) := fun b o e => base_of (KX b o e) (by
      cases q : H b with
      | none => rfl
      | some u =>
        have e' : b = a := hA b (by rw [q]; simp)
        subst e'
        rw [hK (by rw [q]; simp)] at e; cases e)
    have hM : Mod K mg (hidT s₁.heap H) := ⟨hKb, nsK hns, ⟨mb, nsK hb, hbb⟩, let ⟨mc, h1, h2⟩ := hlim; ⟨mc, nsK h1, h2⟩⟩
    have e0 : Env0 P w K mg (hidT s₁.heap H) callerA [] s₁ H := ⟨rfl, hM, fun b o e => of_hidT e, Nat.le_of_eq (hidT_size _ _), trivial, fun b hb => absurd (show b ∈ ([] : List Addr) from hb) (by simp), hok, .of_eq hg⟩
    refine codeAny_mono ((F _ hKb (nsK hns)).run callerA [] s₁ H ⟨[.ref a], []⟩ [.ref a] [.ref a] _ _ hr e0 (hbind s₁ (.ref a)) (.cons rfl .nil) (hsp H hO hS)) fun r s' h => ?_
    cases r with
    | error e => exact (hCX H e s' h).elim
    | ok fl =>
      cases fl with
      | next => exact False.elim h
      | brk => exact False.elim h
      | cont => exact False.elim h
      | ret u =>
        obtain ⟨v, H', os, bare, un, hok', r', q⟩ := h
        have q' : v = .bl true := q
        subst q'
        obtain rfl : u = Value.bool true := r'
        refine ⟨rfl, OldK.of_keep fun b o e => ?_, os, bare⟩
        cases q : H b with
        | none => exact un.keep b o e q (by intro z; exact absurd (show b ∈ ([] : List Addr) from z) (by simp)) (by simp)
        | some u =>
          rcases hO b with z | ⟨ob, xs, z⟩
          · rw [q] at z; cases z
          · have z2 := un.frzs b ob _ z
            obtain ⟨e1, _⟩ := hok b _ z
            obtain ⟨e2, _⟩ := hok' b _ z2
            rw [e] at e1; cases e1
            exact e2
  cases hk : K.lookup a with
  | some o =>
    have e := KX a o hk
    rw [ha] at e
    cases e
    refine core (fun _ => none) (fun _ => .inl rfl) (.inr ⟨_, vs.toArray, _, hk, rfl, rfl, rfl, by rw [List.size_toArray, lenV]; exact hl, by simpa using rv⟩) (fun b u z => by have z' : (none : Option HO) = some u := z; cases z') (fun b z => absurd rfl z) fun z => absurd rfl z
  | none =>
    refine core (fun b => if b = a then some (.frz { cls := .type "list", data := .seq vs.toArray } (.lst (ns.map V.int))) else none) (fun b => ?_) (.inl (.inr ⟨{ cls := .type "list", data := .seq vs.toArray }, if_pos rfl⟩)) (fun b u z => ?_) (fun b z => ?_) fun _ => hk
    · by_cases hb : b = a
      · exact .inr ⟨_, _, if_pos hb⟩
      · exact .inl (if_neg hb)
    · by_cases hb : b = a
      · have z' := (if_pos hb).symm.trans z
        cases z'
        subst hb
        exact ⟨ha, by rw [List.length_map]; exact hl, vs, _, rv, ha⟩
      · have z' := (if_neg hb).symm.trans z
        cases z'
    · by_cases hb : b = a
      · exact hb
      · exact absurd (if_neg hb) z
end L2
namespace L2
open PySem PySem.Spec PyProof.Rows
abbrev KOf {K : PySem.W.Frag} {h : Heap} (_ : K.In h) : PySem.W.Frag := K
end L2
/- THE LAST THEOREM (shape; LID, My.* are yours):
   My.Adr: a structure of the addresses that your layer names (classes, functions); My.Txt K t: a structure (Prop) of the equations over K;
   My.txt_mk : {K} {implicit addresses ..} (e1 : nsIn K mainGlobals "law" = some (some (.ref f))) (e2 : K.lookup f = some ⟨oc, od, .func (fnOf "law" "law" params body scope dV kV doc pm an cdv ct), sl⟩) (e3 : codeIn K cdv "law" = true) .. : ∃ t, My.Txt K t
set_option maxRecDepth 100000 in
set_option maxHeartbeats 0 in
theorem PySem.Challenge.cw_LID_holds : PySem.Challenge.rw_LID.Holds := by
  w_on; o_law; k_head; (case hw => w_witness2)
  k_fill
  refine L2.walk_of (l := PySem.Challenge.rw_LID) (n := 63) (k := 40) (x := "script") (CX := fun w => ..) (sp := fun _ => My.sp_law) rfl (by decide) rfl ⟨rfl, by decide, by decide⟩ (fun w h Y => PySem.W.kIn_of Y) ?F ?S ?C
  case F =>
    intro w mg fa h KX G hmg
    have T : ∃ t, My.Txt (L2.KOf KX) t := by
      dsimp only [L2.KOf]                          -- K must stand as «<heap const> w.params» for k_is
      refine' My.txt_mk ?e1 ?e2 ?e3 ..
      (case e1 => PySem.W.k_is)                    -- in the order: a name -> its address -> its object -> its parts
      (case e2 => PySem.W.k_is)
      ..
    obtain ⟨t, T⟩ := T
    have e0 := hmg.symm.trans (PySem.W.mg_of KX G T.law)
    cases e0                                       -- fa is the law's own address
    exact ⟨_, fun s u => .of_eq rfl, fun base kb nb => My.law_fn T kb nb⟩     -- if «.of_eq rfl» comes too early: refine' ⟨_, ?b, fun base kb nb => My.law_fn T kb nb⟩; exact fun s u => .of_eq rfl
  case S => exact fun w H a ns hl hO hS => ..
  case C => exact ..
(the tactic k_is has no namespace: write k_is) -/
namespace L2
open PySem PySem.Spec PyProof.Rows
def inClass (s : Stmt) (j : Nat) : Stmt := match s with
  | .ClassDef _ _ _ body _ _ _ _ _ _ _ => body.getD j (.Pass ⟨0, 0, 0, 0⟩)
  | _ => .Pass ⟨0, 0, 0, 0⟩
def defArgs (s : Stmt) : Arguments := match s with
  | .FunctionDef _ a _ _ _ _ _ _ _ _ => a
  | _ => { posonlyargs := [], args := [], vararg := none, kwonlyargs := [], kw_defaults := [], kwarg := none, defaults := [] }
def defBody (s : Stmt) : List Stmt := match s with
  | .FunctionDef _ _ b _ _ _ _ _ _ _ => b
  | _ => []
def defScope (s : Stmt) : Scope := match s with
  | .FunctionDef _ _ _ _ _ _ sc _ _ _ => sc
  | _ => { kind := .function, names := [], isGenerator := false, isCoroutine := false }
abbrev CX0 : CXT := fun _ _ _ _ _ _ => False
abbrev E0 : XK := fun _ _ _ => False
theorem pass0 {X : Cx} : Passes CX0 X E0 := fun _ _ _ _ _ _ _ h => h.elim
structure Fun (K : PySem.W.Frag) (x qual : Str) (st : Stmt) (f : Addr) (fd : FuncData) : Prop where
  ex : ∃ (oc : Value) (od : Option Addr) (kV doc pm : Value) (an : Option Addr) (cdv ct : Value) (osl : Array (Option Value)),
    fd = PySem.W.fnOf x qual (defArgs st) (defBody st) (defScope st) .none kV doc pm an cdv ct ∧ K.lookup f = some ⟨oc, od, .func fd, osl⟩ ∧ PySem.W.codeIn K cdv qual = true
  kp : PySem.W.keepIn K (.ref f) = true
section
variable {P : Program} {w : World} {K : PySem.W.Frag} {mg : Str → Option Value} {base : Heap}
theorem Fun.ok {x qual : Str} {st : Stmt} {f : Addr} {fd : FuncData} {N ps : List Str} {k : Nat} {sp : Sp} (F : Fun K x qual st f fd) (S : FnScope N ps (defScope st)) (len : ∀ vs H Q E, sp vs H Q E → vs.length = ps.length)
    (hbody : ∀ (cdv : Value) (A : Around) (outer : List Env) (s : Shared) (H : Hp) (vs : List V) (Q : VK) (E : XK), Room k (A.deeper (envOfC qual (defScope st) s.heap.objs.size f cdv)) → sp vs H Q E →
      ∃ t, PSs (cxOf CX0 P w K mg base N qual (defScope st) f cdv A outer s H E).nox (defBody st) t ∧ t { nx := fun _ H' => Q .non H', rt := Q } (start N vs) H) : FnOk P w K mg base CX0 (k + 1) f fd ps sp := by
  obtain ⟨oc, od, kV, doc, pm, an, cdv, ct, osl, rfl, lk, hcd⟩ := F.ex
  refine fn_of lk hcd S len fun A outer s H vs Q E hr hsp => ?_
  obtain ⟨t, h, q⟩ := hbody cdv A outer s H vs Q E hr hsp
  exact ⟨t, h.nox, q⟩
theorem Fun.binds {x qual : Str} {st : Stmt} {f : Addr} {fd : FuncData} {ps : List Str} (F : Fun K x qual st f fd)
    (h : ∀ (kV doc pm : Value) (an : Option Addr) (cdv ct : Value) (us : List Value), us.length = ps.length → bindArgs (PySem.W.fnOf x qual (defArgs st) (defBody st) (defScope st) .none kV doc pm an cdv ct) ⟨us, []⟩ = pure (ps.zip us)) : Binds K fd ps [] := by
  obtain ⟨oc, od, kV, doc, pm, an, cdv, ct, osl, rfl, lk, hcd⟩ := F.ex
  exact .all (h kV doc pm an cdv ct)
theorem fun_mk {x qual : Str} {st : Stmt} {f : Addr} {oc : Value} {od an : Option Addr} {osl : Array (Option Value)} {kV doc pm cdv ct : Value} (l : K.lookup f = some ⟨oc, od, .func (PySem.W.fnOf x qual (defArgs st) (defBody st) (defScope st) .none kV doc pm an cdv ct), osl⟩)
    (c : PySem.W.codeIn K cdv qual = true) (k : PySem.W.keepIn K (.ref f) = true) : Fun K x qual st f (PySem.W.fnOf x qual (defArgs st) (defBody st) (defScope st) .none kV doc pm an cdv ct) := ⟨⟨oc, od, kV, doc, pm, an, cdv, ct, osl, rfl, l, c⟩, k⟩
end
theorem hu_of {A : Around} {k : Nat} (hr : Room k A) : A.units + 1 < cLine := Nat.lt_of_le_of_lt (Nat.add_le_add_left (by decide : 1 ≤ 64) _) hr.units
section
variable {X : Cx}
theorem pv (i : Nat) {x : Str} {pos : Pos} (hN : X.N[i]? = some x := by rfl) (hv : Vis X.env.scope x := by first | exact Or.inl rfl | exact Or.inr (Or.inl rfl) | exact Or.inr (Or.inr rfl)) (hd : (x == ("__debug__" : Str)) = false := by decide)
    (hcd : (x == ("__classdict__" : Str)) = false := by decide) : PE X (.Name x pos) (tVar i) := pe_var hN hv hd hcd
end
theorem iteF {A B : Prop} (h : B) : if false = true then A else B := by
  rw [if_neg Bool.false_ne_true]
  exact h
theorem iteT {A B : Prop} (h : A) : if true = true then A else B := by
  rw [if_pos rfl]
  exact h
def Same (H H' : Hp) : Prop := ∀ b o, H b = some o → H' b = some o
theorem Same.refl (H : Hp) : Same H H := fun _ _ h => h
theorem Same.trans {H H1 H2 : Hp} (a : Same H H1) (b : Same H1 H2) : Same H H2 := fun c o h => b c o (a c o h)
theorem Same.free {H H' : Hp} (e : Same H H') {l : Addr} (h : H' l = Option.none) : H l = Option.none := by
  cases q : H l with
  | none => rfl
  | some o =>
    rw [e l o q] at h
    cases h
theorem Same.seq {K : PySem.W.Frag} {H H' : Hp} {a : Addr} {xs : List V} (e : Same H H') (h : SqL K H a xs) : SqL K H' a xs := by
  rcases h with (h | ⟨o, h⟩) | h
  · exact .inl (.inl (e _ _ h))
  · exact .inl (.inr ⟨o, e _ _ h⟩)
  · exact .inr h
end L2
namespace FW
structure Low (a b : Int) : Prop where
  pos : 0 < b
  cop : Int.gcd a b = 1
theorem cop_dvd {x y a b : Int} (h : Int.gcd a b = 1) (hx : x ∣ a) (hy : y ∣ b) : Int.gcd x y = 1 := by
  rw [Int.gcd_eq_one_iff] at h ⊢
  exact fun c h1 h2 => h c (Int.dvd_trans h1 hx) (Int.dvd_trans h2 hy)
theorem cop_mul {x y z : Int} (h1 : Int.gcd x y = 1) (h2 : Int.gcd x z = 1) : Int.gcd x (y * z) = 1 := by
  rw [Int.gcd_mul_right_right_of_gcd_eq_one h1]
  exact h2
theorem cop_mul_left {x y z : Int} (h1 : Int.gcd x z = 1) (h2 : Int.gcd y z = 1) : Int.gcd (x * y) z = 1 := by
  rw [Int.gcd_mul_right_left_of_gcd_eq_one h1]
  exact h2
theorem dvd_of_cop {a b c : Int} (h : Int.gcd a b = 1) (d : a ∣ b * c) : a ∣ c := by
  have h1 : a ∣ ((Int.gcd a b : Nat) : Int) * c := Int.dvd_gcd_mul_iff_dvd_mul.mpr d
  rw [h] at h1
  simpa using h1
theorem Low.uniq {a b c d : Int} (h : Low a b) (k : Low c d) (e : a * d = c * b) : a = c ∧ b = d := by
  have h1 : b ∣ d := dvd_of_cop (a := b) (b := a) (by rw [Int.gcd_comm]; exact h.cop) ⟨c, by rw [e, Int.mul_comm]⟩
  have h2 : d ∣ b := dvd_of_cop (a := d) (b := c) (by rw [Int.gcd_comm]; exact k.cop) ⟨a, by rw [← e, Int.mul_comm]⟩
  have e1 : b = d := by
    have := Int.le_of_dvd k.pos h1
    have := Int.le_of_dvd h.pos h2
    omega
  subst e1
  exact ⟨Int.eq_of_mul_eq_mul_right (by have := h.pos; omega) e, rfl⟩
abbrev g (a b : Int) : Int := ((Int.gcd a b : Nat) : Int)
theorem g_pos {a b : Int} (h : b ≠ 0) : 0 < g a b := by
  have := Int.gcd_pos_of_ne_zero_right a h
  show (0 : Int) < ((Int.gcd a b : Nat) : Int)
  omega
theorem g_step {a b : Int} : Int.gcd b (a % b) = Int.gcd a b := by
  rw [Int.emod_def, Int.gcd_sub_mul_left_right, Int.gcd_comm]
def low (t b : Int) : Int × Int := (t / g t b, b / g t b)
theorem low_mul {t b : Int} : (low t b).1 * g t b = t ∧ (low t b).2 * g t b = b :=
  ⟨Int.ediv_mul_cancel (Int.gcd_dvd_left ..), Int.ediv_mul_cancel (Int.gcd_dvd_right ..)⟩
theorem low_Low {t b : Int} (h : 0 < b) : Low (low t b).1 (low t b).2 := by
  have gp := g_pos (a := t) (b := b) (by omega)
  refine ⟨?_, ?_⟩
  · have e := (low_mul (t := t) (b := b)).2
    rcases Int.lt_or_le 0 (low t b).2 with q | q
    · exact q
    · have := Int.mul_nonpos_of_nonpos_of_nonneg q (Int.le_of_lt gp)
      omega
  · exact Int.gcd_ediv_gcd_ediv_gcd_of_ne_zero_right (by omega)
theorem low_eq {t b : Int} : (low t b).1 * b = t * (low t b).2 := by
  have e := low_mul (t := t) (b := b)
  generalize (low t b).1 = x at e ⊢
  generalize (low t b).2 = y at e ⊢
  obtain ⟨e1, e2⟩ := e
  calc x * b = x * (y * g t b) := by rw [e2]
    _ = (x * g t b) * y := by rw [Int.mul_comm y, Int.mul_assoc]
    _ = t * y := by rw [e1]
theorem low_of {a b t s : Int} (h : Low a b) (hs : 0 < s) (e : a * s = t * b) : (a, b) = low t s := by
  have k := low_Low (t := t) hs
  have q := low_eq (t := t) (b := s)
  have e2 : a * (low t s).2 = (low t s).1 * b := by
    have e3 : (a * (low t s).2) * s = ((low t s).1 * b) * s := by
      calc (a * (low t s).2) * s = (a * s) * (low t s).2 := by rw [Int.mul_assoc, Int.mul_comm _ s, ← Int.mul_assoc]
        _ = (t * b) * (low t s).2 := by rw [e]
        _ = (t * (low t s).2) * b := by rw [Int.mul_assoc, Int.mul_comm b, ← Int.mul_assoc]
        _ = ((low t s).1 * s) * b := by rw [q]
        _ = ((low t s).1 * b) * s := by rw [Int.mul_assoc, Int.mul_comm s, ← Int.mul_assoc]
    exact Int.eq_of_mul_eq_mul_right (by omega) e3
  obtain ⟨e4, e5⟩ := h.uniq k e2
  exact Prod.ext e4 e5
theorem abs_ediv_le {a b : Int} (h : b ∣ a) : (a / b).natAbs ≤ a.natAbs := by
  obtain ⟨c, rfl⟩ := h
  by_cases hb : b = 0
  · subst hb; simp
  · rw [Int.mul_ediv_cancel_left _ hb, Int.natAbs_mul]
    have : 0 < b.natAbs := by omega
    exact Nat.le_mul_of_pos_left _ this
theorem low_abs (t b : Int) : (low t b).1.natAbs ≤ t.natAbs ∧ (low t b).2.natAbs ≤ b.natAbs :=
  ⟨abs_ediv_le (Int.gcd_dvd_left ..), abs_ediv_le (Int.gcd_dvd_right ..)⟩
def plusM (a b c d : Int) : Int × Int :=
  let s := g b d
  let top := a * (d / s) + c * (b / s)
  (top / g top s, b / g top s * (d / s))
theorem plusM_Low {a b c d : Int} (h : Low a b) (k : Low c d) : Low (plusM a b c d).1 (plusM a b c d).2 ∧ (plusM a b c d).1 * (b * d) = (a * d + c * b) * (plusM a b c d).2 := by
  have hb := h.pos
  have hd := k.pos
  have sp : 0 < g b d := g_pos (by omega)
  obtain ⟨b', eb⟩ : g b d ∣ b := Int.gcd_dvd_left ..
  obtain ⟨d', ed⟩ : g b d ∣ d := Int.gcd_dvd_right ..
  have cbd : Int.gcd b' d' = 1 := by
    have q := Int.gcd_ediv_gcd_ediv_gcd_of_ne_zero_right (n := b) (m := d) (by omega)
    have e1 : b / g b d = b' := by
      conv => lhs; lhs; rw [eb]
      exact Int.mul_ediv_cancel_left _ (by omega)
    have e2 : d / g b d = d' := by
      conv => lhs; lhs; rw [ed]
      exact Int.mul_ediv_cancel_left _ (by omega)
    have q' : Int.gcd (b / g b d) (d / g b d) = 1 := q
    rw [e1, e2] at q'
    exact q'
  have eb' : b / g b d = b' := by
    conv => lhs; lhs; rw [eb]
    exact Int.mul_ediv_cancel_left _ (by omega)
  have ed' : d / g b d = d' := by
    conv => lhs; lhs; rw [ed]
    exact Int.mul_ediv_cancel_left _ (by omega)
  generalize hs : g b d = s at *
  have hbp : 0 < b' := by
    rcases Int.lt_or_le 0 b' with q | q
    · exact q
    · have := Int.mul_nonpos_of_nonneg_of_nonpos (Int.le_of_lt sp) q
      omega
  have hdp : 0 < d' := by
    rcases Int.lt_or_le 0 d' with q | q
    · exact q
    · have := Int.mul_nonpos_of_nonneg_of_nonpos (Int.le_of_lt sp) q
      omega
  have e0 : plusM a b c d = ((a * d' + c * b') / g (a * d' + c * b') s, b / g (a * d' + c * b') s * d') := by
    unfold plusM
    simp only [hs, eb', ed']
  rw [e0]
  generalize ht : a * d' + c * b' = top
  have gp : 0 < g top s := g_pos (by omega)
  obtain ⟨t', et⟩ : g top s ∣ top := Int.gcd_dvd_left ..
  obtain ⟨s', es⟩ : g top s ∣ s := Int.gcd_dvd_right ..
  have cts : Int.gcd t' s' = 1 := by
    have q := Int.gcd_ediv_gcd_ediv_gcd_of_ne_zero_right (n := top) (m := s) (by omega)
    have e1 : top / g top s = t' := by
      conv => lhs; lhs; rw [et]
      exact Int.mul_ediv_cancel_left _ (by omega)
    have e2 : s / g top s = s' := by
      conv => lhs; lhs; rw [es]
      exact Int.mul_ediv_cancel_left _ (by omega)
    have q' : Int.gcd (top / g top s) (s / g top s) = 1 := q
    rw [e1, e2] at q'
    exact q'
  have et' : top / g top s = t' := by
    conv => lhs; lhs; rw [et]
    exact Int.mul_ediv_cancel_left _ (by omega)
  have hsp : 0 < s' := by
    rcases Int.lt_or_le 0 s' with q | q
    · exact q
    · have := Int.mul_nonpos_of_nonneg_of_nonpos (Int.le_of_lt gp) q
      omega
  have ebg : b / g top s = s' * b' := by
    have : b = g top s * (s' * b') := by rw [← Int.mul_assoc, ← es]; exact eb
    conv => lhs; lhs; rw [this]
    exact Int.mul_ediv_cancel_left _ (by omega)
  show Low (top / g top s) (b / g top s * d') ∧ (top / g top s) * (b * d) = (a * d + c * b) * (b / g top s * d')
  rw [et', ebg]
  have tdvd : t' ∣ top := ⟨g top s, by rw [Int.mul_comm]; exact et⟩
  have ct_b : Int.gcd top b' = 1 := by
    have h1 : Int.gcd (a * d') b' = 1 := cop_mul_left (cop_dvd h.cop (Int.dvd_refl _) ⟨s, by rw [Int.mul_comm]; exact eb⟩) (by rw [Int.gcd_comm]; exact cbd)
    rw [← ht, Int.gcd_add_mul_right_left]
    exact h1
  have ct_d : Int.gcd top d' = 1 := by
    have h1 : Int.gcd (c * b') d' = 1 := cop_mul_left (cop_dvd k.cop (Int.dvd_refl _) ⟨s, by rw [Int.mul_comm]; exact ed⟩) cbd
    rw [← ht, Int.gcd_mul_right_add_left]
    exact h1
  refine ⟨⟨Int.mul_pos (Int.mul_pos hsp hbp) hdp, ?_⟩, ?_⟩
  · exact cop_mul (cop_mul cts (cop_dvd ct_b tdvd (Int.dvd_refl _))) (cop_dvd ct_d tdvd (Int.dvd_refl _))
  · -- t' * (b * d) = (a * d + c * b) * (s' * b' * d')
    have e1 : a * d + c * b = s * top := by
      calc a * d + c * b = a * (s * d') + c * (s * b') := by rw [← eb, ← ed]
        _ = s * (a * d') + s * (c * b') := by rw [Int.mul_left_comm a, Int.mul_left_comm c]
        _ = s * top := by rw [← Int.mul_add, ht]
    rw [e1]
    calc t' * (b * d) = t' * ((s * b') * (s * d')) := by rw [← eb, ← ed]
      _ = t' * ((g top s * s' * b') * (s * d')) := by rw [← es]
      _ = s * (g top s * t') * (s' * b' * d') := by
        simp only [Int.mul_assoc, Int.mul_left_comm, Int.mul_comm]
      _ = s * top * (s' * b' * d') := by rw [← et]
def timesM (a b c d : Int) : Int × Int := (a / g a d * (c / g c b), b / g c b * (d / g a d))
theorem timesM_low {a b c d : Int} (h : Low a b) (k : Low c d) : timesM a b c d = low (a * c) (b * d) := by
  have hb := h.pos
  have hd := k.pos
  have p1 : 0 < g a d := g_pos (by omega)
  have p2 : 0 < g c b := g_pos (by omega)
  have c1 : Int.gcd (a / g a d) (d / g a d) = 1 := Int.gcd_ediv_gcd_ediv_gcd_of_ne_zero_right (by omega)
  have c2 : Int.gcd (c / g c b) (b / g c b) = 1 := Int.gcd_ediv_gcd_ediv_gcd_of_ne_zero_right (by omega)
  obtain ⟨a', ea⟩ : g a d ∣ a := Int.gcd_dvd_left ..
  obtain ⟨d', ed⟩ : g a d ∣ d := Int.gcd_dvd_right ..
  obtain ⟨c', ec⟩ : g c b ∣ c := Int.gcd_dvd_left ..
  obtain ⟨b', eb⟩ : g c b ∣ b := Int.gcd_dvd_right ..
  have xa : a / g a d = a' := by
    conv => lhs; lhs; rw [ea]
    exact Int.mul_ediv_cancel_left _ (by omega)
  have xd : d / g a d = d' := by
    conv => lhs; lhs; rw [ed]
    exact Int.mul_ediv_cancel_left _ (by omega)
  have xc : c / g c b = c' := by
    conv => lhs; lhs; rw [ec]
    exact Int.mul_ediv_cancel_left _ (by omega)
  have xb : b / g c b = b' := by
    conv => lhs; lhs; rw [eb]
    exact Int.mul_ediv_cancel_left _ (by omega)
  unfold timesM
  rw [xa, xd] at c1
  rw [xc, xb] at c2
  rw [xa, xd, xc, xb]
  generalize g a d = f at *
  generalize g c b = z at *
  have hbp : 0 < b' := by
    rcases Int.lt_or_le 0 b' with q | q
    · exact q
    · have := Int.mul_nonpos_of_nonneg_of_nonpos (Int.le_of_lt p2) q
      omega
  have hdp : 0 < d' := by
    rcases Int.lt_or_le 0 d' with q | q
    · exact q
    · have := Int.mul_nonpos_of_nonneg_of_nonpos (Int.le_of_lt p1) q
      omega
  refine low_of ⟨Int.mul_pos hbp hdp, ?_⟩ (Int.mul_pos hb hd) ?_
  · refine cop_mul (cop_mul_left ?_ c2) (cop_mul_left c1 ?_)
    · exact cop_dvd h.cop ⟨f, by rw [Int.mul_comm]; exact ea⟩ ⟨z, by rw [Int.mul_comm]; exact eb⟩
    · exact cop_dvd k.cop ⟨z, by rw [Int.mul_comm]; exact ec⟩ ⟨f, by rw [Int.mul_comm]; exact ed⟩
  · calc a' * c' * (b * d) = a' * c' * ((z * b') * (f * d')) := by rw [← eb, ← ed]
      _ = (f * a') * (z * c') * (b' * d') := by simp only [Int.mul_assoc, Int.mul_left_comm, Int.mul_comm]
      _ = a * c * (b' * d') := by rw [← ea, ← ec]
structure IsQ (p : Int × Int) (W S : Int) : Prop where
  lo : Low p.1 p.2
  eq : p.1 * S = W * p.2
theorem IsQ.low {p : Int × Int} {W S : Int} (h : IsQ p W S) (hs : 0 < S) : p = low W S := low_of h.lo hs h.eq
theorem IsQ.zero {S : Int} : IsQ (0, 1) 0 S := ⟨⟨by decide, by decide⟩, by simp⟩
theorem IsQ.plus {p q : Int × Int} {W V S : Int} (h : IsQ p W S) (k : IsQ q V S) : IsQ (plusM p.1 p.2 q.1 q.2) (W + V) S := by
  obtain ⟨l, e⟩ := plusM_Low h.lo k.lo
  refine ⟨l, ?_⟩
  generalize plusM p.1 p.2 q.1 q.2 = r at l e ⊢
  have hb := h.lo.pos
  have hd := k.lo.pos
  have e1 := h.eq
  have e2 := k.eq
  generalize p.1 = a at *
  generalize p.2 = b at *
  generalize q.1 = c at *
  generalize q.2 = d at *
  have e3 : (r.1 * S) * (b * d) = ((W + V) * r.2) * (b * d) := by
    calc (r.1 * S) * (b * d) = (r.1 * (b * d)) * S := by simp only [Int.mul_assoc, Int.mul_left_comm, Int.mul_comm]
      _ = ((a * d + c * b) * r.2) * S := by rw [e]
      _ = ((a * S) * d + (c * S) * b) * r.2 := by simp only [Int.mul_assoc, Int.mul_left_comm, Int.mul_comm, Int.mul_add, Int.add_mul]
      _ = ((W * b) * d + (V * d) * b) * r.2 := by rw [e1, e2]
      _ = ((W + V) * r.2) * (b * d) := by simp only [Int.mul_assoc, Int.mul_left_comm, Int.mul_comm, Int.mul_add, Int.add_mul]
  exact Int.eq_of_mul_eq_mul_right (by have := Int.mul_pos hb hd; omega) e3
theorem IsQ.times {p q : Int × Int} {W V S T : Int} (h : IsQ p W S) (k : IsQ q V T) (hS : 0 < S) (hT : 0 < T) : IsQ (timesM p.1 p.2 q.1 q.2) (W * V) (S * T) := by
  have e := timesM_low h.lo k.lo
  have l := low_Low (t := p.1 * q.1) (Int.mul_pos h.lo.pos k.lo.pos)
  have f := low_eq (t := p.1 * q.1) (b := p.2 * q.2)
  rw [← e] at l f
  refine ⟨l, ?_⟩
  generalize timesM p.1 p.2 q.1 q.2 = r at l f ⊢
  have hb := h.lo.pos
  have hd := k.lo.pos
  have e1 := h.eq
  have e2 := k.eq
  generalize p.1 = a at *
  generalize p.2 = b at *
  generalize q.1 = c at *
  generalize q.2 = d at *
  have e3 : (r.1 * (S * T)) * (b * d) = ((W * V) * r.2) * (b * d) := by
    calc (r.1 * (S * T)) * (b * d) = (r.1 * (b * d)) * (S * T) := by simp only [Int.mul_assoc, Int.mul_left_comm, Int.mul_comm]
      _ = (a * c * r.2) * (S * T) := by rw [f]
      _ = ((a * S) * (c * T)) * r.2 := by simp only [Int.mul_assoc, Int.mul_left_comm, Int.mul_comm]
      _ = ((W * b) * (V * d)) * r.2 := by rw [e1, e2]
      _ = ((W * V) * r.2) * (b * d) := by simp only [Int.mul_assoc, Int.mul_left_comm, Int.mul_comm]
  exact Int.eq_of_mul_eq_mul_right (by have := Int.mul_pos hb hd; omega) e3
end FW
namespace L2
open PySem PySem.Spec PyProof.Rows
structure FnAt (K : PySem.W.Frag) (mg : Str → Option Value) (x : Str) (st : Stmt) (ps : List Str) (f : Addr) (fd : FuncData) : Prop where
  F : Fun K x x st f fd
  b : Binds K fd ps []
  m : mg x = some (.ref f)
theorem Same.upd {H : Hp} {p : Addr} {o : HO} (h : H p = Option.none) : Same H (upd H p o) := fun b u e => by
  rw [upd_ne (ne_of_none e h)]
  exact e
theorem Same.updR {H H' : Hp} {p : Addr} {o : HO} (e : Same H H') (h : H' p = Option.none) : Same H (L2.upd H' p o) := e.trans (.upd h)
theorem Same.tup {K : PySem.W.Frag} {H H' : Hp} {a : Addr} {xs : List V} (e : Same H H') (h : SqT K H a xs) : SqT K H' a xs := by
  rcases h with (h | ⟨o, h⟩) | h
  · exact .inl (.inl (e _ _ h))
  · exact .inl (.inr ⟨o, e _ _ h⟩)
  · exact .inr h
theorem iteBB {c : Bool} {A B : Prop} (h1 : c = true → A) (h2 : c = false → B) : if c = true then A else B := by
  cases c with
  | true => exact iteT (h1 rfl)
  | false => exact iteF (h2 rfl)
theorem two_le : (2 : Nat) ≤ sizeLine := by decide
def Sm (x : Int) : Prop := x.natAbs < 2 ^ 2000
theorem Sm.bits {x : Int} (h : Sm x) : Builtin.Int.intBits x ≤ 2000 := intBits_le h
theorem Sm.mul {x y : Int} (h : Sm x) (k : Sm y) : IntMulOk x y := mulOk_of_bits h.bits k.bits (by decide)
theorem log2_lt {n k : Nat} (h : n < 2 ^ k) (hk : 0 < k) : n.log2 < k := by
  rcases Nat.eq_zero_or_pos n with h0 | hp
  · subst h0
    simpa using hk
  · exact (Nat.log2_lt (by omega)).mpr h
theorem Sm.log {x : Int} (h : Sm x) : x.natAbs.log2 < 9000 := Nat.lt_of_lt_of_le (log2_lt h (by decide)) (by decide)
theorem Sm.le {x y : Int} (h : Sm y) (k : x.natAbs ≤ y.natAbs) : Sm x := Nat.lt_of_le_of_lt k h
end L2
namespace Att
open PySem PySem.W PySem.Calls PyProof.Rows
theorem weight_mem : ∀ {ns : List Int} {n : Int}, n ∈ ns → WData.weight (.int n) ≤ WData.weightAll (ns.map WData.int)
  | m :: r, n, h => by
    show WData.weight (.int n) ≤ WData.weight (.int m) + 1 + WData.weightAll (r.map WData.int)
    rcases List.mem_cons.mp h with e | e
    · subst e
      omega
    · have := weight_mem (ns := r) e
      omega
theorem bits_of_lay {ns : List Int} (h : WData.layableAll [WData.list (ns.map WData.int)] = true) : ∀ n ∈ ns, Builtin.Int.intBits n ≤ 2 ^ 20 := by
  intro n hn
  have h1 : (WData.list (ns.map WData.int)).layable = true := (layW_cons h).1
  have h2 : WData.weight (WData.list (ns.map WData.int)) ≤ 2 ^ 20 := of_decide_eq_true (Bool.and_eq_true_iff.mp h1).2
  have h3 : WData.weightAll (ns.map WData.int) ≤ 2 ^ 20 := by simpa only [WData.weight] using h2
  have h4 := weight_mem hn
  have h5 : WData.weight (.int n) ≤ 2 ^ 20 := Nat.le_trans h4 h3
  simpa only [WData.weight, Builtin.Int.intBits] using h5
theorem attach_callB {l : OpenLaw} {n : Nat} {q : Program} {loose : List Str} {XP : (Str → Option Value) → Heap → Prop} {YP : World → Heap → Prop} {d : DefRec}
    (hn : l.most = some n) (hdf : d.params.defaults = [])
    (call : ∀ (w : World) (s₀ s₁ : Shared) (mg mb : Str → Option Value) (fa : Addr) (a : Addr) (vs : List Value) (ns : List Int),
      Ground q loose [] XP w s₀ mg mb s₁.heap → YP w s₁.heap → mg d.name = some (.ref fa) →
      s₁.heap.get? a = some { cls := .type "list", data := .seq vs.toArray } → IntsAre vs ns → ns.length ≤ n → (∀ x ∈ ns, Builtin.Int.intBits x ≤ 2 ^ 20) → s₁.gens = #[] →
      codeAny (model l.prog w) callerA (.call (.ref fa) ⟨[.ref a], []⟩) (fun r s' => r = .ok (.ret (.bool true)) ∧ OldK s₁.heap s'.heap ∧ s'.os = s₁.os ∧ AllBare s'.gens) s₁) :
    WalkO q loose XP YP l.row.toRowW d [] (fun f vs => PySem.call f vs) := by
  intro w s₀ s₁ mg mb G Y fa o pm cd doc dV kV ho hd hcd hD hmg hg args vals as hpre hlay hrd hwl hlo
  obtain rfl : dV = .none := Dflts.none hD hdf
  obtain rfl : kV = .none := Dflts.noKw hD
  obtain ⟨a, vs, ns, rfl, rfl, hobj, hints, hlen⟩ := script_of hn hpre hwl
  refine enter_call (codeAny_mono (call w s₀ s₁ mg mb fa a vs ns G Y hmg hobj hints hlen (bits_of_lay hlay) hg) fun r s' hq => ?_)
  obtain ⟨rfl, h2, h3, h4⟩ := hq
  exact ⟨.inl ⟨.bool true, .bool true, [], rfl, fun _ => rfl, .bool true, post_true l _, fun _ => ⟨List.Pairwise.nil, fun _ hm => (nomatch hm)⟩⟩, h2, h3, h4⟩
end Att
namespace L2
open PySem PySem.Spec PyProof.Rows
theorem walk_ofB {l : PySem.W.OpenLaw} {n k : Nat} {q : Program} {loose : List Str} {XP : (Str → Option Value) → Heap → Prop} {YP : World → Heap → Prop} {d : DefRec} {K : Params → PySem.W.Frag} {CX : World → CXT} {sp : World → Sp} {x : Str}
    (hn : l.most = some n) (hn2 : n ≤ sizeLine) (hdf : d.params.defaults = []) (hr : Room k callerA)
    (hY : ∀ (w : World) (h : Heap), YP w h → (K w.params).In h)
    (F : ∀ (w : World) (mg : Str → Option Value) (fa : Addr) (h : Heap), (K w.params).In h → h.Ns mainGlobals mg → mg d.name = some (.ref fa) →
      ∃ fd : FuncData, (∀ (s : Shared) (u : Value), BindsTo s fd ⟨[u], []⟩ [(x, u)]) ∧
        ∀ base : Heap, (K w.params).In base → base.Ns mainGlobals mg → FnOk l.prog w (K w.params) mg base (CX w) k fa fd [x] (sp w))
    (hsp : ∀ (w : World) (H : Hp) (a : Addr) (ns : List Int), ns.length ≤ n → (∀ x ∈ ns, Builtin.Int.intBits x ≤ 2 ^ 20) → Only H → SqL (K w.params) H a (ns.map V.int) → sp w [.ref a] H (fun v _ => v = .bl true) fun _ _ _ => False)
    (hCX : ∀ (w : World) (H : Hp) (s : Shared) (e : Value) (s' : Shared), CX w [] H s (fun _ _ _ => False) e s' → False) :
    PySem.W.WalkO q loose XP YP l.row.toRowW d [] (fun f vs => PySem.call f vs) := by
  refine Att.attach_callB hn hdf fun w s₀ s₁ mg mb fa a vs ns G Y hmg hobj hints hlen hbits hg => ?_
  have KX := hY w _ Y
  obtain ⟨fd, hb, hF⟩ := F w mg fa _ KX G.T.g hmg
  exact law_call KX G.T.g G.T.b G.T.builtins G.T.nolimit hg hobj hints (Nat.le_trans hlen hn2) hr hF hb (fun H hO hS => hsp w H a ns hlen hbits hO hS) fun H e s' => hCX w H s₁ e s'
theorem fnAt_mk {K : PySem.W.Frag} {mg : Str → Option Value} {h : Heap} {x : Str} {st : Stmt} {ps : List Str} {f : Addr} {oc : Value} {od an : Option Addr} {osl : Array (Option Value)} {kV doc pm cdv ct : Value} (X : K.In h) (G : h.Ns mainGlobals mg)
    (a : PySem.W.nsIn K mainGlobals x = some (some (.ref f)))
    (l : K.lookup f = some ⟨oc, od, .func (PySem.W.fnOf x x (defArgs st) (defBody st) (defScope st) .none kV doc pm an cdv ct), osl⟩)
    (c : PySem.W.codeIn K cdv x = true) (k : PySem.W.keepIn K (.ref f) = true)
    (b : ∀ (kV doc pm : Value) (an : Option Addr) (cdv ct : Value) (us : List Value), us.length = ps.length → bindArgs (PySem.W.fnOf x x (defArgs st) (defBody st) (defScope st) .none kV doc pm an cdv ct) ⟨us, []⟩ = pure (ps.zip us)) :
    FnAt K mg x st ps f (PySem.W.fnOf x x (defArgs st) (defBody st) (defScope st) .none kV doc pm an cdv ct) :=
  ⟨fun_mk l c k, (fun_mk l c k).binds b, PySem.W.mg_of X G a⟩
end L2
namespace L2
open PySem PySem.Spec PyProof.Rows
section
variable {X : Cx}
theorem op_mulB : OpR X (binaryOp .Mult) (rI IntMulOk fun i j => .int (i * j)) := opI fun _ _ _ _ _ _ _ hc q => mul_int q hc
def CDivP (_ j : Int) : Prop := 0 < j ∧ j.natAbs.log2 < 9000
theorem op_fdivP : OpR X (binaryOp .FloorDiv) (rI CDivP fun i j => .int (i / j)) := opI fun i j _ _ _ _ _ hc q => by
  have h0 : (0 : Int) < j := hc.1
  refine floordiv_int (by omega) ?_ (.inl (PyProof.noPylong_of_log2 hc.2))
  rw [Int.fdiv_eq_ediv_of_nonneg _ (Int.le_of_lt h0)]
  exact q
def CDivB (_ j : Int) : Prop := j ≠ 0 ∧ j.natAbs.log2 < 9000
def rIsi (K : PySem.W.Frag) : List V → Hp → VK → Prop := fun xs H Q => ∃ x n t b, xs = [x, .ty n] ∧ TyOf K H x t ∧ PySem.W.kitOne K t (.type n) = some b ∧ Q (.bl b) H
theorem call_isi : CallR X (.builtin "isinstance") (rIsi X.K) := by
  intro pins s σ H xs us Q I r h
  obtain ⟨x, n, t, b, rfl, ty, e, q⟩ := h
  obtain ⟨u, w', rfl, r1, r2⟩ := vals2 r
  cases (show w' = Value.type n from r2)
  exact isinst_ok I r1 ty e fun tk => ⟨.bl b, H, I.tok tk, rfl, q⟩
def rIsiC (K : PySem.W.Frag) : List V → Hp → VK → Prop := fun xs H Q => ∃ x C t b, xs = [x, .ref C] ∧ TyOf K H x t ∧ PySem.W.kitOne K t (.ref C) = some b ∧ Q (.bl b) H
def rEqT (K : PySem.W.Frag) : R2 := fun x y H Q => ∃ (a b : Addr) (ns ms : List Int), x = .ref a ∧ y = .ref b ∧ SqT K H a (ns.map V.int) ∧ SqT K H b (ms.map V.int) ∧ Q (.bl (decide (ns = ms))) H
end
def cCx (X : Cx) (scope : Scope) (cl : List (Str × Addr)) (C : Addr) (Nc : List Str) (s : Shared) (H : Hp) (fp : List Addr) : Cx where
  prog := X.prog
  w := X.w
  K := X.K
  mg := X.mg
  base := X.base
  A := X.A
  N := Nc
  s₀ := s
  H₀ := H
  env := compEnvC scope cl C X.env
  outer := X.stack
  stack := X.stack
  ex := fp
  fn := fun _ => false
  calm := X.calm
  pn := []
  xe := fun _ _ => False
def PTs (X : Cx) (ifs : List Expr) (t : TT) : Prop :=
  ∀ (pins : List (Addr × Obj)) (s : Shared) (σ : St) (H : Hp) (Q : Bool → Hp → Prop), Inv X pins σ H s → t σ H Q →
    wpAny (model X.prog X.w) X.A (forIn ifs true fun c r => if r = true then do let ok ← isTrue c X.env (eval c X.env); pure (ForInStep.yield ok) else pure (ForInStep.yield r)) (TP X pins σ Q) X.xe s
def tTrue : TT := fun _ H Q => Q true H
theorem pts_nil {X : Cx} : PTs X [] tTrue := fun _ _ _ H _ I h => wpAny_tests_nil ⟨H, I, h⟩
theorem pts_one {X : Cx} {c : Expr} {t : TT} (h : PT X c t) : PTs X [c] t := fun pins s σ H Q I q => wpAny_tests_one (h pins s σ H Q I q)
theorem comp_loop0 {prog : Program} {w : World} {A : Around} {R : Result → Shared → Prop} {s : Shared} {elt target iter : Expr} {ifs : List Expr} {scope : Scope} {pos : Pos} {it acc : Value} {env : Env} (I : Nat → Shared → Prop)
    (turn : ∀ n s, I n s → wpAny (model prog w) A (pyNext it) (fun r s₁ => match r with
      | none => R (.ok .next) s₁
      | some v => wpAny (model prog w) A (letOwnedTupleGo target it v) (fun _ s₂ => wpAny (model prog w) A (assign target env v) (fun _ s₃ =>
          wpAny (model prog w) A (forIn ifs true fun c r => if r = true then do let ok ← isTrue c env (eval c env); pure (ForInStep.yield ok) else pure (ForInStep.yield r)) (fun ok s₄ =>
            if ok = true then wpAny (model prog w) A (eval elt env) (fun x s₅ =>
              wpAny (model prog w) A (call (.builtin "list.append") [acc, x]) (fun _ s₆ => ∃ m, m < n ∧ I m s₆) (fun _ _ => False) s₅) (fun _ _ => False) s₄
            else ∃ m, m < n ∧ I m s₄) (fun _ _ => False) s₃) (fun _ _ => False) s₂) (fun _ _ => False) s₁) (fun _ _ => False) s)
    (n : Nat) (h : I n s) :
    codeAny (model prog w) A (.compLoop (.ListComp elt [⟨target, iter, ifs, 0⟩] scope pos) 0 it acc env) R s := by
  refine codeAny_loop rfl I (fun n s hI => ?_) n h
  show wpAny _ A ((compTurn (.ListComp elt [⟨target, iter, ifs, 0⟩] scope pos) 0 it acc env).onRaise (fun x => do noteFrame x env; theTreesLotGoes x)) _ _ s
  refine wpAny_noted ?_
  rw [compTurn_list]
  refine wpAny_bind (wpAny_standAt (wpAny_bind (wpAny_mono (turn n s hI) (fun r s₁ h₁ => ?_) fun _ _ h' => h'.elim)))
  cases r with
  | none => exact wpAny_pure h₁
  | some v =>
    refine wpAny_bind (wpAny_mono h₁ (fun _ s₂ h₂ => wpAny_bind (wpAny_mono h₂ (fun _ s₃ h₃ => wpAny_bind (wpAny_mono h₃ (fun ok s₄ h₄ => ?_) fun _ _ h' => h'.elim)) fun _ _ h' => h'.elim)) fun _ _ h' => h'.elim)
    cases ok with
    | false => exact wpAny_pure ⟨rfl, h₄⟩
    | true =>
      exact wpAny_bind (wpAny_bind (wpAny_mono h₄ (fun x s₅ h₅ => wpAny_bind (wpAny_mono h₅ (fun _ s₆ h₆ => wpAny_pure (wpAny_pure ⟨rfl, h₆⟩)) fun _ _ h' => h'.elim)) fun _ _ h' => h'.elim))
def CompW (J : It) (g : TG) (tt : TT) (te : TE) (σ0 : St) (Q : VK) (D : Addr) (H1 : Hp) : Prop :=
  ∃ W : Nat → Nat → St → List V → Hp → Prop, (∃ m, W 0 m σ0 [] H1) ∧ ∀ i m σ2 ys H2, W i m σ2 ys H2 → H2 D = some (.lst ys) ∧ ys.length < sizeLine ∧
    ((J.stop i H2 ∧ Q (.ref D) H2) ∨ (J.go i H2 ∧ ∀ x H3, J.yld i H2 x H3 → g x σ2 H3 fun σ4 H4 => tt σ4 H4 fun b H5 =>
      if b = true then te σ4 H5 fun v H6 => H6 D = some (.lst ys) ∧ ∃ m', m' < m ∧ W (i + 1) m' σ4 (ys ++ [v]) (upd H6 D (.lst (ys ++ [v])))
      else ∃ m', m' < m ∧ W (i + 1) m' σ4 ys H5))
def tComp (wi : TI) (g : TG) (tt : TT) (te : TE) (σc : St → St) : TE := fun σ H Q => wi σ H fun J H1 => ∀ D, H1 D = none → CompW J g tt te (σc σ) Q D (upd H1 D (.lst []))
structure Caps (X : Cx) (scope : Scope) (cl : List (Str × Addr)) (Nc : List Str) (σc : St → St) : Prop where
  clos : closureFor scope X.env = pure cl
  kind : scope.kind = .function
  nocell : ∀ y ∈ scope.names, y.2 ≠ .cell
  names : ∀ y ∈ scope.names, y.2 = .local → scope.names.lookup y.1 = some .local
  cells : ∀ x c, cl.lookup x = some c → X.env.cells.lookup x = some c
  has : ∀ x, ((relabel scope X.env).names.lookup x = some .cell ∨ (relabel scope X.env).names.lookup x = some .free) → ∃ c, cl.lookup x = some c
  len : ∀ σ, (σc σ).length = Nc.length
  cap : ∀ σ (i : Nat) x v, Nc[i]? = some x → (σc σ)[i]? = some (some v) → Vis (relabel scope X.env) x →
    ((relabel scope X.env).names.lookup x = some .cell ∨ (relabel scope X.env).names.lookup x = some .free) ∧
    (X.env.kindOf x = some .cell ∨ X.env.kindOf x = some .free) ∧ ∃ j : Nat, X.N[j]? = some x ∧ σ[j]? = some (some v) ∧ Vis X.env.scope x
section
variable {X : Cx} {tg iter elt : Expr} {ifs : List Expr} {scope : Scope} {cl : List (Str × Addr)} {Nc : List Str} {σc : St → St} {pos : Pos} {wi : TI} {g : TG} {tt : TT} {te : TE}
theorem cCx_ok {pins : List (Addr × Obj)} {σ : St} {H : Hp} {s : Shared} {fp : List Addr} {C : Addr} (I : Inv X pins σ H s) (c : Caps X scope cl Nc σc) (hC : s.heap.objs.size ≤ C) (hf : ∀ b ∈ fp, FpOk X pins H b) (hlt : ∀ b ∈ fp, b < s.heap.objs.size) :
    (cCx X scope cl C Nc s H fp).Ok where
  mod := I.ok.mod
  kind := c.kind
  glob := I.ok.glob
  blt := I.ok.blt
  above := hC
  inj := fun x y a h1 h2 => I.ok.inj x y a (c.cells x a h1) (c.cells y a h2)
  has := c.has
  cab := fun _ _ h _ => absurd (show false = true from h) Bool.false_ne_true
  hd := I.ok.hd
  frames := I.ok.frames
  stk := .inl rfl
  exf := fun b hb => ⟨fun z => absurd (Nat.lt_of_lt_of_le (hlt b hb) hC) (by
      have z' : b = C := z
      rw [z']
      exact Nat.lt_irrefl _), fun x a h z => (hf b hb).2.2.2.2.1 x a (c.cells x a h) z⟩
  bs := I.bs
  bsz := Nat.le_trans I.ok.bsz I.sz
  noex := fun b o e hb => by
    rcases (hf b hb).2.2.2.1 with z | z
    · exact I.ok.noex b o e z
    · exact absurd (Nat.lt_of_lt_of_le (Heap.lt_size e) (Nat.le_trans I.ok.bsz z)) (Nat.lt_irrefl _)
  exfs := fun b hb z => by
    rcases List.mem_cons.mp (I.stkSub b z) with q | q
    · exact (hf b hb).2.1 q
    · exact (hf b hb).2.2.1 q
  funs := I.stack
  frf := I.stkFree
theorem cCx_inv {pins : List (Addr × Obj)} {σ : St} {H : Hp} {s : Shared} {fp : List Addr} {C : Addr} {h' : Heap} {t' : Nat} {m : Str → Option Value} (I : Inv X pins σ H s) (c : Caps X scope cl Nc σc) (hC : s.heap.objs.size ≤ C)
    (hf : ∀ b ∈ fp, FpOk X pins H b) (hlt : ∀ b ∈ fp, b < s.heap.objs.size) (hk : ∀ b o, s.heap.get? b = some o → h'.get? b = some o) (hn : h'.Ns C m) :
    Inv (cCx X scope cl C Nc s H fp) [] (σc σ) H { s with heap := h', toks := t' } := by
  refine ⟨cCx_ok I c hC hf hlt, rfl, I.bare, Un.kept hk, ⟨m, hn, fun i x v e1 e2 e3 => ?_⟩, fun x a h => ?_, I.hok.fresh hC, fun x a h => I.freeC x a (c.cells x a h), fun p hp => absurd (show p ∈ ([] : List (Addr × Obj)) from hp) (by simp), I.hok.kept hk, c.len σ⟩
  · obtain ⟨k1, k2, j, n1, n2, n3⟩ := c.cap σ i x v e1 e2 e3
    obtain ⟨m0, _, hl⟩ := I.loc
    obtain ⟨u, ru, lk⟩ := hl j x v n1 n2 n3
    refine ⟨u, ru, .inr ⟨k1, ?_⟩⟩
    rcases lk with ⟨z, _⟩ | ⟨_, a, ha, hcell⟩
    · rcases k2 with k2 | k2 <;> rw [k2] at z <;> cases z
    · obtain ⟨a', ha'⟩ := c.has x k1
      have e := c.cells x a' ha'
      rw [ha] at e
      cases e
      obtain ⟨o, ho, hd⟩ := hcell
      exact ⟨a, ha', ⟨o, hk _ _ ho, hd⟩⟩
  · obtain ⟨v, o, ho, hd⟩ := I.cell x a (c.cells x a h)
    exact ⟨v, o, hk _ _ ho, hd⟩
theorem comp_block {pins : List (Addr × Obj)} {σ : St} {H : Hp} {s : Shared} {Q : VK} {J : It} {fp : List Addr} {it : Addr} {tn : Nat → Heap → Prop} {RR : Value → Addr → Result → Shared → Prop} {E : Value → Shared → Prop}
    (hc : X.calm = true) (c : Caps X scope cl Nc σc)
    (hg : ∀ C s H fp, PG (cCx X scope cl C Nc s H fp) tg g) (ht : ∀ C s H fp, PTs (cCx X scope cl C Nc s H fp) ifs tt) (he : ∀ C s H fp, PE (cCx X scope cl C Nc s H fp) elt te)
    (I : Inv X pins σ H s) (T : Turn X.prog X.w X.K tg J fp it tn) (st : tn 0 s.heap) (hf : ∀ b ∈ fp, FpOk X pins H b)
    (h : ∀ D, H D = none → CompW J g tt te (σc σ) Q D (upd H D (.lst [])))
    (hRR : ∀ D C H' s' m, Inv X pins σ H' s' → H' C = none → s.heap.objs.size ≤ C → s'.heap.Ns C m → Q (.ref D) H' → RR (.ref D) C (.ok .next) s') :
    wpAny (model X.prog X.w) X.A (newList []) (fun acc s₃ => wpAny (model X.prog X.w) X.A (newFunctionEnv scope X.env.globals cl [] X.env.qual none .none (some X.env)) (fun cenv s₄ =>
      codeAny (model X.prog X.w) X.A (.compStart (.ListComp elt [⟨tg, iter, ifs, 0⟩] scope pos) 0 (.ref it) acc { cenv with scope := relabel scope X.env }) (RR acc cenv.locals) s₄) E s₃) E s := by
  have fit : ∀ b ∈ fp, b < s.heap.objs.size := fun b hb => by
    obtain ⟨o, e, _⟩ := T.obj _ _ st b hb
    exact Heap.lt_size e
  obtain ⟨W, ⟨m0, w0⟩, turn⟩ := h s.heap.objs.size (I.hok.fresh (Nat.le_refl _))
  refine wpAny_newObj_type (wpAny_newFunctionEnv c.nocell (by intro y hy; simp at hy) (fun h₁ hns₁ hsb₁ => ?_) c.kind)
  dsimp only at hns₁ hsb₁ ⊢
  have I1 : Inv X pins σ (upd H s.heap.objs.size (.lst [])) { s with heap := s.heap.push { cls := .type "list", dict := none, data := .seq ([] : List Value).toArray } } :=
    I.laid (t' := s.toks) (fun b u e => Heap.get?_push_of_some _ e) (Nat.le_refl _) ⟨Nat.zero_le _, [], 0, .nil, Heap.get?_push_size _ rfl⟩
  generalize hH2 : s.heap.push { cls := .type "list", dict := none, data := .seq ([] : List Value).toArray } = G at hns₁ hsb₁ I1 ⊢
  have hG : G.objs.size = s.heap.objs.size + 1 := by rw [← hH2, Heap.size_push]
  have old : ∀ b o, G.get? b = some o → h₁.get? b = some o := fun b o e => hsb₁.extBut b o (Nat.ne_of_lt (Heap.lt_size e)) (Heap.get?_push_of_some _ e)
  have hf1 : ∀ b ∈ fp, FpOk X pins (upd H s.heap.objs.size (.lst [])) b := fun b hb =>
    ⟨by rw [upd_ne (Nat.ne_of_lt (fit b hb))]; exact (hf b hb).1, (hf b hb).2⟩
  have hlt1 : ∀ b ∈ fp, b < G.objs.size := fun b hb => Nat.lt_of_lt_of_le (fit b hb) (by rw [hG]; exact Nat.le_succ _)
  have I2 := cCx_inv (C := G.objs.size) (t' := s.toks + ([] : List (Str × Value)).length) I1 c (Nat.le_refl _) hf1 hlt1 old hns₁
  have st1 : tn 0 h₁ := T.keep _ _ _ st fun b hb o e => old b o (by rw [← hH2]; exact Heap.get?_push_of_some _ e)
  have fpB : ∀ {H' : Hp}, (∀ b ∈ fp, H' b = none) → ∀ b ∈ fp, FpOk (cCx X scope cl G.objs.size Nc { s with heap := G } (upd H s.heap.objs.size (.lst [])) fp) [] H' b := fun {H'} hn b hb => by
    have ok := cCx_ok (C := G.objs.size) I1 c (Nat.le_refl _) hf1 hlt1
    obtain ⟨e1, e2⟩ := ok.exf b hb
    exact ⟨hn b hb, e1, ok.exfs b hb, .inl hb, e2, fun p hp => absurd (show p ∈ ([] : List (Addr × Obj)) from hp) (by simp)⟩
  have loop : ∀ s₃ : Shared, s₃ = { s with heap := h₁, toks := s.toks + ([] : List (Str × Value)).length } →
      codeAny (model X.prog X.w) X.A (.compLoop (.ListComp elt [⟨tg, iter, ifs, 0⟩] scope pos) 0 (.ref it) (.ref s.heap.objs.size) (compEnvC scope cl G.objs.size X.env))
        (RR (.ref s.heap.objs.size) G.objs.size) s₃ := by
    rintro s₃ rfl
    refine comp_loop0 (fun n s' => ∃ i σ' ys H', Inv (cCx X scope cl G.objs.size Nc { s with heap := G } (upd H s.heap.objs.size (.lst [])) fp) [] σ' H' s' ∧ tn i s'.heap ∧ (∀ b ∈ fp, H' b = none) ∧ W i n σ' ys H') ?_ m0
      ⟨0, σc σ, [], _, I2, st1, fun b hb => (hf1 b hb).1, w0⟩
    rintro n s5 ⟨i, σ5, ys, H5, I5, st5, fr5, w5⟩
    obtain ⟨hD, hsz, alt⟩ := turn i n σ5 ys H5 w5
    rcases alt with ⟨stop, q⟩ | ⟨go, step⟩
    · refine thn (T.done (cCx X scope cl G.objs.size Nc { s with heap := G } (upd H s.heap.objs.size (.lst [])) fp) rfl rfl rfl hc i [] s5 σ5 H5 _ I5 (fpB fr5) st5 stop) fun r s6 ⟨hr, I6⟩ => ?_
      subst hr
      obtain ⟨m6, n6, _⟩ := I6.loc
      have I7 : Inv X pins σ H5 s6 := I1.call' I6.os I6.base I6.hok I6.bare fun b hb => ⟨(hf1 b hb).2.2.2.1, (hf1 b hb).2.1, (hf1 b hb).2.2.2.2.1, (hf1 b hb).2.2.2.2.2⟩
      exact hRR _ _ H5 s6 m6 I7 I6.free (by rw [hG]; exact Nat.le_succ _) n6 q
    · refine thn (T.item (cCx X scope cl G.objs.size Nc { s with heap := G } (upd H s.heap.objs.size (.lst [])) fp) rfl rfl rfl hc i [] s5 σ5 H5 _ I5 (fpB fr5) st5 go) fun r s6 ⟨u, hr, h6⟩ => ?_
      subst hr
      refine thn h6 fun _ s7 ⟨x, H7, I7, r7, y7, st7, fr7⟩ => ?_
      have I7' := I7.pinned (fpB fr7) (T.obj _ _ st7)
      refine thn (hg _ _ _ _ _ s7 σ5 H7 x u _ I7' r7 (step x H7 y7)) fun _ s8 ⟨σ8, H8, I8, q8⟩ => ?_
      refine thn (ht _ _ _ _ _ s8 σ8 H8 _ I8 q8) fun ok s9 ⟨H9, I9, q9⟩ => ?_
      have again : ∀ {σ' : St} {H' : Hp} {s' : Shared} {ys' : List V} {m' : Nat}, Inv (cCx X scope cl G.objs.size Nc { s with heap := G } (upd H s.heap.objs.size (.lst [])) fp) ([] ++ pinsAt fp s7.heap) σ' H' s' → m' < n → W (i + 1) m' σ' ys' H' →
          ∃ m, m < n ∧ ∃ i σ' ys H', Inv (cCx X scope cl G.objs.size Nc { s with heap := G } (upd H s.heap.objs.size (.lst [])) fp) [] σ' H' s' ∧ tn i s'.heap ∧ (∀ b ∈ fp, H' b = none) ∧ W i m σ' ys H' := fun {σ' H' s' ys' m'} J7 hm hw => by
        refine ⟨m', hm, i + 1, σ', ys', H', J7.unpinned, T.keep _ _ _ st7 fun b hb o e => (J7.pin (b, o) (List.mem_append_right _ (List.mem_append_right _ (mem_pinsAt hb e)))).1, fun b hb => ?_, hw⟩
        obtain ⟨o, e, d⟩ := T.obj _ _ st7 b hb
        exact (J7.pin (b, o) (List.mem_append_right _ (List.mem_append_right _ (mem_pinsAt hb e)))).2.1
      cases ok with
      | false =>
        rw [if_neg Bool.false_ne_true] at q9 ⊢
        obtain ⟨m', hm, hw⟩ := q9
        exact again I9 hm hw
      | true =>
        rw [if_pos rfl] at q9 ⊢
        refine thn (he _ _ _ _ _ s9 σ8 H9 _ I9 q9) fun v s10 ⟨y, H10, I10, r10, hD10, m', hm, hw⟩ => ?_
        refine thn (mt_append _ s10 σ8 H10 (.ref s.heap.objs.size) [y] (.ref s.heap.objs.size) [v] (fun _ H' => H' = upd H10 s.heap.objs.size (.lst (ys ++ [y]))) I10 rfl (.cons r10 .nil) ⟨_, ys, y, rfl, rfl, hD10, hsz, rfl⟩) fun _ s11 ⟨z, H11, I11, _, e11⟩ => ?_
        subst e11
        exact again I11 hm hw
  exact codeAny_compStart_list (loop _ rfl) (T.self _ 0 _ _ _ st1 (loop _ rfl))
theorem pe_comp (hc : X.calm = true) (c : Caps X scope cl Nc σc) (hi : PI X tg iter wi)
    (hg : ∀ C s H fp, PG (cCx X scope cl C Nc s H fp) tg g) (ht : ∀ C s H fp, PTs (cCx X scope cl C Nc s H fp) ifs tt) (he : ∀ C s H fp, PE (cCx X scope cl C Nc s H fp) elt te)
    (hs : ∀ x, foldedSetIterable iter X.env x = pure x := by intro _; rfl) : PE X (.ListComp elt [⟨tg, iter, ifs, 0⟩] scope pos) (tComp wi g tt te σc) := by
  intro pins s σ H Q I h
  rw [eval_ListComp]
  refine wpAny_comprehension_free (use := none) rfl hs c.clos c.kind c.names (thn (hi pins s σ H _ I h) fun v s1 h1 => thn h1 fun itv s2 h2 => ?_)
  obtain ⟨it, fp, tn, J, H2, rfl, I2, T, st2, f2, W⟩ := h2
  refine comp_block (Q := Q) hc c hg ht he I2 T st2 f2 W ?_
  intro D C H' s' m I' hC hCs hn q
  refine ⟨m, hn, fun h' sb => ⟨.ref D, H', ?_, rfl, q⟩⟩
  have nl : C ≠ X.env.locals := Nat.ne_of_gt (Nat.lt_of_lt_of_le I2.lt hCs)
  refine I'.turned (t' := s'.toks) (it := C) (fun b o hb e => sb.extBut b o hb e) hC nl (.inr (Nat.le_trans I2.sz hCs)) (fun x a e z => ?_) (fun p hp z => ?_)
  · obtain ⟨v, q⟩ := I2.cell x a e
    exact absurd (Nat.lt_of_lt_of_le q.lt hCs) (by rw [z]; exact Nat.lt_irrefl _)
  · exact absurd (Nat.lt_of_lt_of_le (Heap.lt_size (I2.pin p hp).1) hCs) (by rw [z]; exact Nat.lt_irrefl _)
theorem ps_comp {i : Nat} {y : Str} {py spos : Pos} (hc : X.calm = true) (hN : X.N.Nodup) (hiy : X.N[i]? = some y) (hy : Loc X.env.scope y) (c : Caps X scope cl Nc σc) (hi : PI X tg iter wi)
    (hg : ∀ C s H fp, PG (cCx X scope cl C Nc s H fp) tg g) (ht : ∀ C s H fp, PTs (cCx X scope cl C Nc s H fp) ifs tt) (he : ∀ C s H fp, PE (cCx X scope cl C Nc s H fp) elt te)
    (hsw : swapsWith (.ListComp elt [⟨tg, iter, ifs, 0⟩] scope pos) (some (.Name y py)) spos.line X.env = pure true := by rfl)
    (hs : ∀ x, foldedSetIterable iter X.env x = pure x := by intro _; rfl) (hf : X.fn y = true ∨ X.env.scope.names.lookup y = some .local := by first | exact .inl rfl | exact .inr rfl | assumption) :
    PS X (.Assign [.Name y py] (.ListComp elt [⟨tg, iter, ifs, 0⟩] scope pos) spos) (tAsg (tComp wi g tt te σc) (gName i)) := by
  intro pins s σ H D I h
  rw [exec_Assign_Name_used _ _ _ _ hsw]
  refine wpAny_bind (wpAny_standAt (wpAny_bind ?_))
  show wpAny _ X.A (do let _ ← comprehension (.ListComp elt [⟨tg, iter, ifs, 0⟩] scope pos) scope X.env _ (newList []) false (eval iter X.env) (some (assign (.Name y py) X.env))) _ _ s
  refine wpAny_bind (wpAny_mono (wpAny_comprehension_free (use := some (assign (.Name y py) X.env)) (Q := fun _ s' => SP X pins D .next s') rfl hs c.clos c.kind c.names
    (thn (hi pins s σ H _ I h) fun v s1 h1 => thn h1 fun itv s2 h2 => ?_)) (fun _ s' hq => wpAny_pure (wpAny_pure hq)) fun _ _ e => e)
  obtain ⟨it, fp, tn, J, H2, rfl, I2, T, st2, f2, W⟩ := h2
  refine comp_block (Q := fun v H' => D.nx (σ.set i (some v)) H') hc c hg ht he I2 T st2 f2 W ?_
  intro L C H' s' m I' hC hCs hn q
  have nl : C ≠ X.env.locals := Nat.ne_of_gt (Nat.lt_of_lt_of_le I2.lt hCs)
  have nfs : C ∉ X.fs := I2.nofs hCs
  obtain ⟨oC, es, ep, hoC, hdC, hrC⟩ := id hn
  have ncell : ∀ v, oC.data ≠ .cell v := fun v z => by rw [hdC] at z; cases z
  have I'' : Inv X (pins ++ [(C, oC)]) σ H' s' := I'.pins_of fun p hp => by
    rcases List.mem_append.mp hp with z | z
    · exact I'.pin p (List.mem_append_right _ z)
    · have e : p = (C, oC) := by simpa using z
      subst e
      exact ⟨hoC, hC, nl, nfs, ncell⟩
  show wpAny _ X.A (assign (.Name y py) X.env (.ref L)) _ _ _
  refine wpAny_assign_Name (store_ok I'' hN hiy hy (v := .ref L) rfl (fun s3 I3 => ?_) hf)
  have hn3 : s3.heap.Ns C m := ⟨oC, es, ep, (I3.pin (C, oC) (by simp)).1, hdC, hrC⟩
  refine ⟨m, hn3, fun h' sb => ⟨σ.set i (some (.ref L)), H', ?_, q⟩⟩
  refine I3.unpinned.turned (t' := s3.toks) (it := C) (fun b o hb e => sb.extBut b o hb e) hC nl (.inr (Nat.le_trans I2.sz hCs)) (fun x a e z => ?_) (fun p hp z => ?_)
  · obtain ⟨v, q⟩ := I2.cell x a e
    exact absurd (Nat.lt_of_lt_of_le q.lt hCs) (by rw [z]; exact Nat.lt_irrefl _)
  · exact absurd (Nat.lt_of_lt_of_le (Heap.lt_size (I2.pin p hp).1) hCs) (by rw [z]; exact Nat.lt_irrefl _)
theorem caps0 (hk : scope.kind = .function) (hfree : ∀ x ∈ scope.names, x.2 ≠ .free) (hcell : ∀ x ∈ scope.names, x.2 ≠ .cell) (hnames : ∀ y ∈ scope.names, y.2 = .local → scope.names.lookup y.1 = some .local) :
    Caps X scope [] Nc (fun _ => List.replicate Nc.length none) where
  clos := closureFor_none hfree
  kind := hk
  nocell := hcell
  names := hnames
  cells := fun x c e => by cases e
  has := fun x h => by
    have hm : (relabel scope X.env).names = scope.names := by
      unfold relabel
      refine map_eq_self fun y hy => ?_
      obtain ⟨n, k⟩ := y
      have : (k == NameKind.free) = false := by simpa using hfree _ hy
      simp [this]
    rw [hm] at h
    rcases h with h | h
    · exact absurd rfl (hcell _ (PySem.mem_of_lookup h))
    · exact absurd rfl (hfree _ (PySem.mem_of_lookup h))
  len := fun _ => by simp
  cap := fun σ i x v _ e _ => by
    rw [List.getElem?_replicate] at e
    split at e <;> cases e
end
end L2
namespace L2
open PySem PySem.Spec PyProof.Rows
def Itz (K : PySem.W.Frag) (a b : Addr) : It :=
  ⟨fun i H => ∃ xs ys x y, SqL K H a xs ∧ SqL K H b ys ∧ xs[i]? = some x ∧ ys[i]? = some y,
   fun i H v H' => ∃ p, v = .ref p ∧ H p = none ∧ ∀ xs ys x y, SqL K H a xs → SqL K H b ys → xs[i]? = some x → ys[i]? = some y → H' = upd H p (.tup [x, y]),
   fun i H => ∃ xs ys, SqL K H a xs ∧ SqL K H b ys ∧ (xs.length ≤ i ∨ ys.length ≤ i)⟩
section
variable {X : Cx} {pins : List (Addr × Obj)} {σ : St} {H : Hp} {s : Shared} {h' : Heap}
theorem Inv.turnedLaid {t' : Nat} {ch : List Addr} {p : Addr} {o : HO} (I : Inv X pins σ H s) (k : ∀ b u, b ∉ ch → s.heap.get? b = some u → h'.get? b = some u) (hf : ∀ b ∈ ch, FpOk X pins H b)
    (hp : s.heap.objs.size ≤ p) (new : ObjOk X.prog X.w (upd H p o) h' p o) : Inv X pins σ (upd H p o) { s with heap := h', toks := t' } := by
  have hn := I.hok.fresh hp
  have nch : ∀ b u, H b = some u → b ∉ ch := fun b u e z => by rw [(hf b z).1] at e; cases e
  refine I.call (g' := s.gens) (d' := s.drawn) (ch := ch) ⟨fun b u e _ _ hc => k b u hc e, fun b u e _ _ hc => ⟨u.slots, k b u hc e⟩, fun b u e n _ => ?_, fun b u e hc => ⟨u, k b u hc e⟩, fun b xs e => ?_, fun b u xs e => ?_, fun b ps e => ?_⟩ (fun b u e => ?_) I.bare
    fun b hb => ⟨(hf b hb).2.2.2.1, (hf b hb).2.1, (hf b hb).2.2.2.2.1, (hf b hb).2.2.2.2.2⟩
  · rw [upd_ne (Nat.ne_of_lt (Nat.lt_of_lt_of_le (Heap.lt_size e) hp))]
    exact n
  · rw [upd_ne (ne_of_none e hn)]
    exact e
  · rw [upd_ne (ne_of_none e hn)]
    exact e
  · exact ⟨#[], by rw [upd_ne (ne_of_none e hn), e]; simp⟩
  · by_cases hb : b = p
    · subst hb
      rw [upd_same] at e
      cases e
      exact new
    · rw [upd_ne hb] at e
      refine (I.hok b u e).stay (fun c v hc q => k c v ?_ q) (fun c q => by rw [upd_ne (ne_of_none q hn)]; exact q) fun c xs q => by rw [upd_ne (ne_of_none q hn)]; exact q
      rcases hc with z | z
      · rw [z]
        exact nch b u e
      · exact nch c _ z
theorem Inv.turnedAll {t' : Nat} {ch : List Addr} (I : Inv X pins σ H s) (k : ∀ b u, b ∉ ch → s.heap.get? b = some u → h'.get? b = some u) (hf : ∀ b ∈ ch, FpOk X pins H b) : Inv X pins σ H { s with heap := h', toks := t' } := by
  have nch : ∀ b u, H b = some u → b ∉ ch := fun b u e z => by rw [(hf b z).1] at e; cases e
  refine I.call (g' := s.gens) (d' := s.drawn) (ch := ch) ⟨fun b u e _ _ hc => k b u hc e, fun b u e _ _ hc => ⟨u.slots, k b u hc e⟩, fun b u e n _ => n, fun b u e hc => ⟨u, k b u hc e⟩, fun b xs e => e, fun b u xs e => e, fun b ps e => ⟨#[], by rw [e]; simp⟩⟩ (fun b u e => ?_) I.bare
    fun b hb => ⟨(hf b hb).2.2.2.1, (hf b hb).2.1, (hf b hb).2.2.2.2.1, (hf b hb).2.2.2.2.2⟩
  refine (I.hok b u e).stay (fun c v hc q => k c v ?_ q) (fun c q => q) fun c xs q => q
  rcases hc with z | z
  · rw [z]
    exact nch b u e
  · exact nch c _ z
end
section
variable {X : Cx} {elts : List Expr} {kk : Nat} {tpos : Pos}
def iZip (K : PySem.W.Frag) (ta : TA) : TI := fun σ H R => ta σ H fun vs H1 => ∃ a b, vs = [.ref a, .ref b] ∧ (∃ xs, SqL K H1 a xs) ∧ (∃ ys, SqL K H1 b ys) ∧ R (Itz K a b) H1
end
end L2
namespace L2
open PySem PySem.Spec PyProof.Rows
structure ExcCls (K : PySem.W.Frag) (mg : Str → Option Value) (x : Str) (C : Addr) : Prop where
  m : mg x = some (.ref C)
  ex : PySem.W.excIn K C [.type "ValueError", .type "Exception", .type "BaseException", .type "object"] "ValueError.__new__" = true
def CXe (P : Program) (w : World) : CXT := fun outer H s E e s' => ∃ (ea : Addr) (cls a0 : Value) (H' : Hp) (B : Heap),
  e = .ref ea ∧ s'.os = s.os ∧ AllBare s'.gens ∧ Un (frs outer) [] H H' s.heap s'.heap ∧ HOk P w H' s'.heap ∧ Heap.FlyingW B outer ea cls a0 s'.heap ∧
  (∀ b o, s'.heap.get? b = some o → b ∉ frs outer → (H' b ≠ none ∨ s.heap.get? b ≠ none) → B.get? b = some o) ∧ H' ea = none ∧ s.heap.get? ea = none ∧ E cls none H'
def Throws (X : Cx) (C : Addr) (R : Hp → Prop) : Prop :=
  ∀ (pins : List (Addr × Obj)) (σ : St) (H : Hp) (s : Shared) (h' : Heap) (ea : Addr) (vs : List Value), Inv X pins σ H s → Heap.MadeExcOf s.heap h' ea (.ref C) vs → R H → X.xe (.ref ea) { s with heap := h' }
section
variable {X : Cx}
def tRaise (te : TE) (R : Hp → Prop) : TS := fun _ σ H => te σ H fun v H1 => ([v] : List V).length = 1 ∧ R H1
end
end L2
namespace L2
open PySem PySem.Spec PyProof.Rows
abbrev Cx.marked (X : Cx) (ea : Addr) : Cx := { X with A := X.A.mark (some (.ref ea)), calm := false, xe := fun _ _ => False }
section
variable {X : Cx} {pins : List (Addr × Obj)} {σ : St} {H : Hp} {s : Shared} {ea : Addr}
def ExcAt (p : Addr) (cls : Value) (h : Heap) : Prop := ∃ o, h.get? p = some o ∧ o.cls = cls
end
end L2
namespace L2
open PySem PySem.Spec PySem.W PySem.Calls PyProof.Rows
structure ExcKit (K : Frag) (C : Addr) : Prop where
  ga : findIn K (.ref C) "__getattribute__" = some (some (.builtin "BaseException.__getattribute__"))
  gx : findIn K (.ref C) "__getattr__" = some none
  cl : findIn K (.ref C) "__class__" = some (some (.builtin "object.__class__"))
  mo : mroIn K C (.type "object") = some true
  mb : mroIn K C (.type "BaseException") = some true
section
variable {prog : Program} {w : World} {A : Around} {E : Value → Shared → Prop} {h : Heap} {g : Array GenState} {d : Drawn} {t : Nat} {os : OsState} {a C : Addr} {o : Obj} {K : Frag}
open Builtin Builtin.ObjectAttr Builtin.Getset_descriptor in
end
section
variable {X : Cx}
def rIsiX (K : Frag) : List V → Hp → VK → Prop := fun xs H Q => ∃ p c cv C b, xs = [.ref p, c] ∧ RelV c cv ∧ H p = some (.ext (ExcAt p (.ref C))) ∧ ExcKit K C ∧ kitOne K (.ref C) cv = some b ∧ Q (.bl b) H
end
end L2
namespace L2
open PySem PySem.Spec PyProof.Rows
def tTry (K : PySem.W.Frag) (Ch : Value) (i : Nat) (sp : Sp) (t : TA) (ts : TS) : TS := fun D σ H => t σ H fun vs H1 => sp vs H1 (fun _ H2 => D.nx σ H2)
  (fun cls _ H2 => (∃ C, cls = .ref C) ∧ PySem.W.exmOne K cls Ch = some true ∧ ∀ ea, H2 ea = none → ts { nx := fun σ' H' => D.nx (σ'.set i none) H', rt := fun _ _ => False } (σ.set i (some (.ref ea))) (upd H2 ea (.ext (ExcAt ea cls))))
section
variable {X : Cx} {k : Nat} {f : Addr} {fd : FuncData} {ps : List Str} {sp : Sp} {x c n : Str} {p cpos epos np hpos pos : Pos} {e : Expr} {es : List Expr} {t : TA} {b₀ : Stmt} {suite : List Stmt} {ts : TS} {i : Nat} {Ch : Value}
end
end L2
namespace L2
open PySem PySem.Spec PyProof.Rows
section
variable {X : Cx}
theorem ints_get {its : List Value} {ns : List Int} (i : IntsAre its ns) : ∀ (j : Nat) v, its[j]? = some v → ∃ t, v = Value.int (ns.getD j 0) t := by
  induction i with
  | nil => intro j v h; simp at h
  | cons n t i ih =>
    intro j v h
    cases j with
    | zero => simp at h; exact ⟨t, h.symm⟩
    | succ j =>
      obtain ⟨t', e⟩ := ih j v (by simpa using h)
      exact ⟨t', by simpa using e⟩
theorem call_sum (hc : X.calm = true) : CallR X (.builtin "sum") (fun xs H Q => ∃ (p : Addr) (ns : List Int), xs = [.ref p] ∧ SqL X.K H p (ns.map V.int) ∧ Q (.int ns.sum) H) := by
  intro pins s σ H xs us Q I r h
  obtain ⟨p, ns, rfl, hp, q⟩ := h
  obtain ⟨u, rfl, ru⟩ := vals1 r
  cases ru
  obtain ⟨its, rv, pl, _⟩ := I.list hp
  have i1 : IntsAre its ns := intsAre_of rv
  have lp : p < s.heap.objs.size := by obtain ⟨_, e, _⟩ := pl.isList; exact Heap.lt_size e
  refine call_sum_walkG (wpAny_pyIter_list pl.isList ?_)
  refine ⟨s.heap.objs.size, _, _, _, _, _, fun j => ns.getD j 0, rfl, Walks.list (A := X.A.in1) (I.ok.hd hc) s.heap.objs.size p (Nat.ne_of_lt lp) its.toArray, ⟨⟨_, Heap.get?_push_size _ rfl, rfl, rfl⟩, pl.isList.at fun o e => Heap.get?_push_of_some _ e⟩, fun b hb => ?_, fun j v hj => ints_get i1 j v (by simpa using hj), fun h' tk t' kk => ?_⟩
  · have hb' : b = s.heap.objs.size ∨ b = p := by simpa using hb
    rcases hb' with rfl | rfl
    · rw [Heap.size_push]; exact Nat.lt_succ_self _
    · rw [Heap.size_push]; exact Nat.lt_succ_of_lt lp
  · refine ⟨.int ns.sum, H, I.kept (t' := tk) fun b o e => kk b o (fun z => ?_) (Heap.get?_push_of_some _ e), ⟨t', ?_⟩, q⟩
    · have z' : b = s.heap.objs.size := by simpa using z
      exact absurd (Heap.lt_size e) (by rw [z']; exact Nat.lt_irrefl _)
    · have l1 : its.toArray.size = ns.length := by rw [List.size_toArray]; exact i1.length
      rw [preSum_getD, l1, List.take_of_length_le (Nat.le_refl _)]
end
end L2
namespace L2
open PySem PySem.Spec PyProof.Rows
inductive Dt where
  | non | int (i : Int) | str (x : Str) | tup (ds : List Dt)
mutual
def Dt.beq : Dt → Dt → Bool
  | .non, .non => true
  | .int i, .int j => i == j
  | .str x, .str y => x == y
  | .tup a, .tup b => Dt.beqs a b
  | _, _ => false
def Dt.beqs : List Dt → List Dt → Bool
  | [], [] => true
  | x :: xs, y :: ys => Dt.beq x y && Dt.beqs xs ys
  | _, _ => false
end
mutual
def Dt.hgt : Dt → Nat
  | .tup ds => Dt.hgts ds + 1
  | _ => 0
def Dt.hgts : List Dt → Nat
  | [] => 0
  | d :: r => max (Dt.hgt d) (Dt.hgts r)
end
mutual
def DatAt (K : PySem.W.Frag) (H : Hp) : V → Dt → Prop
  | v, .non => v = .non
  | v, .int i => v = .int i
  | v, .str x => v = .str x
  | v, .tup ds => ∃ r vs, v = .ref r ∧ SqT K H r vs ∧ DatsAt K H vs ds
def DatsAt (K : PySem.W.Frag) (H : Hp) : List V → List Dt → Prop
  | [], [] => True
  | v :: vs, d :: ds => DatAt K H v d ∧ DatsAt K H vs ds
  | _, _ => False
end
mutual
theorem Dt.beq_iff : ∀ (x y : Dt), Dt.beq x y = true ↔ x = y
  | .non, y => by cases y <;> simp [Dt.beq]
  | .int i, y => by cases y <;> simp [Dt.beq]
  | .str i, y => by cases y <;> simp [Dt.beq]
  | .tup a, y => by
    cases y with
    | tup b =>
      have := Dt.beqs_iff a b
      simp [Dt.beq, this]
    | _ => simp [Dt.beq]
theorem Dt.beqs_iff : ∀ (x y : List Dt), Dt.beqs x y = true ↔ x = y
  | [], y => by cases y <;> simp [Dt.beqs]
  | a :: r, y => by
    cases y with
    | nil => simp [Dt.beqs]
    | cons b t =>
      have h1 := Dt.beq_iff a b
      have h2 := Dt.beqs_iff r t
      simp [Dt.beqs, h1, h2]
end
theorem Dt.beq_self (x : Dt) : Dt.beq x x = true := (Dt.beq_iff x x).mpr rfl
theorem Dt.beqs_self (x : List Dt) : Dt.beqs x x = true := (Dt.beqs_iff x x).mpr rfl
theorem Dt.beq_ne {x y : Dt} (h : x ≠ y) : Dt.beq x y = false := by
  cases e : Dt.beq x y with
  | false => rfl
  | true => exact absurd ((Dt.beq_iff x y).mp e) h
theorem Dt.hgt_mem : ∀ {ds : List Dt} {d : Dt}, d ∈ ds → d.hgt ≤ Dt.hgts ds
  | e :: r, d, h => by
    have e1 : Dt.hgts (e :: r) = max (Dt.hgt e) (Dt.hgts r) := by simp [Dt.hgts]
    rw [e1]
    rcases List.mem_cons.mp h with z | z
    · rw [z]; omega
    · have := Dt.hgt_mem z
      omega
section
variable {K : PySem.W.Frag} {H H' : Hp}
theorem DatAt.non : DatAt K H .non .non := by simp [DatAt]
theorem DatAt.int (i : Int) : DatAt K H (.int i) (.int i) := by simp [DatAt]
theorem DatAt.str (i : Str) : DatAt K H (.str i) (.str i) := by simp [DatAt]
theorem DatAt.tup {r : Addr} {vs : List V} {ds : List Dt} (h : SqT K H r vs) (k : DatsAt K H vs ds) : DatAt K H (.ref r) (.tup ds) := by
  simp only [DatAt]
  exact ⟨r, vs, rfl, h, k⟩
theorem DatsAt.nil : DatsAt K H [] [] := by simp [DatsAt]
theorem DatsAt.cons {v : V} {d : Dt} {vs : List V} {ds : List Dt} (h : DatAt K H v d) (k : DatsAt K H vs ds) : DatsAt K H (v :: vs) (d :: ds) := by
  simp only [DatsAt]
  exact ⟨h, k⟩
theorem DatAt.un {v : V} {ds : List Dt} (h : DatAt K H v (.tup ds)) : ∃ r vs, v = .ref r ∧ SqT K H r vs ∧ DatsAt K H vs ds := by
  simp only [DatAt] at h
  exact h
theorem DatsAt.un {vs : List V} {d : Dt} {ds : List Dt} (h : DatsAt K H vs (d :: ds)) : ∃ v r, vs = v :: r ∧ DatAt K H v d ∧ DatsAt K H r ds := by
  cases vs with
  | nil => simp [DatsAt] at h
  | cons v r =>
    simp only [DatsAt] at h
    exact ⟨v, r, rfl, h.1, h.2⟩
theorem DatsAt.un0 {vs : List V} (h : DatsAt K H vs []) : vs = [] := by
  cases vs with
  | nil => rfl
  | cons v r => simp [DatsAt] at h
mutual
theorem DatAt.same (e : Same H H') : ∀ {v : V} {d : Dt}, DatAt K H v d → DatAt K H' v d
  | v, .non, h => by simpa [DatAt] using h
  | v, .int i, h => by simpa [DatAt] using h
  | v, .str i, h => by simpa [DatAt] using h
  | v, .tup ds, h => by
    obtain ⟨r, vs, rfl, h1, h2⟩ := h.un
    exact .tup (e.tup h1) (DatsAt.same e h2)
theorem DatsAt.same (e : Same H H') : ∀ {vs : List V} {ds : List Dt}, DatsAt K H vs ds → DatsAt K H' vs ds
  | vs, [], h => by
    rw [h.un0]
    exact .nil
  | vs, d :: ds, h => by
    obtain ⟨v, r, rfl, h1, h2⟩ := h.un
    exact .cons (DatAt.same e h1) (DatsAt.same e h2)
end
theorem DatsAt.length : ∀ {vs : List V} {ds : List Dt}, DatsAt K H vs ds → vs.length = ds.length
  | vs, [], h => by rw [h.un0]; rfl
  | vs, d :: ds, h => by
    obtain ⟨v, r, rfl, _, h2⟩ := h.un
    simp [DatsAt.length h2]
theorem DatsAt.get : ∀ {vs : List V} {ds : List Dt} {i : Nat} {d : Dt}, DatsAt K H vs ds → ds[i]? = some d → ∃ v, vs[i]? = some v ∧ DatAt K H v d
  | vs, [], i, d, h, e => by simp at e
  | vs, c :: ds, i, d, h, e => by
    obtain ⟨v, r, rfl, h1, h2⟩ := h.un
    cases i with
    | zero =>
      have e' : c = d := by simpa using e
      subst e'
      exact ⟨v, rfl, h1⟩
    | succ i =>
      obtain ⟨u, e1, e2⟩ := DatsAt.get (i := i) (d := d) h2 (by simpa using e)
      exact ⟨u, by simpa using e1, e2⟩
theorem DatsAt.get' {vs : List V} {ds : List Dt} {i : Nat} {v : V} (h : DatsAt K H vs ds) (e : vs[i]? = some v) : ∃ d, ds[i]? = some d ∧ DatAt K H v d := by
  have hl := h.length
  have hi : i < ds.length := by
    have := (List.getElem?_eq_some_iff.mp e).1
    omega
  obtain ⟨u, e1, e2⟩ := h.get (List.getElem?_eq_getElem hi)
  rw [e] at e1
  cases e1
  exact ⟨_, List.getElem?_eq_getElem hi, e2⟩
theorem DatsAt.append : ∀ {vs ws : List V} {ds es : List Dt}, DatsAt K H vs ds → DatsAt K H ws es → DatsAt K H (vs ++ ws) (ds ++ es)
  | vs, ws, [], es, h, k => by
    rw [h.un0]
    exact k
  | vs, ws, d :: ds, es, h, k => by
    obtain ⟨v, r, rfl, h1, h2⟩ := h.un
    exact .cons h1 (DatsAt.append h2 k)
end
theorem Dt.all_beqs : ∀ (a b : List Dt), ((List.range (min a.length b.length)).all (fun j => Dt.beq (a.getD j .non) (b.getD j .non)) && a.length == b.length) = Dt.beqs a b
  | [], [] => by simp [Dt.beqs]
  | [], _ :: _ => by simp [Dt.beqs]
  | _ :: _, [] => by simp [Dt.beqs]
  | x :: a, y :: b => by
    have ih := Dt.all_beqs a b
    have e : min (x :: a).length (y :: b).length = min a.length b.length + 1 := by simp
    rw [e, List.range_succ_eq_map]
    simp only [List.all_cons, List.all_map, Dt.beqs, List.length_cons]
    rw [← ih, Bool.and_assoc]
    congr 1
    congr 1
    rw [Bool.eq_iff_iff]
    simp
section
variable {X : Cx} {pins : List (Addr × Obj)} {σ : St} {H : Hp} {s : Shared}
mutual
theorem DatAt.inj (I : Inv X pins σ H s) : ∀ {v : V} {d e : Dt}, DatAt X.K H v d → DatAt X.K H v e → d = e
  | v, .non, e, h, k => by
    have h' : v = .non := by simpa [DatAt] using h
    subst h'
    cases e <;> simp [DatAt] at k ⊢
  | v, .int i, e, h, k => by
    have h' : v = .int i := by simpa [DatAt] using h
    subst h'
    cases e <;> simp [DatAt] at k ⊢
    exact k
  | v, .str i, e, h, k => by
    have h' : v = .str i := by simpa [DatAt] using h
    subst h'
    cases e <;> simp [DatAt] at k ⊢
    exact k
  | v, .tup ds, e, h, k => by
    obtain ⟨r, vs, rfl, h1, h2⟩ := h.un
    cases e with
    | tup es =>
      obtain ⟨r', ws, e', k1, k2⟩ := k.un
      cases e'
      have := I.tuple_inj h1 k1
      subst this
      rw [DatsAt.inj I h2 k2]
    | _ => simp [DatAt] at k
theorem DatsAt.inj (I : Inv X pins σ H s) : ∀ {vs : List V} {ds es : List Dt}, DatsAt X.K H vs ds → DatsAt X.K H vs es → ds = es
  | vs, [], es, h, k => by
    have := h.un0
    subst this
    cases es with
    | nil => rfl
    | cons _ _ => simp [DatsAt] at k
  | vs, d :: ds, es, h, k => by
    obtain ⟨v, r, rfl, h1, h2⟩ := h.un
    cases es with
    | nil => simp [DatsAt] at k
    | cons e es =>
      simp only [DatsAt] at k
      rw [DatAt.inj I h1 k.1, DatsAt.inj I h2 k.2]
end
theorem getD_of {α : Type} {xs : List α} {i : Nat} {x d : α} (h : xs[i]? = some x) : xs.getD i d = x := by
  rw [List.getD_eq_getElem?_getD, h]
  rfl
theorem items_eq {A : Around} {vs ws : List V} {ds es : List Dt} {its its2 : List Value} (h : DatsAt X.K H vs ds) (k : DatsAt X.K H ws es) (r1 : Vals vs its) (r2 : Vals ws its2)
    (ih : ∀ (d e : Dt) (x y : V) (u v : Value), d ∈ ds → DatAt X.K H x d → DatAt X.K H y e → RelV x u → RelV y v → SeqAt.EqAt A s u v (Dt.beq d e)) (j : Nat) (h1 : j < its.toArray.size) (h2 : j < its2.toArray.size) :
    SeqAt.EqAt A s its.toArray[j] its2.toArray[j] (Dt.beq (ds.getD j .non) (es.getD j .non)) := by
  have l1 := r1.length
  have l2 := r2.length
  have m1 := h.length
  have m2 := k.length
  rw [List.size_toArray] at h1 h2
  have g1 : ds[j]? = some ds[j] := List.getElem?_eq_getElem (by omega)
  have g2 : es[j]? = some es[j] := List.getElem?_eq_getElem (by omega)
  obtain ⟨x, ex, hx⟩ := h.get g1
  obtain ⟨y, ey, hy⟩ := k.get g2
  obtain ⟨u, eu, ru⟩ := r1.get ex
  obtain ⟨v, ev, rv⟩ := r2.get ey
  have f1 : its.toArray[j] = u := by
    have := (List.getElem?_eq_some_iff.mp eu).2
    simpa using this
  have f2 : its2.toArray[j] = v := by
    have := (List.getElem?_eq_some_iff.mp ev).2
    simpa using this
  rw [f1, f2, getD_of g1, getD_of g2]
  exact ih _ _ x y u v (List.getElem_mem _) hx hy ru rv
theorem tuple_all {vs ws : List V} {ds es : List Dt} {its its2 : List Value} (h : DatsAt X.K H vs ds) (k : DatsAt X.K H ws es) (r1 : Vals vs its) (r2 : Vals ws its2) :
    ((List.range (min its.toArray.size its2.toArray.size)).all (fun j => Dt.beq (ds.getD j .non) (es.getD j .non)) && its.toArray.size == its2.toArray.size) = Dt.beqs ds es := by
  have l1 := r1.length
  have l2 := r2.length
  have m1 := h.length
  have m2 := k.length
  rw [← Dt.all_beqs, List.size_toArray, List.size_toArray, ← l1, ← l2, m1, m2]
theorem eqAt_dat (I : Inv X pins σ H s) : ∀ (n : Nat) (A : Around) (d e : Dt) (x y : V) (u v : Value), d.hgt ≤ n → A.units + n < cLine → DatAt X.K H x d → DatAt X.K H y e → RelV x u → RelV y v → SeqAt.EqAt A s u v (Dt.beq d e) := by
  intro n
  induction n with
  | zero => 
    intro A d e x y u v hd hu hx hy ru rv
    have hu' : A.units < cLine := by omega
    cases d with
    | non =>
      have hx' : x = .non := by simpa [DatAt] using hx
      subst hx'
      cases (show u = Value.none from ru)
      cases e with
      | non =>
        have hy' : y = .non := by simpa [DatAt] using hy
        subst hy'
        cases (show v = Value.none from rv)
        exact SeqAt.EqAt.same _
      | int j =>
        have hy' : y = .int j := by simpa [DatAt] using hy
        subst hy'
        obtain ⟨t, rfl⟩ := (show ∃ t, v = Value.int j t from rv)
        exact SeqAt.EqAt.none_int _ _
      | str j =>
        have hy' : y = .str j := by simpa [DatAt] using hy
        subst hy'
        obtain ⟨t, rfl⟩ := (show ∃ t, v = Value.str j t from rv)
        exact SeqAt.EqAt.none_str _ _
      | tup es =>
        obtain ⟨r, ws, rfl, k1, k2⟩ := hy.un
        cases (show v = Value.ref r from rv)
        obtain ⟨its, _, p, _⟩ := I.tuple k1
        exact SeqAt.EqAt.none_tuple p hu'
    | int i =>
      have hx' : x = .int i := by simpa [DatAt] using hx
      subst hx'
      obtain ⟨t, rfl⟩ := (show ∃ t, u = Value.int i t from ru)
      cases e with
      | non =>
        have hy' : y = .non := by simpa [DatAt] using hy
        subst hy'
        cases (show v = Value.none from rv)
        exact SeqAt.EqAt.int_none _ _
      | int j =>
        have hy' : y = .int j := by simpa [DatAt] using hy
        subst hy'
        obtain ⟨t, rfl⟩ := (show ∃ t, v = Value.int j t from rv)
        exact SeqAt.EqAt.int_int _ _ _ _
      | str j =>
        have hy' : y = .str j := by simpa [DatAt] using hy
        subst hy'
        obtain ⟨t, rfl⟩ := (show ∃ t, v = Value.str j t from rv)
        exact SeqAt.EqAt.int_str _ _ _ _
      | tup es =>
        obtain ⟨r, ws, rfl, k1, k2⟩ := hy.un
        cases (show v = Value.ref r from rv)
        obtain ⟨its, _, p, _⟩ := I.tuple k1
        exact SeqAt.EqAt.int_tuple _ _ p hu'
    | str i =>
      have hx' : x = .str i := by simpa [DatAt] using hx
      subst hx'
      obtain ⟨t, rfl⟩ := (show ∃ t, u = Value.str i t from ru)
      cases e with
      | non =>
        have hy' : y = .non := by simpa [DatAt] using hy
        subst hy'
        cases (show v = Value.none from rv)
        exact SeqAt.EqAt.str_none _ _
      | int j =>
        have hy' : y = .int j := by simpa [DatAt] using hy
        subst hy'
        obtain ⟨t, rfl⟩ := (show ∃ t, v = Value.int j t from rv)
        exact SeqAt.EqAt.str_int _ _ _ _
      | str j =>
        have hy' : y = .str j := by simpa [DatAt] using hy
        subst hy'
        obtain ⟨t, rfl⟩ := (show ∃ t, v = Value.str j t from rv)
        exact SeqAt.EqAt.str_str _ _ _ _
      | tup es =>
        obtain ⟨r, ws, rfl, k1, k2⟩ := hy.un
        cases (show v = Value.ref r from rv)
        obtain ⟨its, _, p, _⟩ := I.tuple k1
        exact SeqAt.EqAt.str_tuple _ _ p hu'
    | tup ds => simp [Dt.hgt] at hd
  | succ n ih =>
    intro A d e x y u v hd hu hx hy ru rv
    have hu' : A.units < cLine := by omega
    by_cases hflat : d.hgt ≤ n
    · exact ih A d e x y u v hflat (by omega) hx hy ru rv
    · cases d with
      | tup ds =>
        have hds : Dt.hgts ds ≤ n := by simpa [Dt.hgt] using hd
        obtain ⟨a, vs, rfl, h1, h2⟩ := hx.un
        cases (show u = Value.ref a from ru)
        obtain ⟨its, r1, p1, _⟩ := I.tuple h1
        cases e with
        | non =>
          have hy' : y = .non := by simpa [DatAt] using hy
          subst hy'
          cases (show v = Value.none from rv)
          exact SeqAt.EqAt.tuple_none p1 hu'
        | int j =>
          have hy' : y = .int j := by simpa [DatAt] using hy
          subst hy'
          obtain ⟨t, rfl⟩ := (show ∃ t, v = Value.int j t from rv)
          exact SeqAt.EqAt.tuple_int _ _ p1 hu'
        | str j =>
          have hy' : y = .str j := by simpa [DatAt] using hy
          subst hy'
          obtain ⟨t, rfl⟩ := (show ∃ t, v = Value.str j t from rv)
          exact SeqAt.EqAt.tuple_str _ _ p1 hu'
        | tup es =>
          obtain ⟨b, ws, rfl, k1, k2⟩ := hy.un
          cases (show v = Value.ref b from rv)
          obtain ⟨its2, r2, p2, _⟩ := I.tuple k1
          by_cases hab : a = b
          · subst hab
            have e1 : Dt.tup ds = Dt.tup es := DatAt.inj I hx hy
            rw [e1, Dt.beq_self]
            exact SeqAt.EqAt.same _
          · have e2 : Dt.beq (.tup ds) (.tup es) = Dt.beqs ds es := by simp [Dt.beq]
            rw [e2, ← tuple_all h2 k2 r1 r2]
            refine SeqAt.EqAt.of_refs hab (SeqAt.RcAt.tuples p1 p2 hu' fun j j1 j2 => items_eq h2 k2 r1 r2 (fun d e x y u v hm q1 q2 q3 q4 => ?_) j j1 j2)
            exact ih A.in1 d e x y u v (Nat.le_trans (Dt.hgt_mem hm) hds) (by show A.units + 1 + n < cLine; omega) q1 q2 q3 q4
      | _ => exact absurd (Nat.zero_le n) (by simpa [Dt.hgt] using hflat)
def rEqD (K : PySem.W.Frag) : R2 := fun x y H Q => ∃ d e, DatAt K H x d ∧ DatAt K H y e ∧ d.hgt ≤ 30 ∧ Q (.bl (Dt.beq d e)) H
def rNeD (K : PySem.W.Frag) : R2 := fun x y H Q => ∃ d e, DatAt K H x d ∧ DatAt K H y e ∧ d.hgt ≤ 30 ∧ Q (.bl (!Dt.beq d e)) H
theorem op_neD (hu : X.A.units + 64 < cLine) : OpR X (compareOp .NotEq) (rNeD X.K) := by
  intro pins s σ H x y u v Q I ru rv h
  obtain ⟨d, e, hx, hy, hd, q⟩ := h
  have hu' : X.A.units < cLine := by omega
  have fin : ∀ {k : Bool}, SeqAt.RcNeAt X.A s u v k → k = !Dt.beq d e → wpAny (model X.prog X.w) X.A (compareOp .NotEq u v) (EP X pins σ Q) X.xe s := fun {k} r ek => by
    subst ek
    exact r _ _ _ _ (fin_bl I q rfl)
  cases d with
  | non =>
    have hx' : x = .non := by simpa [DatAt] using hx
    subst hx'
    cases (show u = Value.none from ru)
    cases e with
    | non =>
      have hy' : y = .non := by simpa [DatAt] using hy
      subst hy'
      cases (show v = Value.none from rv)
      exact fin SeqAt.RcNeAt.none_none rfl
    | int j =>
      have hy' : y = .int j := by simpa [DatAt] using hy
      subst hy'
      obtain ⟨t, rfl⟩ := (show ∃ t, v = Value.int j t from rv)
      exact fin (SeqAt.RcNeAt.none_int _ _) rfl
    | str j =>
      have hy' : y = .str j := by simpa [DatAt] using hy
      subst hy'
      obtain ⟨t, rfl⟩ := (show ∃ t, v = Value.str j t from rv)
      exact fin (SeqAt.RcNeAt.none_str _ _) rfl
    | tup es =>
      obtain ⟨r, ws, rfl, k1, k2⟩ := hy.un
      cases (show v = Value.ref r from rv)
      obtain ⟨its, _, p, _⟩ := I.tuple k1
      exact fin (SeqAt.RcNeAt.none_tuple p hu') rfl
  | int i =>
    have hx' : x = .int i := by simpa [DatAt] using hx
    subst hx'
    obtain ⟨t, rfl⟩ := (show ∃ t, u = Value.int i t from ru)
    cases e with
    | non =>
      have hy' : y = .non := by simpa [DatAt] using hy
      subst hy'
      cases (show v = Value.none from rv)
      exact fin (SeqAt.RcNeAt.int_none _ _) rfl
    | int j =>
      have hy' : y = .int j := by simpa [DatAt] using hy
      subst hy'
      obtain ⟨t, rfl⟩ := (show ∃ t, v = Value.int j t from rv)
      exact fin (SeqAt.RcNeAt.int_int _ _ _ _) rfl
    | str j =>
      have hy' : y = .str j := by simpa [DatAt] using hy
      subst hy'
      obtain ⟨t, rfl⟩ := (show ∃ t, v = Value.str j t from rv)
      exact fin (SeqAt.RcNeAt.int_str _ _ _ _) rfl
    | tup es =>
      obtain ⟨r, ws, rfl, k1, k2⟩ := hy.un
      cases (show v = Value.ref r from rv)
      obtain ⟨its, _, p, _⟩ := I.tuple k1
      exact fin (SeqAt.RcNeAt.int_tuple _ _ p hu') rfl
  | str i =>
    have hx' : x = .str i := by simpa [DatAt] using hx
    subst hx'
    obtain ⟨t, rfl⟩ := (show ∃ t, u = Value.str i t from ru)
    cases e with
    | non =>
      have hy' : y = .non := by simpa [DatAt] using hy
      subst hy'
      cases (show v = Value.none from rv)
      exact fin (SeqAt.RcNeAt.str_none _ _) rfl
    | int j =>
      have hy' : y = .int j := by simpa [DatAt] using hy
      subst hy'
      obtain ⟨t, rfl⟩ := (show ∃ t, v = Value.int j t from rv)
      exact fin (SeqAt.RcNeAt.str_int _ _ _ _) rfl
    | str j =>
      have hy' : y = .str j := by simpa [DatAt] using hy
      subst hy'
      obtain ⟨t, rfl⟩ := (show ∃ t, v = Value.str j t from rv)
      exact fin (SeqAt.RcNeAt.str_str _ _ _ _) rfl
    | tup es =>
      obtain ⟨r, ws, rfl, k1, k2⟩ := hy.un
      cases (show v = Value.ref r from rv)
      obtain ⟨its, _, p, _⟩ := I.tuple k1
      exact fin (SeqAt.RcNeAt.str_tuple _ _ p hu') rfl
  | tup ds =>
    obtain ⟨a, vs, rfl, h1, h2⟩ := hx.un
    cases (show u = Value.ref a from ru)
    obtain ⟨its, r1, p1, _⟩ := I.tuple h1
    cases e with
    | non =>
      have hy' : y = .non := by simpa [DatAt] using hy
      subst hy'
      cases (show v = Value.none from rv)
      exact fin (SeqAt.RcNeAt.tuple_none p1 hu') rfl
    | int j =>
      have hy' : y = .int j := by simpa [DatAt] using hy
      subst hy'
      obtain ⟨t, rfl⟩ := (show ∃ t, v = Value.int j t from rv)
      exact fin (SeqAt.RcNeAt.tuple_int _ _ p1 hu') rfl
    | str j =>
      have hy' : y = .str j := by simpa [DatAt] using hy
      subst hy'
      obtain ⟨t, rfl⟩ := (show ∃ t, v = Value.str j t from rv)
      exact fin (SeqAt.RcNeAt.tuple_str _ _ p1 hu') rfl
    | tup es =>
      obtain ⟨b, ws, rfl, k1, k2⟩ := hy.un
      cases (show v = Value.ref b from rv)
      obtain ⟨its2, r2, p2, _⟩ := I.tuple k1
      refine fin (SeqAt.RcNeAt.tuples p1 p2 hu' fun j j1 j2 => items_eq h2 k2 r1 r2 (fun d e x y u v hm q1 q2 q3 q4 => ?_) j j1 j2) (congrArg not ((tuple_all h2 k2 r1 r2).trans (by simp [Dt.beq])))
      exact eqAt_dat I 30 X.A.in1 d e x y u v (Nat.le_trans (Dt.hgt_mem hm) (by simp [Dt.hgt] at hd; omega)) (by show X.A.units + 1 + 30 < cLine; omega) q1 q2 q3 q4
theorem list_all {vs ws : List V} {ds es : List Dt} {its its2 : List Value} (h : DatsAt X.K H vs ds) (k : DatsAt X.K H ws es) (r1 : Vals vs its) (r2 : Vals ws its2) (hsz : its.toArray.size = its2.toArray.size) :
    (List.range its.toArray.size).all (fun j => Dt.beq (ds.getD j .non) (es.getD j .non)) = Dt.beqs ds es := by
  have e := tuple_all h k r1 r2
  rw [hsz, Nat.min_self, beq_self_eq_true, Bool.and_true] at e
  rw [hsz]
  exact e
def rEqL (K : PySem.W.Frag) : R2 := fun x y H Q => ∃ a b vs ws ds es, x = .ref a ∧ y = .ref b ∧ SqL K H a vs ∧ SqL K H b ws ∧ DatsAt K H vs ds ∧ DatsAt K H ws es ∧ Dt.hgts ds ≤ 30 ∧ Q (.bl (Dt.beqs ds es)) H
def rNeL (K : PySem.W.Frag) : R2 := fun x y H Q => ∃ a b vs ws ds es, x = .ref a ∧ y = .ref b ∧ SqL K H a vs ∧ SqL K H b ws ∧ DatsAt K H vs ds ∧ DatsAt K H ws es ∧ Dt.hgts ds ≤ 30 ∧ Q (.bl (!Dt.beqs ds es)) H
theorem call_isiT : CallR X (.builtin "isinstance") (fun xs H Q => ∃ a vs n b, xs = [.ref a, .ty n] ∧ SqT X.K H a vs ∧ PySem.W.kitOne X.K (.type "tuple") (.type n) = some b ∧ Q (.bl b) H) := by
  intro pins s σ H xs us Q I r h
  obtain ⟨a, vs, n, b, rfl, ht, e, q⟩ := h
  obtain ⟨u, w', rfl, r1, r2⟩ := vals2 r
  cases (show u = Value.ref a from r1)
  cases (show w' = Value.type n from r2)
  obtain ⟨its, _, ⟨o, h1, h2, _⟩, _⟩ := I.tuple ht
  exact PySem.W.kia_one PySem.W.kitx_tuple I.kIn ⟨o, h1, h2⟩ e (fun z => nomatch z) fun tk => ⟨.bl b, H, I.tok tk, rfl, q⟩
end
end L2
namespace L2
open PySem PySem.Spec PySem.W PyProof.Rows
def Tr {α : Type} (N : Nat) (P : α → Prop) : KasT α → Prop
  | .ret a => P a
  | .ask i j k => i < N ∧ j < N ∧ ∀ b, Tr N P (k b)
theorem Tr.bind {α β : Type} {N : Nat} {P : α → Prop} {R : β → Prop} {f : α → KasT β} : ∀ {t : KasT α}, Tr N P t → (∀ a, P a → Tr N R (f a)) → Tr N R (t.bind f)
  | .ret a, h, k => k a h
  | .ask _ _ _, h, k => ⟨h.1, h.2.1, fun b => Tr.bind (h.2.2 b) k⟩
theorem Tr.wp {α : Type} {N : Nat} {P : α → Prop} {cmp : Nat → Nat → (Bool → Shared → Prop) → Shared → Prop} {s : Shared} {Q : α → Shared → Prop} (lt : Nat → Nat → Bool)
    (hc : ∀ i j (C : Bool → Shared → Prop), i < N → j < N → C (lt i j) s → cmp i j C s) (hq : ∀ a, P a → Q a s) : ∀ {t : KasT α}, Tr N P t → t.kasWp cmp Q s
  | .ret a, h => hq a h
  | .ask i j _, h => hc i j _ h.1 h.2.1 (Tr.wp lt hc hq (h.2.2 _))
def Pl (N : Nat) (p : Array Nat) : Prop := p.Perm (List.range N).toArray
theorem Pl.below {N : Nat} {p : Array Nat} (hN : 0 < N) (h : Pl N p) (k : Nat) : p.getD k 0 < N := by
  by_cases hk : k < p.size
  · have e : p.getD k 0 = p[k] := by simp [Array.getD, hk]
    have m : p[k] ∈ (List.range N).toArray := h.mem_iff.mp (Array.getElem_mem hk)
    rw [e]
    simpa using m
  · have e : p.getD k 0 = 0 := by simp [Array.getD, hk]
    rw [e]
    exact hN
theorem Pl.rev {N : Nat} {p : Array Nat} (h : Pl N p) (i j : Nat) : Pl N (kas_rev p i j) := (mirror_perm p i j _).trans h
theorem Pl.bub {N : Nat} {p : Array Nat} (h : Pl N p) (i j : Nat) : Pl N (bubble p i j) := (bubble_perm p i j).trans h
section
variable {N : Nat} (hN : 0 < N)
include hN
theorem tr_asc {p : Array Nat} (h : Pl N p) : ∀ f n, Tr N (fun _ => True) (kas_asc p f n)
  | 0, _ => trivial
  | f + 1, n => ⟨h.below hN _, h.below hN _, fun b => by
    cases b with
    | true => exact trivial
    | false => exact tr_asc h f (n + 1)⟩
theorem tr_desc : ∀ f (p : Array Nat) n q, Pl N p → Tr N (fun r => Pl N r.1) (kas_desc f p n q)
  | 0, _, _, _, h => h
  | f + 1, p, n, q, h => ⟨h.below hN _, h.below hN _, fun b => by
    cases b with
    | true =>
      show Tr N _ (if q > 0 then _ else _)
      split
      · exact tr_desc f _ _ _ (h.rev _ _)
      · exact tr_desc f _ _ _ h
    | false =>
      refine ⟨h.below hN _, h.below hN _, fun b => ?_⟩
      cases b with
      | true => exact h
      | false => exact tr_desc f _ _ _ h⟩
theorem tr_tail {p : Array Nat} (h : Pl N p) (n m : Nat) : Tr N (fun r => Pl N r.2) (kas_tail3 n m p) := (tr_asc hN (h.rev _ _) _ _).bind fun _ _ => h.rev _ _
theorem tr_part {p : Array Nat} (h : Pl N p) (n m : Nat) : Tr N (fun r => Pl N r.2) (kas_descPart n m p) := (tr_desc hN _ _ _ _ h).bind fun r hr => by
  split
  · exact tr_tail hN (hr.rev _ _) _ _
  · exact tr_tail hN hr _ _
theorem tr_count {p : Array Nat} (h : Pl N p) (m : Nat) : Tr N (fun r => Pl N r.2) (kas_count m p) := (tr_asc hN h _ _).bind fun n _ => by
  split
  · exact h
  · split
    · refine ⟨h.below hN _, h.below hN _, fun b => ?_⟩
      cases b with
      | true => exact h
      | false => exact tr_part hN (h.rev _ _) _ _
    · exact tr_part hN h _ _
theorem tr_place {p : Array Nat} (h : Pl N p) (k : Nat) : ∀ f l r, Tr N (fun _ => True) (kas_place p k f l r)
  | 0, _, _ => trivial
  | f + 1, l, r => by
    show Tr N _ (if l ≥ r then _ else _)
    split
    · exact trivial
    · refine ⟨h.below hN _, h.below hN _, fun b => ?_⟩
      cases b with
      | true => exact tr_place h k f _ _
      | false => exact tr_place h k f _ _
theorem tr_bin : ∀ f (p : Array Nat) k, Pl N p → Tr N (Pl N) (kas_bin f p k)
  | 0, _, _, h => h
  | f + 1, p, k, h => (tr_place hN h k _ _ _).bind fun _ _ => tr_bin f _ _ (h.bub _ _)
theorem tr_sort : Tr N (Pl N) (kas_sort N) := (tr_count hN (show Pl N _ from Array.Perm.refl _) N).bind fun r hr => by
  split
  · exact tr_bin hN _ _ _ hr
  · exact hr
end
section
variable {prog : Program} {w : World} {A : Around} {E : Value → Shared → Prop} {s : Shared}
theorem lsort {a : Addr} {us : List Value} {n : Nat} {R : PySem.Fin → Shared → Prop} (stands : s.heap.get? a = some (seqObj "list" us.toArray n)) (few : us.length < 64) (lt : Nat → Nat → Bool) (κ : SortKind)
    (kind : ∀ z : Shared, (∀ b o, b ≠ a → s.heap.get? b = some o → z.heap.get? b = some o) → 2 ≤ us.length → ∀ Q : SortKind → Shared → Prop, Q κ z → wpAny (model prog w) A (keyKind' us.toArray) Q (fun _ _ => False) z)
    (ask : ∀ z : Shared, (∀ b o, b ≠ a → s.heap.get? b = some o → z.heap.get? b = some o) → ∀ i j (C : Bool → Shared → Prop), i < us.length → j < us.length → C (lt i j) z → kas_ask prog w A κ us i j C z)
    (done : ∀ (p : Array Nat) (g : Heap) (c : Nat), Pl us.length p → (∀ b o, b ≠ a → s.heap.get? b = some o → g.get? b = some o) → g.get? a = some (seqObj "list" (p.toList.map fun i => us.getD i Value.none).toArray c) →
      R (.done (.ret .none)) { s with heap := g }) : wpAny (model prog w) A (Builtin.«list.sort» ⟨[.ref a], []⟩) R E s := by
  have lta : a < s.heap.objs.size := Heap.lt_size stands
  obtain ⟨c1, st1⟩ : ∃ c1, (s.heap.update a (Obj.mapSeq fun _ => (#[] : Array Value))).get? a = some (seqObj "list" #[] c1) := ⟨_, get?_update_seq stands fun _ => #[]⟩
  generalize hg : ((s.heap.update a (Obj.mapSeq fun _ => (#[] : Array Value))).push (seqObj "tuple" us.toArray 0)).push (seqObj "list" #[] 0) = g1
  have stays : ∀ b o, b ≠ a → s.heap.get? b = some o → g1.get? b = some o := fun b o hb e => by
    rw [← hg]
    exact Heap.get?_push_of_some _ (Heap.get?_push_of_some _ ((Heap.SameBut.update s.heap a _).2 b hb |>.trans e))
  have st2 : g1.get? a = some (seqObj "list" #[] c1) := by
    rw [← hg]
    exact Heap.get?_push_of_some _ (Heap.get?_push_of_some _ st1)
  have ends : ∀ (p : Array Nat), Pl us.length p → ∀ Q : Unit → Shared → Prop, (∀ g c, (∀ b o, b ≠ a → s.heap.get? b = some o → g.get? b = some o) → g.get? a = some (seqObj "list" (p.toList.map fun i => us.getD i Value.none).toArray c) → Q () { s with heap := g }) →
      wpAny (model prog w) A (Builtin.List.listUpdate (.ref a) fun _ => (p.toList.map fun i => us.getD i Value.none).toArray) Q E { s with heap := g1 } := fun p hp Q hQ => by
    refine listUpdate_at (s := { s with heap := g1 }) st2 rfl (hQ _ _ (fun b o hb e => ((Heap.SameBut.update g1 a _).2 b hb).trans (stays b o hb e)) (get?_update_seq st2 fun _ => _)) (Nat.zero_le _) ?_
    have hs : p.size = us.length := by simpa using hp.size_eq
    rw [List.size_toArray, List.length_map, Array.length_toList, hs, sizeLine_eq]
    omega
  rw [list_sort_plain]
  refine wpAny_bind (listItems_at stands rfl ?_)
  refine wpAny_bind (listUpdate_at stands rfl ?_ (by rw [List.size_toArray, sizeLine_eq]; omega) (Nat.zero_le _))
  refine wpAny_bind (seqEpoch_at st1 rfl (wpAny_bind (wpAny_newTuple (wpAny_bind (wpAny_newList ?_ (Nat.zero_le _))) (by show us.length ≤ _; rw [sizeLine_eq]; omega))))
  refine wpAny_holding ?_
  show wpAny (model prog w) A _ R E { s with heap := ((s.heap.update a (Obj.mapSeq fun _ => (#[] : Array Value))).push (seqObj "tuple" us.toArray 0)).push (seqObj "list" #[] 0) }
  rw [hg]
  dsimp only
  by_cases h2 : us.toArray.size < 2
  · rw [if_pos h2, if_pos h2]
    refine wpAny_bind (wpAny_pure ?_)
    rw [StateT.run_pure]
    refine wpAny_bind (wpAny_pure ?_)
    dsimp only
    refine wpAny_bind (seqEpoch_at st2 rfl ?_)
    have e1 : (arrOf (SortSt.mk' general' (us.toArray.zip us.toArray) #[] 7 none)).map (·.2) = ((List.range us.length).toArray.toList.map fun i => us.getD i Value.none).toArray := by
      show (us.toArray.zip us.toArray).map (·.2) = _
      apply Array.toList_inj.mp
      refine List.ext_getElem (by simp) fun i k1 k2 => ?_
      have k3 : i < us.length := by simpa using k1
      simp [List.getD_eq_getElem?_getD, k3]
    rw [e1]
    refine wpAny_bind (ends _ (Array.Perm.refl _) _ fun g c k1 k2 => ?_)
    simp only [bne_self_eq_false, Bool.false_eq_true, if_false]
    exact wpAny_pure (done _ g c (Array.Perm.refl _) k1 k2)
  · rw [if_neg h2, if_neg h2]
    have h2' : 2 ≤ us.length := by rw [List.size_toArray] at h2; omega
    refine wpAny_bind (wpAny_mono (kind { s with heap := g1 } stays h2' (fun k z => k = κ ∧ z = { s with heap := g1 }) ⟨rfl, rfl⟩) (fun k z hk => ?_) fun _ _ x => x.elim)
    obtain ⟨rfl, rfl⟩ := hk
    have tree : (kas_sort us.length).kasWp (kas_ask prog w A k us) (fun p z => Pl us.length p ∧ z = { s with heap := g1 }) { s with heap := g1 } :=
      (tr_sort (by omega)).wp lt (ask { s with heap := g1 } stays) fun p hp => ⟨hp, rfl⟩
    refine wpAny_bind (wpAny_mono (kat_run (E := E) (Q := fun st z => ∃ p : Array Nat, arrOf st = p.map (kas_item (us.toArray.zip us.toArray)) ∧ failedOf st = none ∧ Pl us.length p ∧ z = { s with heap := g1 }) rfl h2' few
      (fun p st z _ q1 q2 q3 => ⟨p, q1, q2, q3⟩) tree) ?_ fun _ _ x => x)
    rintro ⟨⟨⟩, st⟩ z ⟨p, q1, q2, q3, rfl⟩
    dsimp only
    refine wpAny_bind (seqEpoch_at st2 rfl ?_)
    rw [kat_snds rfl q1]
    refine wpAny_bind (ends p q3 _ fun g c k1 k2 => ?_)
    rw [q2]
    simp only [bne_self_eq_false, Bool.false_eq_true, if_false]
    exact wpAny_pure (done p g c q3 k1 k2)
end
end L2
namespace L2
open PySem PySem.Spec PySem.W PyProof.Rows
def pairD (f : Str × Int) : Dt := .tup [.str f.1, .int f.2]
def pairLt (f g : Str × Int) : Bool := if f.1 == g.1 then (if f.2 == g.2 then false else decide (f.2 < g.2)) else decide (f.1.cps.toList < g.1.cps.toList)
section
variable {X : Cx} {pins : List (Addr × Obj)} {σ : L2.St} {H : Hp} {s : Shared}
theorem pair_at (I : Inv X pins σ H s) {v : V} {u : Value} {f : Str × Int} (h : DatAt X.K H v (pairD f)) (r : RelV v u) :
    ∃ a t t' o n, u = Value.ref a ∧ s.heap.get? a = some o ∧ o.cls = .type "tuple" ∧ o.data = .seq #[Value.str f.1 t, Value.int f.2 t'] n := by
  obtain ⟨a, ws, rfl, h1, h2⟩ := h.un
  obtain ⟨v1, r1, rfl, q1, h3⟩ := h2.un
  obtain ⟨v2, r2, rfl, q2, h4⟩ := h3.un
  have e3 := h4.un0
  subst e3
  have e1 : v1 = .str f.1 := by simpa [DatAt] using q1
  have e2 : v2 = .int f.2 := by simpa [DatAt] using q2
  subst e1 e2
  obtain ⟨its, rv, ⟨o, e, c, n, d⟩, _⟩ := I.tuple h1
  cases (show u = Value.ref a from r)
  obtain ⟨x, y, rfl, rx, ry⟩ := vals2 rv
  obtain ⟨t, rfl⟩ := (show ∃ t, x = Value.str f.1 t from rx)
  obtain ⟨t', rfl⟩ := (show ∃ t, y = Value.int f.2 t from ry)
  exact ⟨a, t, t', o, n, rfl, e, c, d⟩
theorem pairs_tups (I : Inv X pins σ H s) {z : Heap} (kept : ∀ b o, s.heap.get? b = some o → z.get? b = some o) : ∀ (ps : List (Str × Int)) (vs : List V) (us : List Value), DatsAt X.K H vs (ps.map pairD) → Vals vs us →
    ∃ fs, KatTups z us fs ∧ fs.length = us.length ∧ ∀ f ∈ fs, ∃ x t, f = Value.str x t
  | [], vs, us, h, r => by
    have e := h.un0
    subst e
    cases r
    exact ⟨[], .nil, rfl, fun f hf => nomatch hf⟩
  | p :: ps, vs, us, h, r => by
    obtain ⟨v, w', rfl, h1, h2⟩ := DatsAt.un (d := pairD p) (ds := ps.map pairD) h
    cases r with
    | cons r1 r2 =>
      obtain ⟨a, t, t', o, n, rfl, e1, e2, e3⟩ := pair_at I h1 r1
      obtain ⟨fs, k1, k2, k3⟩ := pairs_tups I kept ps _ _ h2 r2
      refine ⟨Value.str p.1 t :: fs, .cons (kept _ _ e1) e2 e3 rfl k1, by simp [k2], fun f hf => ?_⟩
      rcases List.mem_cons.mp hf with q | q
      · exact ⟨_, _, q⟩
      · exact k3 f q
end
theorem DatsAt.pick {K : PySem.W.Frag} {H : Hp} {vs : List V} {ds : List Dt} {d0 : Dt} (h : DatsAt K H vs ds) : ∀ (l : List Nat), (∀ i ∈ l, i < vs.length) → DatsAt K H (l.map fun i => vs.getD i .non) (l.map fun i => ds.getD i d0)
  | [], _ => .nil
  | i :: l, a => by
    have hi := a i (List.mem_cons_self ..)
    have hl := h.length
    obtain ⟨v, ev, hv⟩ := h.get (i := i) (d := ds[i]) (List.getElem?_eq_getElem (by omega))
    refine .cons ?_ (DatsAt.pick h l fun k hk => a k (List.mem_cons_of_mem _ hk))
    show DatAt K H (vs.getD i .non) (ds.getD i d0)
    rw [getD_of ev, getD_of (List.getElem?_eq_getElem (show i < ds.length by omega))]
    exact hv
end L2
namespace L2
open PySem PySem.Spec PyProof.Rows
structure Feed (i l : Addr) (P : Nat → Heap → Prop) (f : Nat → Option Value) : Prop where
  obj : ∀ k h, P k h → ∃ o, h.get? i = some o ∧ ∀ v, o.data ≠ .cell v
  keep : ∀ k (h g : Heap), P k h → (∀ b o, b = i ∨ b = l → h.get? b = some o → g.get? b = some o) → P k g
  item : ∀ {prog : Program} {w : World} {A : Around} {E : Value → Shared → Prop} {s : Shared} {k : Nat} {x : Value} {Q : Value → Shared → Prop}, P k s.heap → f k = some x →
    (∀ g, P (k + 1) g → Heap.SameBut i s.heap g → Q x { s with heap := g }) → wpAny (model prog w) A (Builtin.SmallTypes.nextOf (.ref i)) Q E s
  stop : ∀ {prog : Program} {w : World} {A : Around} {E : Value → Shared → Prop} {s : Shared} {k : Nat} {Q : Value → Shared → Prop}, A.handled = none → P k s.heap → f k = none →
    (∀ g e, Heap.ExtBut i s.heap g → (∃ o, g.get? e = some o ∧ o.cls = .type "StopIteration") → E (.ref e) { s with heap := g }) → wpAny (model prog w) A (Builtin.SmallTypes.nextOf (.ref i)) Q E s
section
variable {prog : Program} {w : World} {A : Around} {E : Value → Shared → Prop} {s : Shared}
variable {z TI TO i1 i2 l1 l2 : Addr} {P1 P2 : Nat → Heap → Prop} {f1 f2 : Nat → Option Value} {k1 k2 : Nat} {x y a b : Value}
theorem zipF_item {Q : Option Value → Shared → Prop} (F1 : Feed i1 l1 P1 f1) (F2 : Feed i2 l2 P2 f2) (D : ZipApart z TI TO i1 i2 l1 l2) (hz : IsZip s.heap z TI TO .none) (hI : IsPair s.heap TI (.ref i1) (.ref i2)) (hO : IsPair s.heap TO a b)
    (p1 : P1 k1 s.heap) (p2 : P2 k2 s.heap) (hx : f1 k1 = some x) (hy : f2 k2 = some y)
    (hQ : ∀ g, IsZip g z TI TO (rawInt s.heap.objs.size) → IsPair g TO x y → P1 (k1 + 1) g → P2 (k2 + 1) g → IsPair g s.heap.objs.size x y →
      (∀ c o, c ≠ z → c ≠ TO → c ≠ i1 → c ≠ i2 → s.heap.get? c = some o → g.get? c = some o) → Q (some (.ref s.heap.objs.size)) { s with heap := g }) :
    wpAny (model prog w) A (pyNext (.ref z)) Q E s := by
  have ty : s.TypeIs (.ref z) "zip" := ⟨_, hz, rfl⟩
  unfold pyNext
  refine wpAny_bind (wpAny_attempt (wpAny_callSpecial?_slot (name := Str.ofString "__next__") ty PySem.F.slot_zip_next (wpAny_call_entry PySem.F.slot_zip_next ty PySem.F.entry_zip_next ?_ (PySem.F.args_zip_next_1 _))))
  show wpAny _ _ (field (.ref z) 2 >>= _) _ _ _
  refine wpAny_bind (wpAny_field hz rfl (x := .bool false) rfl ?_)
  show wpAny _ _ (field (.ref z) 3 >>= _) _ _ _
  refine wpAny_bind (wpAny_field hz rfl (x := .ref TI) rfl (wpAny_bind (wpAny_seqItems hI rfl ?_)))
  show wpAny _ _ (Builtin.SmallTypes.ownedTupleIsFree (.ref z) >>= _) _ _ _
  refine wpAny_bind ?_
  unfold Builtin.SmallTypes.ownedTupleIsFree
  refine wpAny_bind (wpAny_field hz rfl (x := .none) rfl (wpAny_pure ?_))
  simp only [if_true]
  refine wpAny_bind (wpAny_rule (wpAny_bind (wpAny_field hz rfl (x := .ref TO) rfl ?_)))
  refine wpAny_bind (wpAny_setField_rec hz (by simp) fun g1 z1 b1 => ?_)
  replace z1 : IsZip g1 z TI TO .ellipsis := z1
  refine wpAny_bind ?_
  simp only [List.zipIdx_cons, List.zipIdx_nil, List.forIn_cons, List.forIn_nil]
  refine wpAny_bind (wpAny_bind (wpAny_onRaise ?_))
  show wpAny _ _ (Builtin.SmallTypes.nextOf (.ref i1) >>= _) _ _ _
  have q1 : P1 k1 g1 := F1.keep _ _ _ p1 fun c o hc e => b1.extBut _ _ (by rcases hc with rfl | rfl; exact D.i1z; exact D.l1z) e
  refine wpAny_bind (F1.item q1 hx fun g2 r1 b2 => wpAny_pure ?_)
  have O2 : IsPair g2 TO a b := b2.extBut _ _ D.TOi1 (b1.extBut _ _ D.TOz hO)
  refine wpAny_bind (wpAny_seqItems O2 rfl (wpAny_bind (wpAny_updateSeq_pair O2 fun g3 O3 b3 => ?_)))
  replace O3 : IsPair g3 TO x b := O3
  refine wpAny_bind (wpAny_letGo (wpAny_pure (wpAny_bind (wpAny_bind (wpAny_onRaise ?_)))))
  show wpAny _ _ (Builtin.SmallTypes.nextOf (.ref i2) >>= _) _ _ _
  have q2 : P2 k2 g3 := F2.keep _ _ _ p2 fun c o hc e => b3.extBut _ _ (by rcases hc with rfl | rfl; exact D.TOi2.symm; exact D.l2TO) (b2.extBut _ _ (by rcases hc with rfl | rfl; exact D.i12.symm; exact D.l2i1) (b1.extBut _ _ (by rcases hc with rfl | rfl; exact D.i2z; exact D.l2z) e))
  refine wpAny_bind (F2.item q2 hy fun g4 r2 b4 => wpAny_pure ?_)
  have O4 : IsPair g4 TO x b := b4.extBut _ _ D.TOi2 O3
  refine wpAny_bind (wpAny_seqItems O4 rfl (wpAny_bind (wpAny_updateSeq_pair O4 fun g5 O5 b5 => ?_)))
  replace O5 : IsPair g5 TO x y := O5
  refine wpAny_bind (wpAny_letGo (wpAny_pure (wpAny_pure (wpAny_bind (wpAny_seqItems O5 rfl (wpAny_bind (wpAny_newTuple ?_)))))))
  have sz : g5.objs.size = s.heap.objs.size := by rw [b5.1, b4.1, b3.1, b2.1, b1.1]
  have z5 : IsZip g5 z TI TO .ellipsis := b5.extBut _ _ D.TOz.symm (b4.extBut _ _ D.i2z.symm (b3.extBut _ _ D.TOz.symm (b2.extBut _ _ D.i1z.symm z1)))
  have all5 : ∀ c o, c ≠ z → c ≠ TO → c ≠ i1 → c ≠ i2 → s.heap.get? c = some o → g5.get? c = some o := fun c o n1 n2 n3 n4 e =>
    b5.extBut _ _ n2 (b4.extBut _ _ n4 (b3.extBut _ _ n2 (b2.extBut _ _ n3 (b1.extBut _ _ n1 e))))
  have s1 : P1 (k1 + 1) g5 := F1.keep _ _ _ r1 fun c o hc e => b5.extBut _ _ (by rcases hc with rfl | rfl; exact D.TOi1.symm; exact D.l1TO) (b4.extBut _ _ (by rcases hc with rfl | rfl; exact D.i12; exact D.l1i2) (b3.extBut _ _ (by rcases hc with rfl | rfl; exact D.TOi1.symm; exact D.l1TO) e))
  have s2 : P2 (k2 + 1) g5 := F2.keep _ _ _ r2 fun c o hc e => b5.extBut _ _ (by rcases hc with rfl | rfl; exact D.TOi2.symm; exact D.l2TO) e
  have ltz : z < g5.objs.size := Heap.lt_size z5
  show wpAny _ _ (Builtin.SmallTypes.ownedTupleHandOut (.ref z) (.ref g5.objs.size) >>= _) _ _ _
  refine wpAny_bind ?_
  unfold Builtin.SmallTypes.ownedTupleHandOut
  have z6 : IsZip (g5.push { cls := .type "tuple", data := .seq #[x, y] }) z TI TO .ellipsis := Heap.get?_push_of_some _ z5
  refine wpAny_bind (wpAny_setField_rec z6 (by simp) fun g7 z7 b7 => ?_)
  replace z7 : IsZip g7 z TI TO (rawInt g5.objs.size) := z7
  refine wpAny_setField_rec z7 (by simp) fun g8 z8 b8 => ?_
  replace z8 : IsZip g8 z TI TO (rawInt g5.objs.size) := z8
  have up : ∀ c o, c ≠ z → g5.get? c = some o → g8.get? c = some o := fun c o n e => b8.extBut _ _ n (b7.extBut _ _ n (Heap.get?_push_of_some _ e))
  have T8 : IsPair g8 g5.objs.size x y := b8.extBut _ _ (Nat.ne_of_gt ltz) (b7.extBut _ _ (Nat.ne_of_gt ltz) (Heap.get?_push_size _ rfl))
  rw [sz] at z8 T8
  refine wpAny_pure ⟨_, rfl, wpAny_pure ?_⟩
  show Q (some (.ref g5.objs.size)) _
  rw [sz]
  exact hQ g8 z8 (up _ _ D.TOz O5) (F1.keep _ _ _ s1 fun c o hc e => up c o (by rcases hc with rfl | rfl; exact D.i1z; exact D.l1z) e) (F2.keep _ _ _ s2 fun c o hc e => up c o (by rcases hc with rfl | rfl; exact D.i2z; exact D.l2z) e) T8
    fun c o n1 n2 n3 n4 e => up c o n1 (all5 c o n1 n2 n3 n4 e)
theorem zipF_end {Q : Option Value → Shared → Prop} (hh : A.handled = none) (F1 : Feed i1 l1 P1 f1) (F2 : Feed i2 l2 P2 f2) (D : ZipApart z TI TO i1 i2 l1 l2) (hz : IsZip s.heap z TI TO .none) (hI : IsPair s.heap TI (.ref i1) (.ref i2)) (hO : IsPair s.heap TO a b)
    (p1 : P1 k1 s.heap) (p2 : P2 k2 s.heap) (ends : f1 k1 = none ∨ f2 k2 = none)
    (hQ : ∀ g, (∀ c o, c ≠ z → c ≠ TO → c ≠ i1 → c ≠ i2 → s.heap.get? c = some o → g.get? c = some o) → Q none { s with heap := g }) : wpAny (model prog w) A (pyNext (.ref z)) Q E s := by
  have ty : s.TypeIs (.ref z) "zip" := ⟨_, hz, rfl⟩
  have last : ∀ (g : Heap) (e : Addr), (∀ c o, c ≠ z → c ≠ TO → c ≠ i1 → c ≠ i2 → s.heap.get? c = some o → g.get? c = some o) → (∃ o, g.get? e = some o ∧ o.cls = .type "StopIteration") →
      wpAny (model prog w) A (do let b ← isInstance (.ref e) (.type "StopIteration"); if b = true then pure none else throw (.ref e)) Q E { s with heap := g } := fun g e k1 k2 => by
    obtain ⟨o, ho, hc⟩ := k2
    refine wpAny_bind (wpAny_isInstance (T := "StopIteration") (b := true) ⟨o, ho, hc⟩ isSubtype_stop ?_)
    exact wpAny_pure (hQ g k1)
  unfold pyNext
  refine wpAny_bind (wpAny_attempt (wpAny_callSpecial?_slot (name := Str.ofString "__next__") ty PySem.F.slot_zip_next (wpAny_call_entry PySem.F.slot_zip_next ty PySem.F.entry_zip_next ?_ (PySem.F.args_zip_next_1 _))))
  show wpAny _ _ (field (.ref z) 2 >>= _) _ _ _
  refine wpAny_bind (wpAny_field hz rfl (x := .bool false) rfl ?_)
  show wpAny _ _ (field (.ref z) 3 >>= _) _ _ _
  refine wpAny_bind (wpAny_field hz rfl (x := .ref TI) rfl (wpAny_bind (wpAny_seqItems hI rfl ?_)))
  show wpAny _ _ (Builtin.SmallTypes.ownedTupleIsFree (.ref z) >>= _) _ _ _
  refine wpAny_bind ?_
  unfold Builtin.SmallTypes.ownedTupleIsFree
  refine wpAny_bind (wpAny_field hz rfl (x := .none) rfl (wpAny_pure ?_))
  simp only [if_true]
  refine wpAny_bind (wpAny_rule (wpAny_bind (wpAny_field hz rfl (x := .ref TO) rfl ?_)))
  refine wpAny_bind (wpAny_setField_rec hz (by simp) fun g1 z1 b1 => ?_)
  replace z1 : IsZip g1 z TI TO .ellipsis := z1
  refine wpAny_bind ?_
  simp only [List.zipIdx_cons, List.zipIdx_nil, List.forIn_cons, List.forIn_nil]
  refine wpAny_bind (wpAny_bind (wpAny_onRaise ?_))
  show wpAny _ _ (Builtin.SmallTypes.nextOf (.ref i1) >>= _) _ _ _
  have q1 : P1 k1 g1 := F1.keep _ _ _ p1 fun c o hc e => b1.extBut _ _ (by rcases hc with rfl | rfl; exact D.i1z; exact D.l1z) e
  cases hx : f1 k1 with
  | none =>
    refine wpAny_bind (F1.stop hh q1 hx fun g2 e b2 he => ?_)
    obtain ⟨oe, hoe, hce⟩ := he
    have z2 : IsZip g2 z TI TO .ellipsis := b2 _ _ D.i1z.symm z1
    have ez : e ≠ z := fun q => by subst q; rw [z2] at hoe; cases hoe; simp at hce
    exact wpAny_setField_rec z2 (by simp) fun g3 _ b3 => last g3 e (fun c o n1 _ n3 _ q => b3.extBut _ _ n1 (b2 _ _ n3 (b1.extBut _ _ n1 q))) ⟨oe, b3.extBut _ _ ez hoe, hce⟩
  | some x =>
    have hy : f2 k2 = none := by
      rcases ends with q | q
      · rw [hx] at q; cases q
      · exact q
    refine wpAny_bind (F1.item q1 hx fun g2 r1 b2 => wpAny_pure ?_)
    have O2 : IsPair g2 TO a b := b2.extBut _ _ D.TOi1 (b1.extBut _ _ D.TOz hO)
    refine wpAny_bind (wpAny_seqItems O2 rfl (wpAny_bind (wpAny_updateSeq_pair O2 fun g3 O3 b3 => ?_)))
    refine wpAny_bind (wpAny_letGo (wpAny_pure (wpAny_bind (wpAny_bind (wpAny_onRaise ?_)))))
    show wpAny _ _ (Builtin.SmallTypes.nextOf (.ref i2) >>= _) _ _ _
    have q2 : P2 k2 g3 := F2.keep _ _ _ p2 fun c o hc e => b3.extBut _ _ (by rcases hc with rfl | rfl; exact D.TOi2.symm; exact D.l2TO) (b2.extBut _ _ (by rcases hc with rfl | rfl; exact D.i12.symm; exact D.l2i1) (b1.extBut _ _ (by rcases hc with rfl | rfl; exact D.i2z; exact D.l2z) e))
    refine wpAny_bind (F2.stop hh q2 hy fun g4 e b4 he => ?_)
    obtain ⟨oe, hoe, hce⟩ := he
    have z4 : IsZip g4 z TI TO .ellipsis := b4 _ _ D.i2z.symm (b3.extBut _ _ D.TOz.symm (b2.extBut _ _ D.i1z.symm z1))
    have ez : e ≠ z := fun q => by subst q; rw [z4] at hoe; cases hoe; simp at hce
    exact wpAny_setField_rec z4 (by simp) fun g5 _ b5 => last g5 e (fun c o n1 n2 n3 n4 q => b5.extBut _ _ n1 (b4 _ _ n4 (b3.extBut _ _ n2 (b2.extBut _ _ n3 (b1.extBut _ _ n1 q))))) ⟨oe, b5.extBut _ _ ez hoe, hce⟩
end
end L2
namespace L2
open PySem PySem.Spec PyProof.Rows
theorem comp_list {K : PySem.W.Frag} {a D : Addr} {xs : List V} {g : TG} {tt : TT} {te : TE} {Q : VK} {H : Hp} {σ0 : L2.St} (Pv : Nat → L2.St → List V → Hp → Prop) (p0 : Pv 0 σ0 [] H)
    (hl : ∀ i σ ys H', i ≤ xs.length → Pv i σ ys H' → SqL K H' a xs ∧ H' D = some (.lst ys) ∧ ys.length < sizeLine)
    (hs : ∀ i x σ ys H', xs[i]? = some x → Pv i σ ys H' → ∀ N : L2.St → List V → Hp → Prop, (∀ σ ys H, Pv (i + 1) σ ys H → N σ ys H) →
      g x σ H' fun σ4 H4 => tt σ4 H4 fun b H5 => if b = true then te σ4 H5 fun v H6 => H6 D = some (.lst ys) ∧ N σ4 (ys ++ [v]) (upd H6 D (.lst (ys ++ [v]))) else N σ4 ys H5)
    (hd : ∀ σ ys H', Pv xs.length σ ys H' → Q (.ref D) H') : CompW (Itl K a) g tt te σ0 Q D H := by
  refine ⟨fun i m σ ys H => m = xs.length - i ∧ i ≤ xs.length ∧ Pv i σ ys H, ⟨xs.length, by simp, Nat.zero_le _, p0⟩, ?_⟩
  rintro i m σ ys H2 ⟨rfl, hi, p⟩
  obtain ⟨q1, q2, q3⟩ := hl i σ ys H2 hi p
  refine ⟨q2, q3, ?_⟩
  by_cases hlt : i < xs.length
  · refine .inr ⟨⟨xs, xs[i], q1, by simp [hlt]⟩, fun x H3 y => ?_⟩
    obtain ⟨e, y⟩ := y
    subst e
    exact hs i x σ ys _ (y xs q1) p (fun σ ys H => ∃ m', m' < xs.length - i ∧ m' = xs.length - (i + 1) ∧ i + 1 ≤ xs.length ∧ Pv (i + 1) σ ys H) fun σ ys H z => ⟨_, by omega, rfl, hlt, z⟩
  · have e : i = xs.length := by omega
    subst e
    exact .inl ⟨⟨xs, q1, Nat.le_refl _⟩, hd σ ys H2 p⟩
theorem caps1 {X : Cx} {scope : Scope} {Nc : List Str} {x : Str} {c : Addr} (i j : Nat) (ns : List (Str × NameKind)) (hrel : (relabel scope X.env).names = ns) (hclos : closureFor scope X.env = pure [(x, c)]) (hk : scope.kind = .function)
    (hnc : ∀ y ∈ scope.names, y.2 ≠ .cell) (hnm : ∀ y ∈ scope.names, y.2 = .local → scope.names.lookup y.1 = some .local) (hcell : X.env.cells.lookup x = some c)
    (honly : ∀ y ∈ ns, y.2 = .cell ∨ y.2 = .free → y.1 = x) (hin : ns.lookup x = some .cell) (hkind : X.env.kindOf x = some .cell) (hNc : Nc[i]? = some x) (hj : X.N[j]? = some x) :
    Caps X scope [(x, c)] Nc (fun σ => (List.replicate Nc.length none).set i (σ.getD j none)) where
  clos := hclos
  kind := hk
  nocell := hnc
  names := hnm
  cells := fun y d e => by
    rw [List.lookup_cons] at e
    split at e
    · rename_i q
      have q' : y = x := by simpa using q
      cases e
      rw [q']
      exact hcell
    · cases e
  has := fun y h => by
    rw [hrel] at h
    have e : y = x := by
      rcases h with h | h
      · exact honly _ (PySem.mem_of_lookup h) (.inl rfl)
      · exact honly _ (PySem.mem_of_lookup h) (.inr rfl)
    subst e
    exact ⟨c, by simp [List.lookup_cons]⟩
  len := fun σ => by simp
  cap := fun σ k y v e1 e2 _ => by
    have hki : k = i := by
      by_cases q : k = i
      · exact q
      · rw [List.getElem?_set_ne (Ne.symm q), List.getElem?_replicate] at e2
        split at e2 <;> cases e2
    subst hki
    rw [hNc] at e1
    cases e1
    have hlt : k < Nc.length := (List.getElem?_eq_some_iff.mp hNc).1
    rw [List.getElem?_set_self (by simpa using hlt)] at e2
    refine ⟨.inl (by rw [hrel]; exact hin), .inl hkind, j, hj, ?_, .inr (.inl hkind)⟩
    have e3 : σ.getD j none = some v := Option.some.inj e2
    rw [List.getD_eq_getElem?_getD] at e3
    cases q : σ[j]? with
    | none => rw [q] at e3; cases e3
    | some o =>
      rw [q] at e3
      have e4 : o = some v := e3
      rw [e4]
def LsM (K : PySem.W.Frag) (H : Hp) (a : Addr) (ds : List Dt) : Prop := ∃ vs, H a = some (.lst vs) ∧ DatsAt K H vs ds
theorem LsM.same {K : PySem.W.Frag} {H H' : Hp} {a : Addr} {ds : List Dt} (h : LsM K H a ds) (e : Same H H') : LsM K H' a ds := by
  obtain ⟨vs, h1, h2⟩ := h
  exact ⟨vs, e _ _ h1, h2.same e⟩
section
variable {K : PySem.W.Frag} {H : Hp} {a : Addr} {xs ys : List V}
theorem sqT_upd {r : Addr} {vs : List V} (ha : H a = some (.lst xs)) (h : SqT K H r vs) : SqT K (upd H a (.lst ys)) r vs := by
  rcases h with (h | ⟨o, h⟩) | h
  · exact .inl (.inl (by rw [upd_ne (ne_of h ha (by intro z; cases z))]; exact h))
  · exact .inl (.inr ⟨o, by rw [upd_ne (ne_of h ha (by intro z; cases z))]; exact h⟩)
  · exact .inr h
mutual
theorem DatAt.updL (ha : H a = some (.lst xs)) : ∀ {v : V} {d : Dt}, DatAt K H v d → DatAt K (upd H a (.lst ys)) v d
  | v, .non, h => by simpa [DatAt] using h
  | v, .int i, h => by simpa [DatAt] using h
  | v, .str i, h => by simpa [DatAt] using h
  | v, .tup ds, h => by
    obtain ⟨r, vs, rfl, h1, h2⟩ := h.un
    exact .tup (sqT_upd ha h1) (DatsAt.updL ha h2)
theorem DatsAt.updL (ha : H a = some (.lst xs)) : ∀ {vs : List V} {ds : List Dt}, DatsAt K H vs ds → DatsAt K (upd H a (.lst ys)) vs ds
  | vs, [], h => by
    rw [h.un0]
    exact .nil
  | vs, d :: ds, h => by
    obtain ⟨v, r, rfl, h1, h2⟩ := h.un
    exact .cons (DatAt.updL ha h1) (DatsAt.updL ha h2)
end
theorem LsM.updL {b : Addr} {ds : List Dt} (ha : H a = some (.lst xs)) (hb : b ≠ a) (h : LsM K H b ds) : LsM K (upd H a (.lst ys)) b ds := by
  obtain ⟨vs, h1, h2⟩ := h
  exact ⟨vs, by rw [upd_ne hb]; exact h1, h2.updL ha⟩
end
end L2
namespace L2
open PySem PySem.Spec PyProof.Rows FW
def frD (p : Int × Int) : Dt := .tup [.int p.1, .int p.2]
def prD (p : Dt × Dt) : Dt := .tup [p.1, p.2]
def rowD (r : Dt × Int) : Dt := .tup [r.1, .int r.2]
def parD (S : Int) (r : Dt × Int) : Dt := prD (r.1, frD (low r.2 S))
inductive Oc : Dt → Prop
  | non : Oc .non
  | int (n : Int) : Oc (.int n)
  | recd (fs : List (Str × Int)) : Oc (.tup (fs.map pairD))
def tyD : Dt → String
  | .non => "NoneType"
  | .int _ => "int"
  | .str _ => "str"
  | .tup _ => "tuple"
theorem hgt_pairs : ∀ fs : List (Str × Int), Dt.hgts (fs.map pairD) ≤ 1
  | [] => by simp [Dt.hgts]
  | f :: fs => by
    have := hgt_pairs fs
    simp only [List.map_cons, Dt.hgts, pairD, Dt.hgt]
    omega
theorem Oc.hgt {d : Dt} (h : Oc d) : d.hgt ≤ 2 := by
  cases h with
  | non => simp [Dt.hgt]
  | int n => simp [Dt.hgt]
  | recd fs =>
    have := hgt_pairs fs
    simp only [Dt.hgt]
    omega
theorem hgt_frD (p : Int × Int) : (frD p).hgt ≤ 1 := by simp [frD, Dt.hgt, Dt.hgts]
theorem hgt_prD (p : Dt × Dt) : (prD p).hgt ≤ max p.1.hgt p.2.hgt + 1 := by
  simp [prD, Dt.hgt, Dt.hgts]
theorem frD_inj {p q : Int × Int} (h : frD p = frD q) : p = q := by
  have h' : ([.int p.1, .int p.2] : List Dt) = [.int q.1, .int q.2] := Dt.tup.inj h
  simp at h'
  exact Prod.ext h'.1 h'.2
section
variable {K : PySem.W.Frag} {H : Hp}
theorem DatsAt.two {vs : List V} {d e : Dt} (h : DatsAt K H vs [d, e]) : ∃ v u, vs = [v, u] ∧ DatAt K H v d ∧ DatAt K H u e := by
  obtain ⟨v, r, rfl, h1, h2⟩ := h.un
  obtain ⟨u, r2, rfl, h3, h4⟩ := h2.un
  have := h4.un0
  subst this
  exact ⟨v, u, rfl, h1, h3⟩
theorem DatAt.int_eq {v : V} {n : Int} (h : DatAt K H v (.int n)) : v = .int n := by simpa [DatAt] using h
theorem DatAt.str_eq {v : V} {n : Str} (h : DatAt K H v (.str n)) : v = .str n := by simpa [DatAt] using h
theorem DatAt.non_eq {v : V} (h : DatAt K H v .non) : v = .non := by simpa [DatAt] using h
theorem DatAt.fr {v : V} {p : Int × Int} (h : DatAt K H v (frD p)) : ∃ r, v = .ref r ∧ SqT K H r [.int p.1, .int p.2] := by
  obtain ⟨r, vs, rfl, h1, h2⟩ := DatAt.un (ds := [.int p.1, .int p.2]) h
  obtain ⟨a, b, rfl, h3, h4⟩ := h2.two
  rw [h3.int_eq, h4.int_eq] at h1
  exact ⟨r, rfl, h1⟩
theorem datAt_fr {r : Addr} {p : Int × Int} (h : SqT K H r [.int p.1, .int p.2]) : DatAt K H (.ref r) (frD p) := .tup h (.cons (.int _) (.cons (.int _) .nil))
theorem DatAt.pr {v : V} {p : Dt × Dt} (h : DatAt K H v (prD p)) : ∃ r a b, v = .ref r ∧ SqT K H r [a, b] ∧ DatAt K H a p.1 ∧ DatAt K H b p.2 := by
  obtain ⟨r, vs, rfl, h1, h2⟩ := DatAt.un (ds := [p.1, p.2]) h
  obtain ⟨a, b, rfl, h3, h4⟩ := h2.two
  exact ⟨r, a, b, rfl, h1, h3, h4⟩
theorem datAt_pr {r : Addr} {a b : V} {p : Dt × Dt} (h : SqT K H r [a, b]) (h1 : DatAt K H a p.1) (h2 : DatAt K H b p.2) : DatAt K H (.ref r) (prD p) := .tup h (.cons h1 (.cons h2 .nil))
end
theorem call_isiD {X : Cx} : CallR X (.builtin "isinstance") (fun xs H Q => ∃ v d n b, xs = [v, .ty n] ∧ DatAt X.K H v d ∧ PySem.W.kitOne X.K (.type (tyD d)) (.type n) = some b ∧ Q (.bl b) H) := by
  intro pins s σ H xs us Q I r h
  obtain ⟨v, d, n, b, rfl, hv, e, q⟩ := h
  cases d with
  | non =>
    have := hv.non_eq
    subst this
    exact call_isi pins s σ H _ us Q I r ⟨_, _, _, _, rfl, .non, e, q⟩
  | int i =>
    have := hv.int_eq
    subst this
    exact call_isi pins s σ H _ us Q I r ⟨_, _, _, _, rfl, .int i, e, q⟩
  | str i =>
    have := hv.str_eq
    subst this
    exact call_isi pins s σ H _ us Q I r ⟨_, _, _, _, rfl, .str i, e, q⟩
  | tup ds =>
    obtain ⟨r', vs, rfl, h1, h2⟩ := hv.un
    exact call_isiT pins s σ H _ us Q I r ⟨r', vs, n, b, rfl, h1, e, q⟩
def sumW (rows : List (Dt × Int)) : Int := (rows.map (·.2)).sum
theorem sumW_nil : sumW [] = 0 := rfl
theorem sumW_cons (r : Dt × Int) (rows : List (Dt × Int)) : sumW (r :: rows) = r.2 + sumW rows := rfl
theorem sumW_append (a b : List (Dt × Int)) : sumW (a ++ b) = sumW a + sumW b := by
  unfold sumW
  rw [List.map_append, List.sum_append]
theorem sumW_nn : ∀ {rows : List (Dt × Int)}, (∀ r ∈ rows, 0 ≤ r.2) → 0 ≤ sumW rows
  | [], _ => Int.le_refl 0
  | r :: rows, h => by
    have h1 := h r (List.mem_cons_self ..)
    have h2 := sumW_nn fun q hq => h q (List.mem_cons_of_mem _ hq)
    rw [sumW_cons]
    omega
theorem sumW_take {rows : List (Dt × Int)} (h : ∀ r ∈ rows, 0 ≤ r.2) (i : Nat) : 0 ≤ sumW (rows.take i) ∧ sumW (rows.take i) ≤ sumW rows := by
  have e : sumW rows = sumW (rows.take i) + sumW (rows.drop i) := by
    rw [← sumW_append, List.take_append_drop]
  have h1 := sumW_nn (rows := rows.take i) fun r hr => h r (List.mem_of_mem_take hr)
  have h2 := sumW_nn (rows := rows.drop i) fun r hr => h r (List.mem_of_mem_drop hr)
  omega
theorem sumW_mem : ∀ {rows : List (Dt × Int)}, (∀ r ∈ rows, 0 ≤ r.2) → ∀ r ∈ rows, r.2 ≤ sumW rows
  | q :: rows, h, r, hr => by
    have h1 := h q (List.mem_cons_self ..)
    have h2 := sumW_nn fun q hq => h q (List.mem_cons_of_mem _ hq)
    rw [sumW_cons]
    rcases List.mem_cons.mp hr with z | z
    · rw [z]; omega
    · have := sumW_mem (fun q hq => h q (List.mem_cons_of_mem _ hq)) r z
      omega
structure Sc (S : Int) (rows : List (Dt × Int)) : Prop where
  pos : 0 < S
  big : S ≤ 10 ^ 160
  nn : ∀ r ∈ rows, 0 ≤ r.2
  top : sumW rows ≤ 10 ^ 160
theorem sm60 {x : Int} (h0 : 0 ≤ x) (h : x ≤ 10 ^ 160) : Sm x := by
  have e : x.natAbs ≤ 10 ^ 160 := by omega
  exact Nat.lt_of_le_of_lt e (by decide)
theorem isQ_low {W S : Int} (h : 0 < S) : IsQ (low W S) W S := ⟨low_Low h, low_eq⟩
theorem plus_low {W w S : Int} (h : 0 < S) : plusM (low W S).1 (low W S).2 (low w S).1 (low w S).2 = low (W + w) S := ((isQ_low h).plus (isQ_low h)).low h
theorem low_zero {S : Int} (h : 0 < S) : low 0 S = (0, 1) := ((IsQ.zero (S := S)).low h).symm
theorem low_is_zero {W S : Int} (h : 0 < S) (e : low W S = (0, 1)) : W = 0 := by
  have q := low_eq (t := W) (b := S)
  rw [e] at q
  simpa using q.symm
theorem low_sm {W S : Int} (h0 : 0 ≤ W) (h : W ≤ 10 ^ 160) (p : 0 < S) (q : S ≤ 10 ^ 160) : Sm (low W S).1 ∧ Sm (low W S).2 :=
  ⟨(sm60 h0 h).le (low_abs W S).1, (sm60 (by omega) q).le (low_abs W S).2⟩
theorem low_nn {W S : Int} (h0 : 0 ≤ W) (p : 0 < S) : 0 ≤ (low W S).1 := by
  have l := low_Low (t := W) p
  have e := low_eq (t := W) (b := S)
  rcases Int.lt_or_le (low W S).1 0 with q | q
  · have h1 : (low W S).1 * S < 0 := Int.mul_neg_of_neg_of_pos q p
    have h2 : 0 ≤ W * (low W S).2 := Int.mul_nonneg h0 (Int.le_of_lt l.pos)
    omega
  · exact q
structure Rw (rows : List (Dt × Int)) : Prop where
  oc : ∀ r ∈ rows, Oc r.1
  pos : ∀ r ∈ rows, 0 < r.2
theorem take_snoc' {α : Type} {xs : List α} {i : Nat} {x : α} (h : xs[i]? = some x) : xs.take (i + 1) = xs.take i ++ [x] := by
  rw [List.take_add_one, h]
  rfl
theorem map_get {α β : Type} {f : α → β} {xs : List α} {i : Nat} {y : β} (h : (xs.map f)[i]? = some y) : ∃ x, xs[i]? = some x ∧ f x = y := by
  rw [List.getElem?_map] at h
  cases e : xs[i]? with
  | none => rw [e] at h; cases h
  | some x => rw [e] at h; exact ⟨x, rfl, Option.some.inj h⟩
end L2
namespace L2
open PySem PySem.Spec PyProof.Rows
section
variable {X : Cx} {K : PySem.W.Frag}
theorem op_neDK (hK : X.K = K) (hu : X.A.units + 64 < cLine) : OpR X (compareOp .NotEq) (rNeD K) := by
  subst hK
  exact op_neD hu
theorem ix_tupK (hK : X.K = K) : IxR X (rIxT K) := by
  subst hK
  exact ix_tup
theorem pg_tupK {es : List Expr} {kk n : Nat} {t : TGs} {pos : Pos} (hK : X.K = K) (hc : X.calm = true) (h : PGs X es t) (hn : (assignEach es X.env).length = n := by rfl) (hst : (assignEach es X.env).findIdx? (·.1) = none := by rfl) :
    PG X (.Tuple es kk pos) (gTup K n t) := by
  subst hK
  exact pg_tup hc h hn hst
end
end L2
namespace L2
open PySem PySem.Spec PyProof.Rows
section
variable {X : Cx}
def ipMul : TIp := fun x y H Q => ∃ i j, x = .int i ∧ y = .int j ∧ IntMulOk i j ∧ Q (.int (i * j)) H
theorem call_list_ofK {K : PySem.W.Frag} (hK : X.K = K) : CallR X (.type "list") (fun xs H Q => ∃ p ys, xs = [.ref p] ∧ (SqL K H p ys ∨ SqT K H p ys) ∧ ∀ l, H l = none → Q (.ref l) (upd H l (.lst ys))) := by
  subst hK
  exact call_list_of
def gLst (K : PySem.W.Frag) (n : Nat) (t : TGs) : TG := fun v σ H Q => ∃ a xs, v = .ref a ∧ SqL K H a xs ∧ xs.length = n ∧ t xs σ H Q
end
theorem comp_tup {K : PySem.W.Frag} {a D : Addr} {xs : List V} {g : TG} {tt : TT} {te : TE} {Q : VK} {H : Hp} {σ0 : L2.St} (Pv : Nat → L2.St → List V → Hp → Prop) (p0 : Pv 0 σ0 [] H)
    (hl : ∀ i σ ys H', i ≤ xs.length → Pv i σ ys H' → SqT K H' a xs ∧ H' D = some (.lst ys) ∧ ys.length < sizeLine)
    (hs : ∀ i x σ ys H', xs[i]? = some x → Pv i σ ys H' → ∀ N : L2.St → List V → Hp → Prop, (∀ σ ys H, Pv (i + 1) σ ys H → N σ ys H) →
      g x σ H' fun σ4 H4 => tt σ4 H4 fun b H5 => if b = true then te σ4 H5 fun v H6 => H6 D = some (.lst ys) ∧ N σ4 (ys ++ [v]) (upd H6 D (.lst (ys ++ [v]))) else N σ4 ys H5)
    (hd : ∀ σ ys H', Pv xs.length σ ys H' → Q (.ref D) H') : CompW (Itt K a) g tt te σ0 Q D H := by
  refine ⟨fun i m σ ys H => m = xs.length - i ∧ i ≤ xs.length ∧ Pv i σ ys H, ⟨xs.length, by simp, Nat.zero_le _, p0⟩, ?_⟩
  rintro i m σ ys H2 ⟨rfl, hi, p⟩
  obtain ⟨q1, q2, q3⟩ := hl i σ ys H2 hi p
  refine ⟨q2, q3, ?_⟩
  by_cases hlt : i < xs.length
  · refine .inr ⟨⟨xs, xs[i], q1, by simp [hlt]⟩, fun x H3 y => ?_⟩
    obtain ⟨e, y⟩ := y
    subst e
    exact hs i x σ ys _ (y xs q1) p (fun σ ys H => ∃ m', m' < xs.length - i ∧ m' = xs.length - (i + 1) ∧ i + 1 ≤ xs.length ∧ Pv (i + 1) σ ys H) fun σ ys H z => ⟨_, by omega, rfl, hlt, z⟩
  · have e : i = xs.length := by omega
    subst e
    exact .inl ⟨⟨xs, q1, Nat.le_refl _⟩, hd σ ys H2 p⟩
theorem comp_range {lo : Int} {n : Nat} {D : Addr} {g : TG} {tt : TT} {te : TE} {Q : VK} {H : Hp} {σ0 : L2.St} (Pv : Nat → L2.St → List V → Hp → Prop) (p0 : Pv 0 σ0 [] H)
    (hl : ∀ i σ ys H', i ≤ n → Pv i σ ys H' → H' D = some (.lst ys) ∧ ys.length < sizeLine)
    (hs : ∀ i σ ys H', i < n → Pv i σ ys H' → ∀ N : L2.St → List V → Hp → Prop, (∀ σ ys H, Pv (i + 1) σ ys H → N σ ys H) →
      g (.int (lo + i)) σ H' fun σ4 H4 => tt σ4 H4 fun b H5 => if b = true then te σ4 H5 fun v H6 => H6 D = some (.lst ys) ∧ N σ4 (ys ++ [v]) (upd H6 D (.lst (ys ++ [v]))) else N σ4 ys H5)
    (hd : ∀ σ ys H', Pv n σ ys H' → Q (.ref D) H') : CompW (Itr lo n) g tt te σ0 Q D H := by
  refine ⟨fun i m σ ys H => m = n - i ∧ i ≤ n ∧ Pv i σ ys H, ⟨n, by simp, Nat.zero_le _, p0⟩, ?_⟩
  rintro i m σ ys H2 ⟨rfl, hi, p⟩
  obtain ⟨q2, q3⟩ := hl i σ ys H2 hi p
  refine ⟨q2, q3, ?_⟩
  by_cases hlt : i < n
  · refine .inr ⟨hlt, fun x H3 y => ?_⟩
    obtain ⟨e, y⟩ := y
    subst e y
    exact hs i σ ys _ hlt p (fun σ ys H => ∃ m', m' < n - i ∧ m' = n - (i + 1) ∧ i + 1 ≤ n ∧ Pv (i + 1) σ ys H) fun σ ys H z => ⟨_, by omega, rfl, hlt, z⟩
  · have e : i = n := by omega
    subst e
    exact .inl ⟨Nat.le_refl _, hd σ ys H2 p⟩
def BtA (a : Addr) (H H' : Hp) : Prop := ∀ b o, b ≠ a → H b = some o → H' b = some o
def NT (H : Hp) (a : Addr) : Prop := ∀ o, H a = some o → (∀ vs, o ≠ .tup vs) ∧ ∀ q vs, o ≠ .frz q (.tup vs)
section
variable {K : PySem.W.Frag} {H H' H2 : Hp} {a b : Addr} {xs : List V}
theorem NT.lst (h : H a = some (.lst xs)) : NT H a := fun o e => by
  rw [h] at e
  cases e
  exact ⟨(fun _ z => nomatch z), (fun _ _ z => nomatch z)⟩
theorem BtA.upd {o : HO} : BtA a H (L2.upd H a o) := fun b _ n h => by rw [upd_ne n]; exact h
theorem sqT_but {r : Addr} {vs : List V} (nt : NT H a) (e : BtA a H H') (h : SqT K H r vs) : SqT K H' r vs := by
  rcases h with (h | ⟨o, h⟩) | h
  · exact .inl (.inl (e _ _ (fun z => by subst z; exact (nt _ h).1 _ rfl) h))
  · exact .inl (.inr ⟨o, e _ _ (fun z => by subst z; exact (nt _ h).2 _ _ rfl) h⟩)
  · exact .inr h
mutual
theorem DatAt.but (nt : NT H a) (e : BtA a H H') : ∀ {v : V} {d : Dt}, DatAt K H v d → DatAt K H' v d
  | v, .non, h => by simpa [DatAt] using h
  | v, .int i, h => by simpa [DatAt] using h
  | v, .str i, h => by simpa [DatAt] using h
  | v, .tup ds, h => by
    obtain ⟨r, vs, rfl, h1, h2⟩ := h.un
    exact .tup (sqT_but nt e h1) (DatsAt.but nt e h2)
theorem DatsAt.but (nt : NT H a) (e : BtA a H H') : ∀ {vs : List V} {ds : List Dt}, DatsAt K H vs ds → DatsAt K H' vs ds
  | vs, [], h => by
    rw [h.un0]
    exact .nil
  | vs, d :: ds, h => by
    obtain ⟨v, r, rfl, h1, h2⟩ := h.un
    exact .cons (DatAt.but nt e h1) (DatsAt.but nt e h2)
end
theorem LsM.but {ds : List Dt} (h : LsM K H b ds) (nt : NT H a) (e : BtA a H H') (n : b ≠ a) : LsM K H' b ds := by
  obtain ⟨vs, h1, h2⟩ := h
  exact ⟨vs, e _ _ n h1, h2.but nt e⟩
structure LLM (K : PySem.W.Frag) (H : Hp) (a : Addr) (ps : List (Addr × List Dt)) : Prop where
  at_ : H a = some (.lst (ps.map fun p => V.ref p.1))
  it : ∀ p ∈ ps, LsM K H p.1 p.2
  ne : ∀ p ∈ ps, p.1 ≠ a
theorem LLM.same {ps : List (Addr × List Dt)} (h : LLM K H a ps) (e : Same H H') : LLM K H' a ps := ⟨e _ _ h.at_, fun p hp => (h.it p hp).same e, h.ne⟩
theorem LLM.but {ps : List (Addr × List Dt)} (h : LLM K H b ps) (nt : NT H a) (e : BtA a H H') (n : b ≠ a) (ni : ∀ p ∈ ps, p.1 ≠ a) : LLM K H' b ps :=
  ⟨e _ _ n h.at_, fun p hp => (h.it p hp).but nt e (ni p hp), h.ne⟩
theorem LLM.snoc {ps : List (Addr × List Dt)} {D : Addr} {ds : List Dt} (h : LLM K H a ps) (hD : LsM K H D ds) (ne : D ≠ a) : LLM K (L2.upd H a (.lst (ps.map (fun p => V.ref p.1) ++ [.ref D]))) a (ps ++ [(D, ds)]) := by
  refine ⟨?_, fun p hp => ?_, fun p hp => ?_⟩
  · rw [upd_same, List.map_append]
    rfl
  · rcases List.mem_append.mp hp with z | z
    · exact (h.it p z).but (.lst h.at_) .upd (h.ne p z)
    · cases List.mem_singleton.mp z
      exact hD.but (.lst h.at_) .upd ne
  · rcases List.mem_append.mp hp with z | z
    · exact h.ne p z
    · cases List.mem_singleton.mp z
      exact ne
end
section
variable {X : Cx} {pins : List (Addr × Obj)} {σ : St} {H : Hp} {s : Shared}
theorem eqAt_lists (I : Inv X pins σ H s) {A : Around} {p q : Addr} {ds : List Dt} (hu : A.units + 40 < cLine) (hp : LsM X.K H p ds) (hq : LsM X.K H q ds) (hh : Dt.hgts ds ≤ 30) : SeqAt.EqAt A s (.ref p) (.ref q) true := by
  by_cases hab : p = q
  · subst hab
    exact SeqAt.EqAt.same _
  · obtain ⟨vs, e1, h2⟩ := hp
    obtain ⟨ws, e2, k2⟩ := hq
    obtain ⟨its, r1, p1, _⟩ := I.list (SqL.of e1)
    obtain ⟨its2, r2, p2, _⟩ := I.list (SqL.of e2)
    have hsz : its.toArray.size = its2.toArray.size := by
      have l1 := r1.length
      have l2 := r2.length
      have m1 := h2.length
      have m2 := k2.length
      rw [List.size_toArray, List.size_toArray]
      omega
    have r := SeqAt.RcAt.lists (A := A) p1.isList p2.isList hsz (by omega) fun j j1 j2 => items_eq h2 k2 r1 r2 (fun d e x y u v hm q1 q2 q3 q4 =>
      eqAt_dat I 30 A.in1 d e x y u v (Nat.le_trans (Dt.hgt_mem hm) hh) (by show A.units + 1 + 30 < cLine; omega) q1 q2 q3 q4) j j1 j2
    rw [list_all h2 k2 r1 r2 hsz, Dt.beqs_self] at r
    exact SeqAt.EqAt.of_refs hab r
def rNeLL (K : PySem.W.Frag) : R2 := fun x y H Q => ∃ a b ps qs, x = .ref a ∧ y = .ref b ∧ LLM K H a ps ∧ LLM K H b qs ∧ ps.map (·.2) = qs.map (·.2) ∧ (∀ p ∈ ps, Dt.hgts p.2 ≤ 30) ∧ Q (.bl false) H
theorem op_neLL (hu : X.A.units + 64 < cLine) : OpR X (compareOp .NotEq) (rNeLL X.K) := by
  intro pins s σ H x y u v Q I ru rv h
  obtain ⟨a, b, ps, qs, rfl, rfl, ha, hb, he, hh, q⟩ := h
  cases (show u = Value.ref a from ru)
  cases (show v = Value.ref b from rv)
  obtain ⟨its, r1, p1, _⟩ := I.list (SqL.of ha.at_)
  obtain ⟨its2, r2, p2, _⟩ := I.list (SqL.of hb.at_)
  have l1 := r1.length
  have l2 := r2.length
  have le := congrArg List.length he
  rw [List.length_map] at l1 l2
  rw [List.length_map, List.length_map] at le
  have hsz : its.toArray.size = its2.toArray.size := by
    rw [List.size_toArray, List.size_toArray]
    omega
  have r := SeqAt.RcNeAt.lists (A := X.A) (e := fun _ => true) p1.isList p2.isList hsz (by omega) fun j j1 j2 => by
    rw [List.size_toArray] at j1 j2
    have g1 : ps[j]? = some ps[j] := List.getElem?_eq_getElem (by omega)
    have g2 : qs[j]? = some qs[j] := List.getElem?_eq_getElem (by omega)
    obtain ⟨u, eu, ru⟩ := r1.get (i := j) (x := .ref ps[j].1) (by rw [List.getElem?_map, g1]; rfl)
    obtain ⟨v, ev, rv⟩ := r2.get (i := j) (x := .ref qs[j].1) (by rw [List.getElem?_map, g2]; rfl)
    have f1 : its.toArray[j] = Value.ref ps[j].1 := by
      have := (List.getElem?_eq_some_iff.mp eu).2
      rw [← show u = Value.ref ps[j].1 from ru]
      simpa using this
    have f2 : its2.toArray[j] = Value.ref qs[j].1 := by
      have := (List.getElem?_eq_some_iff.mp ev).2
      rw [← show v = Value.ref qs[j].1 from rv]
      simpa using this
    rw [f1, f2]
    have ed : qs[j].2 = ps[j].2 := by
      have z := congrArg (fun l => l[j]?) he
      simp only [List.getElem?_map, g1, g2] at z
      exact (Option.some.inj z).symm
    exact eqAt_lists I (by show X.A.units + 1 + 40 < cLine; omega) (ha.it _ (List.getElem_mem _)) (by rw [← ed]; exact hb.it _ (List.getElem_mem _)) (hh _ (List.getElem_mem _))
  have ea : (List.range its.toArray.size).all (fun _ => true) = true := by simp
  rw [ea] at r
  exact r _ _ _ _ (fin_bl I q rfl)
end
end L2
namespace L2
open PySem PySem.Spec PySem.W PyProof.Rows
def runT {α : Type} (lt : Nat → Nat → Bool) : KasT α → α
  | .ret a => a
  | .ask i j k => runT lt (k (lt i j))
theorem runT_bind {α β : Type} {lt : Nat → Nat → Bool} {f : α → KasT β} : ∀ (t : KasT α), runT lt (t.bind f) = runT lt (f (runT lt t))
  | .ret _ => rfl
  | .ask i j k => runT_bind (k (lt i j))
theorem Tr.wpR {α : Type} {N : Nat} {P : α → Prop} {cmp : Nat → Nat → (Bool → Shared → Prop) → Shared → Prop} {s : Shared} {Q : α → Shared → Prop} (lt : Nat → Nat → Bool)
    (hc : ∀ i j (C : Bool → Shared → Prop), i < N → j < N → C (lt i j) s → cmp i j C s) : ∀ {t : KasT α}, Tr N P t → (P (runT lt t) → Q (runT lt t) s) → t.kasWp cmp Q s
  | .ret _, h, q => q h
  | .ask i j _, h, q => hc i j _ h.1 h.2.1 (Tr.wpR lt hc (h.2.2 _) q)
structure Lo (N : Nat) (lt : Nat → Nat → Bool) : Prop where
  tri : ∀ i j, i < N → j < N → i ≠ j → lt i j = false → lt j i = true
  tr : ∀ i j k, i < N → j < N → k < N → lt i j = true → lt j k = true → lt i k = true
  asym : ∀ i j, i < N → j < N → lt i j = true → lt j i = false
abbrev gp (p : Array Nat) (i : Nat) : Nat := p.getD i 0
def As (lt : Nat → Nat → Bool) (p : Array Nat) (k : Nat) : Prop := ∀ i j, i < j → j < k → lt (gp p i) (gp p j) = true
theorem gp_of {p q : Array Nat} {i j : Nat} (h : p[i]? = q[j]?) : gp p i = gp q j := by
  show p.getD i 0 = q.getD j 0
  rw [Array.getD_eq_getD_getElem?, Array.getD_eq_getD_getElem?, h]
section
variable {N : Nat} {lt : Nat → Nat → Bool} (L : Lo N lt)
theorem Pl.size {p : Array Nat} (h : Pl N p) : p.size = N := by simpa using h.size_eq
theorem Pl.ne {p : Array Nat} (h : Pl N p) {i j : Nat} (hi : i < N) (hj : j < N) (ne : i ≠ j) : gp p i ≠ gp p j := by
  have nd : p.toList.Nodup := by
    have := Array.perm_iff_toList_perm.mp h
    exact this.nodup_iff.mpr (by simpa using List.nodup_range)
  have hs := Pl.size h
  have e1 : gp p i = p.toList[i]'(by simp; omega) := by
    show p.getD i 0 = _
    simp [Array.getD, show i < p.size by omega]
  have e2 : gp p j = p.toList[j]'(by simp; omega) := by
    show p.getD j 0 = _
    simp [Array.getD, show j < p.size by omega]
  rw [e1, e2]
  intro z
  exact ne ((List.getElem_inj nd).mp z)
theorem gp_bub {p : Array Nat} {k l : Nat} (hk : k < p.size) (hl : l ≤ k) (i : Nat) : gp (bubble p k (k - l)) i = if i = l then gp p k else if l < i ∧ i ≤ k then gp p (i - 1) else gp p i := by
  have e := getElem?_bubble hk (k - l) (by omega) i
  have el : k - (k - l) = l := by omega
  rw [el] at e
  by_cases h1 : i = l
  · rw [if_pos h1] at e ⊢
    exact gp_of e
  · rw [if_neg h1] at e ⊢
    by_cases h2 : l < i ∧ i ≤ k
    · rw [if_pos h2] at e ⊢
      exact gp_of e
    · rw [if_neg h2] at e ⊢
      exact gp_of e
theorem gp_rev {p : Array Nat} {m : Nat} (hm : m ≤ p.size) (i : Nat) : gp (kas_rev p 0 m) i = if i < m then gp p (m - 1 - i) else gp p i := by
  have e := getElem?_mirror_all (xs := p) (i := 0) hm i
  by_cases h : i < m
  · rw [if_pos ⟨Nat.zero_le _, h⟩] at e
    rw [if_pos h]
    refine gp_of (e.trans ?_)
    congr 1
    omega
  · rw [if_neg (by omega)] at e
    rw [if_neg h]
    exact gp_of e
include L
theorem as_of_adj (hN : 0 < N) {p : Array Nat} (h : Pl N p) {m : Nat} (a : ∀ k, 0 < k → k < m → lt (gp p (k - 1)) (gp p k) = true) : As lt p m := by
  intro i j
  induction j with
  | zero => intro z _; omega
  | succ j ih =>
    intro hij hj
    have h1 := a (j + 1) (by omega) hj
    rw [Nat.add_sub_cancel] at h1
    by_cases e : i = j
    · rw [e]; exact h1
    · exact L.tr _ _ _ (h.below hN _) (h.below hN _) (h.below hN _) (ih (by omega) (by omega)) h1
theorem run_asc (hN : 0 < N) {p : Array Nat} (h : Pl N p) : ∀ f n, 0 < n → n + f ≤ N → (∀ k, 0 < k → k < n → lt (gp p (k - 1)) (gp p k) = true) →
    n ≤ runT lt (kas_asc p f n) ∧ runT lt (kas_asc p f n) ≤ n + f ∧ (∀ k, 0 < k → k < runT lt (kas_asc p f n) → lt (gp p (k - 1)) (gp p k) = true) ∧ (runT lt (kas_asc p f n) < n + f → lt (gp p (runT lt (kas_asc p f n))) (gp p (runT lt (kas_asc p f n) - 1)) = true)
  | 0, n, _, _, a => ⟨Nat.le_refl _, Nat.le_refl _, a, fun z => absurd z (Nat.lt_irrefl _)⟩
  | f + 1, n, h0, hn, a => by
    have e : runT lt (kas_asc p (f + 1) n) = runT lt (if lt (gp p n) (gp p (n - 1)) = true then KasT.ret n else kas_asc p f (n + 1)) := rfl
    rw [e]
    by_cases c : lt (gp p n) (gp p (n - 1)) = true
    · rw [if_pos c]
      exact ⟨Nat.le_refl _, Nat.le_add_right _ _, a, fun _ => c⟩
    · rw [if_neg c]
      have c' : lt (gp p n) (gp p (n - 1)) = false := by simpa using c
      have t := L.tri _ _ (h.below hN n) (h.below hN (n - 1)) (Pl.ne h (by omega) (by omega) (by omega)) c'
      have r := run_asc hN h f (n + 1) (by omega) (by omega) fun k k0 kn => by
        by_cases z : k = n
        · rw [z]; exact t
        · exact a k k0 (by omega)
      refine ⟨by omega, by omega, r.2.2.1, fun z => r.2.2.2 (by omega)⟩
theorem run_desc (hN : 0 < N) {p : Array Nat} (h : Pl N p) : ∀ f n, 0 < n → n + f ≤ N → (∀ k, 0 < k → k < n → lt (gp p k) (gp p (k - 1)) = true) →
    ∃ m, runT lt (kas_desc f p n 0) = (p, m, 0) ∧ n ≤ m ∧ m ≤ n + f ∧ ∀ k, 0 < k → k < m → lt (gp p k) (gp p (k - 1)) = true
  | 0, n, _, _, a => ⟨n, rfl, Nat.le_refl _, Nat.le_refl _, a⟩
  | f + 1, n, h0, hn, a => by
    have e : runT lt (kas_desc (f + 1) p n 0) = runT lt (if lt (gp p n) (gp p (n - 1)) = true then (if 0 > 0 then kas_desc f (kas_rev p (n - (0 + 1)) n) (n + 1) 0 else kas_desc f p (n + 1) 0)
        else .ask (gp p (n - 1)) (gp p n) fun d => if d = true then .ret (p, n, 0) else kas_desc f p (n + 1) (0 + 1)) := rfl
    rw [e]
    by_cases c : lt (gp p n) (gp p (n - 1)) = true
    · rw [if_pos c, if_neg (by omega)]
      obtain ⟨m, e1, e2, e3, e4⟩ := run_desc hN h f (n + 1) (by omega) (by omega) fun k k0 kn => by
        by_cases z : k = n
        · rw [z]; exact c
        · exact a k k0 (by omega)
      exact ⟨m, e1, by omega, by omega, e4⟩
    · rw [if_neg c]
      have c' : lt (gp p n) (gp p (n - 1)) = false := by simpa using c
      have t := L.tri _ _ (h.below hN n) (h.below hN (n - 1)) (Pl.ne h (by omega) (by omega) (by omega)) c'
      refine ⟨n, ?_, Nat.le_refl _, by omega, a⟩
      show runT lt (if lt (gp p (n - 1)) (gp p n) = true then KasT.ret (p, n, 0) else kas_desc f p (n + 1) (0 + 1)) = _
      rw [if_pos t]
      rfl
theorem run_part (hN : 0 < N) {p : Array Nat} (h : Pl N p) (hn : 1 < N) (c : lt (gp p 1) (gp p 0) = true) :
    ∃ m q, runT lt (kas_descPart 1 N p) = (m, q) ∧ Pl N q ∧ 0 < m ∧ m ≤ N ∧ As lt q m := by
  obtain ⟨m, e1, e2, e3, e4⟩ := run_desc L hN h (N - (1 + 1)) (1 + 1) (by omega) (by omega) fun k k0 k1 => by
    have : k = 1 := by omega
    rw [this]; exact c
  have hq : Pl N (kas_rev p 0 m) := h.rev _ _
  have hs := Pl.size h
  have ad : ∀ k, 0 < k → k < m → lt (gp (kas_rev p 0 m) (k - 1)) (gp (kas_rev p 0 m) k) = true := fun k k0 k1 => by
    rw [gp_rev (by omega), gp_rev (by omega), if_pos (by omega), if_pos k1]
    have := e4 (m - 1 - (k - 1)) (by omega) (by omega)
    have e5 : m - 1 - (k - 1) - 1 = m - 1 - k := by omega
    rw [e5] at this
    exact this
  have r := run_asc L hN hq (N - m) m (by omega) (by omega) ad
  refine ⟨runT lt (kas_asc (kas_rev p 0 m) (N - m) m), kas_rev p 0 m, ?_, hq, by omega, by omega, as_of_adj L hN hq r.2.2.1⟩
  unfold kas_descPart
  rw [runT_bind, e1]
  show runT lt (if 0 > 0 then _ else kas_tail3 m N p) = _
  rw [if_neg (by omega)]
  unfold kas_tail3
  rw [runT_bind]
  rfl
theorem run_count (hN : 0 < N) {p : Array Nat} (h : Pl N p) : ∃ m q, runT lt (kas_count N p) = (m, q) ∧ Pl N q ∧ 0 < m ∧ m ≤ N ∧ As lt q m := by
  have r := run_asc L hN h (N - 1) 1 (by omega) (by omega) fun k k0 k1 => by omega
  unfold kas_count
  rw [runT_bind]
  generalize runT lt (kas_asc p (N - 1) 1) = n at r
  obtain ⟨r1, r2, r3, r4⟩ := r
  by_cases c : (n == N) = true
  · rw [if_pos c]
    exact ⟨n, p, rfl, h, by omega, by omega, as_of_adj L hN h r3⟩
  · rw [if_neg c]
    have nN : n ≠ N := by simpa using c
    by_cases c2 : n > 1
    · rw [if_pos c2]
      have a := as_of_adj L hN h r3
      have b := a 0 (n - 1) (by omega) (by omega)
      refine ⟨n, p, ?_, h, by omega, by omega, a⟩
      show runT lt (if lt (gp p 0) (gp p (n - 1)) = true then KasT.ret (n, p) else _) = _
      rw [if_pos b]
      rfl
    · rw [if_neg c2]
      have n1 : n = 1 := by omega
      subst n1
      exact run_part L hN h (by omega) (r4 (by omega))
theorem run_place (hN : 0 < N) {p : Array Nat} (h : Pl N p) {k : Nat} (hk : k < N) (a : As lt p k) : ∀ f l r, l ≤ r → r ≤ k → r - l ≤ f → (∀ i, i < l → lt (gp p i) (gp p k) = true) → (∀ i, r ≤ i → i < k → lt (gp p k) (gp p i) = true) →
    ∃ x, runT lt (kas_place p k f l r) = x ∧ x ≤ k ∧ (∀ i, i < x → lt (gp p i) (gp p k) = true) ∧ (∀ i, x ≤ i → i < k → lt (gp p k) (gp p i) = true)
  | 0, l, r, h1, h2, h3, h4, h5 => ⟨l, rfl, by omega, h4, fun i i0 i1 => h5 i (by omega) i1⟩
  | f + 1, l, r, h1, h2, h3, h4, h5 => by
    have e : runT lt (kas_place p k (f + 1) l r) = runT lt (if l ≥ r then KasT.ret l else .ask (gp p k) (gp p ((l + r) / 2)) fun c => if c = true then kas_place p k f l ((l + r) / 2) else kas_place p k f ((l + r) / 2 + 1) r) := rfl
    rw [e]
    by_cases c : l ≥ r
    · rw [if_pos c]
      exact ⟨l, rfl, by omega, h4, fun i i0 i1 => h5 i (by omega) i1⟩
    · rw [if_neg c]
      generalize hm : (l + r) / 2 = m
      have m1 : l ≤ m := by omega
      have m2 : m < r := by omega
      show ∃ x, runT lt (if lt (gp p k) (gp p m) = true then kas_place p k f l m else kas_place p k f (m + 1) r) = x ∧ _
      by_cases c2 : lt (gp p k) (gp p m) = true
      · rw [if_pos c2]
        refine run_place hN h hk a f l m m1 (by omega) (by omega) h4 fun i i0 i1 => ?_
        by_cases z : i = m
        · rw [z]; exact c2
        · exact L.tr _ _ _ (h.below hN _) (h.below hN _) (h.below hN _) c2 (a m i (by omega) i1)
      · rw [if_neg c2]
        have c' : lt (gp p k) (gp p m) = false := by simpa using c2
        have t := L.tri _ _ (h.below hN k) (h.below hN m) (Pl.ne h hk (by omega) (by omega)) c'
        refine run_place hN h hk a f (m + 1) r (by omega) h2 (by omega) (fun i i0 => ?_) h5
        by_cases z : i = m
        · rw [z]; exact t
        · exact L.tr _ _ _ (h.below hN _) (h.below hN _) (h.below hN _) (a i m (by omega) (by omega)) t
theorem run_bin (hN : 0 < N) : ∀ f (p : Array Nat) k, Pl N p → k + f = N → As lt p k → As lt (runT lt (kas_bin f p k)) N
  | 0, p, k, _, hk, a => by
    have : k = N := by omega
    subst this
    exact a
  | f + 1, p, k, h, hk, a => by
    have hs := Pl.size h
    obtain ⟨x, e1, e2, e3, e4⟩ := run_place L hN h (show k < N by omega) a k 0 k (Nat.zero_le _) (Nat.le_refl _) (by omega) (fun i z => by omega) (fun i z1 z2 => by omega)
    have e : runT lt (kas_bin (f + 1) p k) = runT lt (kas_bin f (bubble p k (k - x)) (k + 1)) := by
      show runT lt ((kas_place p k k 0 k).bind fun l => kas_bin f (bubble p k (k - l)) (k + 1)) = _
      rw [runT_bind, e1]
    rw [e]
    refine run_bin hN f _ (k + 1) (h.bub _ _) (by omega) fun i j hij hj => ?_
    rw [gp_bub (by omega) e2, gp_bub (by omega) e2]
    by_cases i1 : i = x
    · rw [if_pos i1, if_neg (by omega), if_pos (by omega)]
      exact e4 (j - 1) (by omega) (by omega)
    · rw [if_neg i1]
      by_cases j1 : j = x
      · rw [if_pos j1, if_neg (by omega)]
        exact e3 i (by omega)
      · rw [if_neg j1]
        by_cases i2 : x < i ∧ i ≤ k
        · rw [if_pos i2, if_pos (by omega)]
          exact a (i - 1) (j - 1) (by omega) (by omega)
        · rw [if_neg i2]
          by_cases j2 : x < j ∧ j ≤ k
          · rw [if_pos j2]
            exact a i (j - 1) (by omega) (by omega)
          · rw [if_neg j2]
            exact a i j hij (by omega)
theorem run_sort (hN : 0 < N) : As lt (runT lt (kas_sort N)) N := by
  unfold kas_sort
  rw [runT_bind]
  obtain ⟨m, q, e, hq, m0, m1, a⟩ := run_count L hN (show Pl N (List.toArray (List.range N)) from Array.Perm.refl _)
  rw [e]
  show As lt (runT lt (if m < N then kas_bin (N - max m 1) q (max m 1) else KasT.ret q)) N
  have em : max m 1 = m := by omega
  rw [em]
  by_cases c : m < N
  · rw [if_pos c]
    exact run_bin L hN _ _ _ hq (by omega) a
  · rw [if_neg c]
    have : m = N := by omega
    subst this
    exact a
end
end L2
namespace L2
open PySem PySem.Spec PySem.W PyProof.Rows
mutual
def VD (h : Heap) : Dt → Value → Prop
  | .non, v => v = Value.none
  | .int n, v => ∃ t, v = Value.int n t
  | .str x, v => ∃ t, v = Value.str x t
  | .tup ds, v => ∃ a o n, ∃ its : List Value, v = Value.ref a ∧ h.get? a = some o ∧ o.cls = .type "tuple" ∧ o.data = .seq its.toArray n ∧ VDs h ds its
def VDs (h : Heap) : List Dt → List Value → Prop
  | [], vs => vs = []
  | d :: ds, vs => ∃ v r, vs = v :: r ∧ VD h d v ∧ VDs h ds r
end
mutual
def hashD (w : World) : Dt → Int
  | .non => reduceHash 4238894112
  | .int n => hashInt n
  | .str x => hashStr w x
  | .tup ds => reduceHash (Builtin.Tuple.tupleHashOf (hashDs w ds))
def hashDs (w : World) : List Dt → List Int
  | [] => []
  | d :: ds => hashD w d :: hashDs w ds
end
section
variable {X : Cx} {pins : List (Addr × Obj)} {σ : L2.St} {H : Hp} {s : Shared}
mutual
theorem vd_of (I : Inv X pins σ H s) : ∀ {x : V} {d : Dt} {u : Value}, DatAt X.K H x d → RelV x u → VD s.heap d u
  | x, .non, u, h, r => by
    have := h.non_eq
    subst this
    simpa [VD] using (show u = Value.none from r)
  | x, .int n, u, h, r => by
    have := h.int_eq
    subst this
    simpa [VD] using (show ∃ t, u = Value.int n t from r)
  | x, .str n, u, h, r => by
    have := h.str_eq
    subst this
    simpa [VD] using (show ∃ t, u = Value.str n t from r)
  | x, .tup ds, u, h, r => by
    obtain ⟨a, vs, rfl, h1, h2⟩ := h.un
    obtain ⟨its, rv, ⟨o, e, c, n, dd⟩, _⟩ := I.tuple h1
    simp only [VD]
    exact ⟨a, o, n, its, r, e, c, dd, vds_of I h2 rv⟩
theorem vds_of (I : Inv X pins σ H s) : ∀ {xs : List V} {ds : List Dt} {us : List Value}, DatsAt X.K H xs ds → Vals xs us → VDs s.heap ds us
  | xs, [], us, h, r => by
    have := h.un0
    subst this
    cases r
    simp [VDs]
  | xs, d :: ds, us, h, r => by
    obtain ⟨v, w', rfl, h1, h2⟩ := h.un
    cases r with
    | cons r1 r2 =>
      simp only [VDs]
      exact ⟨_, _, rfl, vd_of I h1 r1, vds_of I h2 r2⟩
end
end
section
variable {prog : Program} {w : World} {E : Value → Shared → Prop}
mutual
theorem hash_vd : ∀ (d : Dt) (v : Value) (A : Around) (s : Shared) (Q : Int → Shared → Prop), VD s.heap d v → A.units + d.hgt < cLine → (∀ tk, Q (hashD w d) { s with toks := tk }) → wpAny (model prog w) A (pyHash v) Q E s
  | .non, v, A, s, Q, x, hu, q => by
    have e : v = Value.none := by simpa [VD] using x
    subst e
    refine pyHash_slot (T := "NoneType") rfl F.slot_NoneType_hash F.entry_NoneType_hash (F.args_NoneType_hash_1 _) (beq_builtin_none _) (.inr (by omega)) ?_
    exact wpAny_bind (wpAny_pure (wpAny_bind (wpAny_mkInt (wpAny_pure ⟨_, _, rfl, q _⟩))))
  | .int n, v, A, s, Q, x, _, q => by
    obtain ⟨t, rfl⟩ : ∃ t, v = Value.int n t := by simpa [VD] using x
    exact wpAny_pyHash_int (q _)
  | .str n, v, A, s, Q, x, _, q => by
    obtain ⟨t, rfl⟩ : ∃ t, v = Value.str n t := by simpa [VD] using x
    exact wpAny_pyHash_str (q _)
  | .tup ds, v, A, s, Q, x, hu, q => by
    simp only [VD] at x
    obtain ⟨a, o, n, its, rfl, e, c, dd, hs⟩ := x
    have hh : Dt.hgt (.tup ds) = Dt.hgts ds + 1 := by simp [Dt.hgt]
    rw [hh] at hu
    refine pyHash_slot (T := "tuple") ⟨_, e, c⟩ F.slot_tuple_hash F.entry_tuple_hash (F.args_tuple_hash_1 _) (beq_builtin_none _) (.inr (by omega)) ?_
    show wpAny _ _ (Builtin.Tuple.tupleItemsOf (.ref a) >>= _) _ _ s
    refine wpAny_bind (wpAny_tupleItemsOf e dd (wpAny_bind ?_))
    rw [← Array.forIn_toList]
    refine hash_vds ds its A.in1 s #[] _ hs (by rw [Around.in1_units]; omega) fun tk b hb => ?_
    show wpAny _ _ (retInt (Builtin.Tuple.tupleHashOf b.toList)) _ _ _
    rw [hb]
    exact wpAny_bind (wpAny_mkInt (wpAny_pure ⟨_, _, rfl, q _⟩))
theorem hash_vds : ∀ (ds : List Dt) (vs : List Value) (A : Around) (s : Shared) (b : Array Int) (Q : Array Int → Shared → Prop), VDs s.heap ds vs → A.units + Dt.hgts ds < cLine →
    (∀ tk b', b'.toList = b.toList ++ hashDs w ds → Q b' { s with toks := tk }) →
    wpAny (model prog w) A (forIn vs b fun y r => do let k ← pyHash y; pure PUnit.unit; pure (ForInStep.yield (r.push k))) Q E s
  | [], vs, A, s, b, Q, x, _, q => by
    have e : vs = [] := by simpa [VDs] using x
    subst e
    exact wpAny_pure (q s.toks b (by simp [hashDs]))
  | d :: ds, vs, A, s, b, Q, x, hu, q => by
    simp only [VDs] at x
    obtain ⟨v, r, rfl, x1, x2⟩ := x
    have hh : Dt.hgts (d :: ds) = max d.hgt (Dt.hgts ds) := by simp [Dt.hgts]
    rw [hh] at hu
    rw [List.forIn_cons]
    refine wpAny_bind (wpAny_bind (hash_vd d v A s _ x1 (by omega) fun tk => wpAny_bind (wpAny_pure (wpAny_pure ?_))))
    exact hash_vds ds r A _ _ Q x2 (by omega) fun tk' b' hb => q tk' b' (by simp [hb, hashDs])
end
theorem quiet_vd : ∀ (n : Nat) (d : Dt) (v : Value) (A : Around) (s : Shared) (Q : Bool → Shared → Prop), VD s.heap d v → d.hgt ≤ n → Q true s → wpAny (model prog w) A (eqIsQuiet n v) Q E s := by
  intro n
  induction n with
  | zero =>
    intro d v A s Q x hu q
    have hv : carriedByValue v = true := by
      cases d with
      | non => simp only [VD] at x; subst x; rfl
      | int i => simp only [VD] at x; obtain ⟨t, rfl⟩ := x; rfl
      | str i => simp only [VD] at x; obtain ⟨t, rfl⟩ := x; rfl
      | tup ds => simp [Dt.hgt] at hu
    rw [eqIsQuiet_byValue 0 hv]
    exact wpAny_pure q
  | succ n ih =>
    intro d v A s Q x hu q
    cases d with
    | non => simp only [VD] at x; subst x; rw [eqIsQuiet_byValue _ rfl]; exact wpAny_pure q
    | int i => simp only [VD] at x; obtain ⟨t, rfl⟩ := x; rw [eqIsQuiet_byValue _ rfl]; exact wpAny_pure q
    | str i => simp only [VD] at x; obtain ⟨t, rfl⟩ := x; rw [eqIsQuiet_byValue _ rfl]; exact wpAny_pure q
    | tup ds =>
      simp only [VD] at x
      obtain ⟨a, o, m, its, rfl, e, c, dd, hs⟩ := x
      have hh : Dt.hgt (.tup ds) = Dt.hgts ds + 1 := by simp [Dt.hgt]
      rw [hh] at hu
      have hT : s.TypeIs (.ref a) "tuple" := ⟨o, e, c⟩
      unfold eqIsQuiet
      refine wpAny_bind (wpAny_specialOf hT F.slot_tuple_eq.lookup ?_)
      show wpAny _ _ (isInstance (.ref a) (.type "tuple") >>= _) _ _ s
      refine wpAny_bind (wpAny_isInstance hT isSubtype_tuple_tuple ?_)
      simp only [Bool.not_true, Bool.false_eq_true, if_false]
      refine wpAny_bind (wpAny_seqItems e dd (wpAny_bind ?_))
      show wpAny _ _ (forIn its.toArray _ _) _ _ s
      rw [← Array.forIn_toList]
      refine wpAny_forIn_list _ (fun rest r s' => r.1 = none ∧ s' = s ∧ ∃ es, VDs s.heap es rest ∧ Dt.hgts es ≤ n) _ ?_ ?_ _ _ ⟨rfl, rfl, ds, hs, by omega⟩
      · rintro y rest r s' ⟨hr, rfl, es, h1, h2⟩
        cases es with
        | nil => simp [VDs] at h1
        | cons d es =>
          simp only [VDs] at h1
          obtain ⟨v, r', e1, x1, x2⟩ := h1
          cases e1
          have hh : Dt.hgts (d :: es) = max d.hgt (Dt.hgts es) := by simp [Dt.hgts]
          rw [hh] at h2
          refine wpAny_bind (ih d y A s' _ x1 (by omega) ?_)
          simp only [Bool.not_true, Bool.false_eq_true, if_false]
          exact wpAny_pure ⟨rfl, rfl, es, x2, by omega⟩
      · rintro ⟨r1, r2⟩ s' ⟨hr, rfl, _⟩
        simp only at hr
        subst hr
        exact wpAny_pure q
def entD (w : World) (x : Dt × Value × Value) : DictEntry := ⟨hashD w x.1, x.2.1, x.2.2⟩
theorem ent_at {es : Array DictEntry} {ks : List (Dt × Value × Value)} (he : es.toList = ks.map (entD w)) (j : Nat) : es[j]? = (ks[j]?).map (entD w) := by
  rw [← Array.getElem?_toList, he, List.getElem?_map]
theorem places_mem {es : Array DictEntry} {ks : List (Dt × Value × Value)} (he : es.toList = ks.map (entD w)) {h : Int} {i : Nat} :
    i ∈ placesWithHash es.size (fun i => es[i]?.map (·.hash)) h ↔ ∃ y, ks[i]? = some y ∧ hashD w y.1 = h := by
  unfold placesWithHash
  rw [List.mem_filter, List.mem_range]
  constructor
  · rintro ⟨_, h2⟩
    dsimp only at h2
    rw [ent_at he i] at h2
    cases e : ks[i]? with
    | none => rw [e] at h2; simp at h2
    | some y =>
      rw [e] at h2
      exact ⟨y, rfl, by simpa [entD] using h2⟩
  · rintro ⟨y, e, rfl⟩
    have e2 : es[i]? = some (entD w y) := by rw [ent_at he i, e]; rfl
    refine ⟨(Array.getElem?_eq_some_iff.mp e2).1, ?_⟩
    dsimp only
    rw [e2]
    simp [entD]
theorem places_nodup {n : Nat} {f : Nat → Option Int} {h : Int} : (placesWithHash n f h).Nodup := by
  unfold placesWithHash
  exact List.nodup_range.filter _
theorem nd_at {ks : List (Dt × Value × Value)} (hn : (ks.map (·.1)).Nodup) {i j : Nat} {x y : Dt × Value × Value} (hi : ks[i]? = some x) (hj : ks[j]? = some y) (e : x.1 = y.1) : i = j := by
  have h1 : (ks.map (·.1))[i]? = some x.1 := by rw [List.getElem?_map, hi]; rfl
  have h2 : (ks.map (·.1))[j]? = some x.1 := by rw [List.getElem?_map, hj, e]; rfl
  obtain ⟨l1, g1⟩ := List.getElem?_eq_some_iff.mp h1
  obtain ⟨l2, g2⟩ := List.getElem?_eq_some_iff.mp h2
  exact (List.getElem_inj hn).mp (g1.trans g2.symm)
def Fnd (ks : List (Dt × Value × Value)) (k : Dt) (done : List Nat) (hit : Option Nat) : Prop :=
  (hit = none ∧ ∀ i ∈ done, ∀ p : Value × Value, ks[i]? ≠ some (k, p)) ∨ ∃ (j : Nat) (p : Value × Value), hit = some j ∧ j ∈ done ∧ ks[j]? = some (k, p)
theorem loop_vd {A : Around} {s : Shared} {es : Array DictEntry} {ks : List (Dt × Value × Value)} {k : Dt} (he : es.toList = ks.map (entD w)) (hn : (ks.map (·.1)).Nodup)
    {f : Nat → Option (Option Nat) × Option Nat → Sem (ForInStep (Option (Option Nat) × Option Nat))} {R : Option (Option Nat) × Option Nat → Shared → Prop}
    (hf : ∀ (i : Nat) (y : Dt × Value × Value) (hit : Option Nat) (C : ForInStep (Option (Option Nat) × Option Nat) → Shared → Prop), y ∈ ks → es[i]? = some (entD w y) → hashD w y.1 = hashD w k →
      (Dt.beq y.1 k = true → hit = none ∧ C (.done (some (some i), none)) s ∧ C (.yield (none, some i)) s) → (Dt.beq y.1 k = false → C (.yield (none, hit)) s) → wpAny (model prog w) A (f i (none, hit)) C E s)
    (h1 : ∀ (j : Nat) (p : Value × Value), ks[j]? = some (k, p) → R (some (some j), none) s) (h2 : ∀ hit, Fnd ks k (placesWithHash es.size (fun i => es[i]?.map (·.hash)) (hashD w k)) hit → R (none, hit) s) :
    wpAny (model prog w) A (forIn (placesWithHash es.size (fun i => es[i]?.map (·.hash)) (hashD w k)) ((none, none) : Option (Option Nat) × Option Nat) f) R E s := by
  have nd : (placesWithHash es.size (fun i => es[i]?.map (·.hash)) (hashD w k)).Nodup := places_nodup
  have mem : ∀ i ∈ placesWithHash es.size (fun i => es[i]?.map (·.hash)) (hashD w k), ∃ y, ks[i]? = some y ∧ hashD w y.1 = hashD w k := fun i hi => (places_mem he).mp hi
  generalize placesWithHash es.size (fun i => es[i]?.map (·.hash)) (hashD w k) = pl at nd mem h2
  refine wpAny_forIn_list _ (fun rest b s' => s' = s ∧ ∃ done hit, pl = done ++ rest ∧ b = (none, hit) ∧ Fnd ks k done hit) _ ?_ ?_ _ _ ⟨rfl, [], none, rfl, rfl, .inl ⟨rfl, fun _ h => nomatch h⟩⟩
  · rintro i rest b s' ⟨rfl, done, hit, e, rfl, fd⟩
    obtain ⟨y, ey, hy⟩ := mem i (by rw [e]; exact List.mem_append_right _ (List.mem_cons_self ..))
    have e2 : es[i]? = some (entD w y) := by rw [ent_at he i, ey]; rfl
    have nin : i ∉ done := fun z => by
      rw [e] at nd
      exact (List.nodup_append.mp nd).2.2 i z i (List.mem_cons_self ..) rfl
    refine hf i y hit _ (List.mem_of_getElem? ey) e2 hy (fun hb => ?_) (fun hb => ?_)
    · have ek : y.1 = k := (Dt.beq_iff _ _).mp hb
      have ey' : ks[i]? = some (k, y.2) := by rw [ey, ← ek]
      have hz : hit = none := by
        rcases fd with ⟨z, _⟩ | ⟨j, p, _, hj, ej⟩
        · exact z
        · exact absurd (nd_at hn ej ey ek.symm ▸ hj) nin
      refine ⟨hz, h1 i y.2 ey', rfl, done ++ [i], some i, by rw [e]; simp, rfl, .inr ⟨i, y.2, rfl, by simp, ey'⟩⟩
    · refine ⟨rfl, done ++ [i], hit, by rw [e]; simp, rfl, ?_⟩
      rcases fd with ⟨z, q⟩ | ⟨j, p, z, hj, ej⟩
      · refine .inl ⟨z, fun m hm p em => ?_⟩
        rcases List.mem_append.mp hm with hm | hm
        · exact q m hm p em
        · cases List.mem_singleton.mp hm
          rw [ey] at em
          cases em
          rw [Dt.beq_self] at hb
          cases hb
      · exact .inr ⟨j, p, z, List.mem_append_left _ hj, ej⟩
  · rintro b s' ⟨rfl, done, hit, e, rfl, fd⟩
    rw [List.append_nil] at e
    subst e
    exact h2 hit fd
theorem find_vd {A : Around} {s : Shared} {d : Addr} {o : Obj} {es : Array DictEntry} {ep : Nat} {ks : List (Dt × Value × Value)} {k : Dt} {key : Value} {Q : Option Nat → Shared → Prop}
    (ho : s.heap.get? d = some o) (hd : o.data = .dict es ep) (he : es.toList = ks.map (entD w)) (hn : (ks.map (·.1)).Nodup) (hst : key = Value.none ∨ (∃ n t, key = Value.int n t) ∨ ∃ a, key = Value.ref a)
    (heq : ∀ x ∈ ks, ∀ Q : Bool → Shared → Prop, Q (Dt.beq x.1 k) s → wpAny (model prog w) A (eqBool x.2.1 key) Q E s)
    (hq : ∀ v, (v = key ∨ ∃ x ∈ ks, v = x.2.1) → ∀ Q : Bool → Shared → Prop, Q true s → wpAny (model prog w) A (eqIsQuiet 8 v) Q E s)
    (hid : ∀ x ∈ ks, x.2.1 = key → x.1 = k)
    (hnone : (∀ (j : Nat) (p : Value × Value), ks[j]? ≠ some (k, p)) → Q none s) (hsome : ∀ (j : Nat) (p : Value × Value), ks[j]? = some (k, p) → Q (some j) s) : wpAny (model prog w) A (dictFind d key (hashD w k)) Q E s := by
  have fin : ∀ hit, Fnd ks k (placesWithHash es.size (fun i => es[i]?.map (·.hash)) (hashD w k)) hit → Q hit s := by
    rintro hit (⟨rfl, h⟩ | ⟨j, p, rfl, _, h⟩)
    · exact hnone fun j p e => h j ((places_mem he).mpr ⟨_, e, rfl⟩) p e
    · exact hsome j p h
  have mayTell : ∀ R : Bool → Shared → Prop, R false s → wpAny (model prog w) A (tableMayTell key ((placesWithHash es.size (fun i => es[i]?.map (·.hash)) (hashD w k)).filterMap fun i => es[i]?.map (·.key))) R E s := by
    intro R hR
    have all : ∀ v ∈ ((placesWithHash es.size (fun i => es[i]?.map (·.hash)) (hashD w k)).filterMap fun i => es[i]?.map (·.key)), ∃ x ∈ ks, v = x.2.1 := fun v hv => by
      obtain ⟨i, hi, e⟩ := List.mem_filterMap.mp hv
      obtain ⟨y, ey, _⟩ := (places_mem he).mp hi
      rw [ent_at he i, ey] at e
      exact ⟨y, List.mem_of_getElem? ey, (Option.some.inj e).symm⟩
    unfold tableMayTell
    split
    · exact wpAny_pure hR
    · refine wpAny_bind (hq key (.inl rfl) _ ?_)
      rw [if_neg (by simp)]
      refine wpAny_bind (wpAny_forIn_list _ (fun rest r s' => s' = s ∧ r = (none, ()) ∧ ∀ v ∈ rest, ∃ x ∈ ks, v = x.2.1) _ ?_ ?_ _ _ ⟨rfl, rfl, all⟩)
      · rintro v rest r s' ⟨rfl, rfl, h⟩
        refine wpAny_bind (hq v (.inr (h v (List.mem_cons_self ..))) _ ?_)
        rw [if_neg (by simp)]
        exact wpAny_pure ⟨rfl, rfl, fun u hu => h u (List.mem_cons_of_mem _ hu)⟩
      · rintro r s' ⟨rfl, rfl, _⟩
        exact wpAny_pure hR
  have plain : wpAny (model prog w) A (dictWalkPlain d key (hashD w k) es (placesWithHash es.size (fun i => es[i]?.map (·.hash)) (hashD w k))) Q E s := by
    have mem : ∀ i ∈ placesWithHash es.size (fun i => es[i]?.map (·.hash)) (hashD w k), ∃ y, ks[i]? = some y ∧ hashD w y.1 = hashD w k := fun i hi => (places_mem he).mp hi
    unfold dictWalkPlain
    generalize placesWithHash es.size (fun i => es[i]?.map (·.hash)) (hashD w k) = pl at mem fin
    refine wpAny_bind (wpAny_forIn_list _ (fun rest r s' => s' = s ∧ r = (none, ()) ∧ ∃ done, pl = done ++ rest ∧ ∀ i ∈ done, ∀ p : Value × Value, ks[i]? ≠ some (k, p)) _ ?_ ?_ _ _ ⟨rfl, rfl, [], rfl, fun _ h => nomatch h⟩)
    · rintro i rest r s' ⟨rfl, rfl, done, e, no⟩
      obtain ⟨y, ey, hh⟩ := mem i (by rw [e]; exact List.mem_append_right _ (List.mem_cons_self ..))
      have ei : es[i]? = some (entD w y) := by rw [ent_at he i, ey]; rfl
      rw [ei]
      dsimp only
      rw [if_pos (show ((entD w y).hash == hashD w k) = true from beq_iff_eq.mpr hh)]
      refine wpAny_bind (wpAny_dictEpoch ho hd (wpAny_bind (heq y (List.mem_of_getElem? ey) _ (wpAny_bind (wpAny_dictEpoch ho hd ?_)))))
      rw [if_neg (by simp)]
      cases hb : Dt.beq y.1 k with
      | true =>
        have ek : y.1 = k := (Dt.beq_iff _ _).mp hb
        rw [if_pos rfl]
        exact wpAny_bind (wpAny_rule (wpAny_pure (wpAny_pure (hsome i y.2 (by rw [ey, ← ek])))))
      | false =>
        rw [if_neg (by simp)]
        refine wpAny_bind (wpAny_rule (wpAny_pure ⟨rfl, rfl, done ++ [i], by rw [e]; simp, fun m hm p em => ?_⟩))
        rcases List.mem_append.mp hm with hm | hm
        · exact no m hm p em
        · cases List.mem_singleton.mp hm
          rw [ey] at em
          cases em
          rw [Dt.beq_self] at hb
          cases hb
    · rintro r s' ⟨rfl, rfl, done, e, no⟩
      rw [List.append_nil] at e
      subst e
      exact wpAny_pure (fin none (.inl ⟨rfl, no⟩))
  rcases hst with rfl | ⟨n, t, rfl⟩ | ⟨a, rfl⟩
  · unfold dictFind
    try with_reducible refine wpAny_holding ?_
    refine wpAny_bind (wpAny_dictEntries ho hd ?_)
    dsimp only
    by_cases hall : ((Value.none :: (placesWithHash es.size (fun i => es[i]?.map (·.hash)) (hashD w k)).filterMap fun i => es[i]?.map (·.key)).all carriedByValue) = true
    · rw [if_pos hall]
      exact plain
    · rw [if_neg hall]
      by_cases hone : (((placesWithHash es.size (fun i => es[i]?.map (·.hash)) (hashD w k)).filterMap fun i => es[i]?.map (·.key)) == [Value.none]) = true
      · rw [if_pos hone]
        refine wpAny_bind (wpAny_pure ?_)
        rw [if_neg (by simp)]
        refine wpAny_bind (loop_vd he hn (fun i y hit C hy ei hh ht hf => ?_) (fun j p e => wpAny_pure (hsome j p e)) (fun hit f => wpAny_pure (fin hit f)))
        rw [ei]
        dsimp only
        rw [if_pos (show ((entD w y).hash == hashD w k) = true from beq_iff_eq.mpr hh)]
        refine wpAny_bind (wpAny_dictEpoch ho hd (wpAny_bind (heq y hy _ (wpAny_bind (wpAny_dictEpoch ho hd ?_)))))
        rw [if_neg (by simp)]
        cases hb : Dt.beq y.1 k with
        | true =>
          obtain ⟨rfl, c1, c2⟩ := ht hb
          rw [if_pos rfl, if_neg (by simp)]
          refine wpAny_bind (wpAny_rule ?_)
          split
          · exact wpAny_pure c1
          · exact wpAny_pure c2
        | false =>
          rw [if_neg (by simp)]
          refine wpAny_bind (wpAny_rule ?_)
          rw [if_neg (by simp)]
          exact wpAny_pure (hf hb)
      · rw [if_neg hone]
        refine wpAny_bind (mayTell _ ?_)
        rw [if_neg (by simp)]
        refine wpAny_bind (loop_vd he hn (fun i y hit C hy ei hh ht hf => ?_) (fun j p e => wpAny_pure (hsome j p e)) (fun hit f => wpAny_pure (fin hit f)))
        rw [ei]
        dsimp only
        rw [if_pos (show ((entD w y).hash == hashD w k) = true from beq_iff_eq.mpr hh)]
        refine wpAny_bind (wpAny_dictEpoch ho hd (wpAny_bind (heq y hy _ (wpAny_bind (wpAny_dictEpoch ho hd ?_)))))
        rw [if_neg (by simp)]
        cases hb : Dt.beq y.1 k with
        | true =>
          obtain ⟨rfl, c1, c2⟩ := ht hb
          rw [if_pos rfl, if_neg (by simp)]
          refine wpAny_bind (wpAny_rule ?_)
          split
          · exact wpAny_pure c1
          · exact wpAny_pure c2
        | false =>
          rw [if_neg (by simp)]
          refine wpAny_bind (wpAny_rule ?_)
          rw [if_neg (by simp)]
          exact wpAny_pure (hf hb)
  · unfold dictFind
    try with_reducible refine wpAny_holding ?_
    refine wpAny_bind (wpAny_dictEntries ho hd ?_)
    dsimp only
    by_cases hall : ((Value.int n t :: (placesWithHash es.size (fun i => es[i]?.map (·.hash)) (hashD w k)).filterMap fun i => es[i]?.map (·.key)).all carriedByValue) = true
    · rw [if_pos hall]
      exact plain
    · rw [if_neg hall]
      by_cases hone : (((placesWithHash es.size (fun i => es[i]?.map (·.hash)) (hashD w k)).filterMap fun i => es[i]?.map (·.key)) == [Value.int n t]) = true
      · rw [if_pos hone]
        refine wpAny_bind (wpAny_pure ?_)
        rw [if_neg (by simp)]
        refine wpAny_bind (loop_vd he hn (fun i y hit C hy ei hh ht hf => ?_) (fun j p e => wpAny_pure (hsome j p e)) (fun hit f => wpAny_pure (fin hit f)))
        rw [ei]
        dsimp only
        rw [if_pos (show ((entD w y).hash == hashD w k) = true from beq_iff_eq.mpr hh)]
        refine wpAny_bind (wpAny_dictEpoch ho hd (wpAny_bind (heq y hy _ (wpAny_bind (wpAny_dictEpoch ho hd ?_)))))
        rw [if_neg (by simp)]
        cases hb : Dt.beq y.1 k with
        | true =>
          obtain ⟨rfl, c1, c2⟩ := ht hb
          rw [if_pos rfl, if_neg (by simp)]
          refine wpAny_bind (wpAny_rule ?_)
          split
          · exact wpAny_pure c1
          · exact wpAny_pure c2
        | false =>
          rw [if_neg (by simp)]
          refine wpAny_bind (wpAny_rule ?_)
          rw [if_neg (by simp)]
          exact wpAny_pure (hf hb)
      · rw [if_neg hone]
        refine wpAny_bind (mayTell _ ?_)
        rw [if_neg (by simp)]
        refine wpAny_bind (loop_vd he hn (fun i y hit C hy ei hh ht hf => ?_) (fun j p e => wpAny_pure (hsome j p e)) (fun hit f => wpAny_pure (fin hit f)))
        rw [ei]
        dsimp only
        rw [if_pos (show ((entD w y).hash == hashD w k) = true from beq_iff_eq.mpr hh)]
        refine wpAny_bind (wpAny_dictEpoch ho hd (wpAny_bind (heq y hy _ (wpAny_bind (wpAny_dictEpoch ho hd ?_)))))
        rw [if_neg (by simp)]
        cases hb : Dt.beq y.1 k with
        | true =>
          obtain ⟨rfl, c1, c2⟩ := ht hb
          rw [if_pos rfl, if_neg (by simp)]
          refine wpAny_bind (wpAny_rule ?_)
          split
          · exact wpAny_pure c1
          · exact wpAny_pure c2
        | false =>
          rw [if_neg (by simp)]
          refine wpAny_bind (wpAny_rule ?_)
          rw [if_neg (by simp)]
          exact wpAny_pure (hf hb)
  · unfold dictFind
    try with_reducible refine wpAny_holding ?_
    refine wpAny_bind (wpAny_dictEntries ho hd ?_)
    dsimp only
    have hall : ¬ ((Value.ref a :: (placesWithHash es.size (fun i => es[i]?.map (·.hash)) (hashD w k)).filterMap fun i => es[i]?.map (·.key)).all carriedByValue) = true := by
      rw [List.all_cons]
      exact Bool.false_ne_true
    have hany : ¬ (es.any fun e => e.key == Value.ref a && e.hash != hashD w k) = true := by
      rw [← Array.any_toList, he, List.any_map, List.any_eq_true]
      rintro ⟨x, hx, hc⟩
      have hc' := (Bool.and_eq_true _ _).mp hc
      have h1 : x.2.1 = Value.ref a := by simpa [entD] using hc'.1
      have h2 : hashD w x.1 ≠ hashD w k := by simpa [entD] using hc'.2
      exact h2 (by rw [hid x hx h1])
    rw [if_neg hall, if_neg hany]
    by_cases hone : (((placesWithHash es.size (fun i => es[i]?.map (·.hash)) (hashD w k)).filterMap fun i => es[i]?.map (·.key)) == [Value.ref a]) = true
    · rw [if_pos hone]
      refine wpAny_bind (wpAny_pure ?_)
      rw [if_neg (by simp)]
      refine wpAny_bind (loop_vd he hn (fun i y hit C hy ei hh ht hf => ?_) (fun j p e => wpAny_pure (hsome j p e)) (fun hit f => wpAny_pure (fin hit f)))
      rw [ei]
      dsimp only
      rw [if_pos (show ((entD w y).hash == hashD w k) = true from beq_iff_eq.mpr hh)]
      refine wpAny_bind (wpAny_dictEpoch ho hd (wpAny_bind (heq y hy _ (wpAny_bind (wpAny_dictEpoch ho hd ?_)))))
      rw [if_neg (by simp)]
      cases hb : Dt.beq y.1 k with
      | true =>
        obtain ⟨rfl, c1, c2⟩ := ht hb
        rw [if_pos rfl, if_neg (by simp)]
        refine wpAny_bind (wpAny_rule ?_)
        split
        · exact wpAny_pure c1
        · exact wpAny_pure c2
      | false =>
        rw [if_neg (by simp)]
        refine wpAny_bind (wpAny_rule ?_)
        rw [if_neg (by simp)]
        exact wpAny_pure (hf hb)
    · rw [if_neg hone]
      refine wpAny_bind (mayTell _ ?_)
      rw [if_neg (by simp)]
      refine wpAny_bind (loop_vd he hn (fun i y hit C hy ei hh ht hf => ?_) (fun j p e => wpAny_pure (hsome j p e)) (fun hit f => wpAny_pure (fin hit f)))
      rw [ei]
      dsimp only
      rw [if_pos (show ((entD w y).hash == hashD w k) = true from beq_iff_eq.mpr hh)]
      refine wpAny_bind (wpAny_dictEpoch ho hd (wpAny_bind (heq y hy _ (wpAny_bind (wpAny_dictEpoch ho hd ?_)))))
      rw [if_neg (by simp)]
      cases hb : Dt.beq y.1 k with
      | true =>
        obtain ⟨rfl, c1, c2⟩ := ht hb
        rw [if_pos rfl, if_neg (by simp)]
        refine wpAny_bind (wpAny_rule ?_)
        split
        · exact wpAny_pure c1
        · exact wpAny_pure c2
      | false =>
        rw [if_neg (by simp)]
        refine wpAny_bind (wpAny_rule ?_)
        rw [if_neg (by simp)]
        exact wpAny_pure (hf hb)
end
end L2
namespace L2
open PySem PySem.Spec PySem.W PyProof.Rows
def hasD {β : Type} (ks : List (Dt × β)) (k : Dt) : Bool := ks.any fun x => Dt.beq x.1 k
def putD {α : Type} (ks : List (Dt × α × α)) (k : Dt) (key v : α) : List (Dt × α × α) := if hasD ks k = true then ks.map (fun x => if Dt.beq x.1 k = true then (x.1, x.2.1, v) else x) else ks ++ [(k, key, v)]
theorem hasD_iff {β : Type} {ks : List (Dt × β)} {k : Dt} : hasD ks k = true ↔ k ∈ ks.map (·.1) := by
  unfold hasD
  rw [List.any_eq_true, List.mem_map]
  constructor
  · rintro ⟨x, hx, e⟩
    exact ⟨x, hx, (Dt.beq_iff _ _).mp e⟩
  · rintro ⟨x, hx, e⟩
    exact ⟨x, hx, (Dt.beq_iff _ _).mpr e⟩
theorem hasD_no {β : Type} {ks : List (Dt × β)} {k : Dt} (h : ∀ (j : Nat) (p : β), ks[j]? ≠ some (k, p)) : hasD ks k = false := by
  cases e : hasD ks k with
  | false => rfl
  | true =>
    obtain ⟨x, hx, ex⟩ := List.mem_map.mp (hasD_iff.mp e)
    obtain ⟨j, hj⟩ := List.getElem?_of_mem hx
    exact absurd (hj.trans (by rw [← ex])) (h j x.2)
theorem hasD_yes {β : Type} {ks : List (Dt × β)} {k : Dt} {j : Nat} {p : β} (h : ks[j]? = some (k, p)) : hasD ks k = true := hasD_iff.mpr (List.mem_map.mpr ⟨_, List.mem_of_getElem? h, rfl⟩)
theorem putD_keys {α : Type} (ks : List (Dt × α × α)) (k : Dt) (key v : α) : (putD ks k key v).map (·.1) = if hasD ks k = true then ks.map (·.1) else ks.map (·.1) ++ [k] := by
  unfold putD
  split
  · rw [List.map_map]
    refine List.map_congr_left fun x _ => ?_
    show (if Dt.beq x.1 k = true then (x.1, x.2.1, v) else x).1 = x.1
    split <;> rfl
  · rw [List.map_append]
    rfl
theorem putD_nodup {α : Type} {ks : List (Dt × α × α)} {k : Dt} {key v : α} (h : (ks.map (·.1)).Nodup) : ((putD ks k key v).map (·.1)).Nodup := by
  rw [putD_keys]
  split
  · exact h
  · rename_i hn
    rw [List.nodup_append]
    refine ⟨h, by simp, fun a ha b hb => ?_⟩
    cases List.mem_singleton.mp hb
    exact fun z => hn (hasD_iff.mpr (z ▸ ha))
theorem putD_mem {α : Type} {ks : List (Dt × α × α)} {k : Dt} {key v : α} {x : Dt × α × α} (h : x ∈ putD ks k key v) : (∃ y ∈ ks, y.1 = x.1 ∧ y.2.1 = x.2.1) ∨ (x.1 = k ∧ x.2.1 = key) := by
  unfold putD at h
  split at h
  · obtain ⟨y, hy, rfl⟩ := List.mem_map.mp h
    refine .inl ⟨y, hy, ?_⟩
    split <;> exact ⟨rfl, rfl⟩
  · rcases List.mem_append.mp h with h | h
    · exact .inl ⟨x, h, rfl, rfl⟩
    · cases List.mem_singleton.mp h
      exact .inr ⟨rfl, rfl⟩
section
variable {prog : Program} {w : World} {E : Value → Shared → Prop}
theorem set_vd {A : Around} {s : Shared} {d : Addr} {o : Obj} {es : Array DictEntry} {ep : Nat} {ks : List (Dt × Value × Value)} {k : Dt} {key v : Value} {Q : Unit → Shared → Prop}
    (ho : s.heap.get? d = some o) (hx : o.ExactDict) (hd : o.data = .dict es ep) (he : es.toList = ks.map (entD w)) (hn : (ks.map (·.1)).Nodup) (hst : key = Value.none ∨ (∃ n t, key = Value.int n t) ∨ ∃ a, key = Value.ref a)
    (hk : VD s.heap k key) (hu : A.units + k.hgt < cLine)
    (heq : ∀ tk, ∀ x ∈ ks, ∀ Q : Bool → Shared → Prop, Q (Dt.beq x.1 k) { s with toks := tk } → wpAny (model prog w) A (eqBool x.2.1 key) Q E { s with toks := tk })
    (hq : ∀ tk v, (v = key ∨ ∃ x ∈ ks, v = x.2.1) → ∀ Q : Bool → Shared → Prop, Q true { s with toks := tk } → wpAny (model prog w) A (eqIsQuiet 8 v) Q E { s with toks := tk })
    (hid : ∀ x ∈ ks, x.2.1 = key → x.1 = k) (hz : ks.length ≤ sizeLine)
    (hQ : ∀ h' tk o' es' ep', h'.get? d = some o' → o'.ExactDict → o'.data = .dict es' ep' → es'.toList = (putD ks k key v).map (entD w) → Heap.SameBut d s.heap h' → Q () { s with heap := h', toks := tk }) :
    wpAny (model prog w) A (dictSet d key v) Q E s := by
  have sz : es.size = ks.length := by rw [← Array.length_toList, he, List.length_map]
  unfold dictSet
  try with_reducible refine wpAny_holding ?_
  refine wpAny_bind (hash_vd k key A s _ hk hu fun tk => ?_)
  unfold dictSetHashed
  try with_reducible refine wpAny_holding ?_
  refine wpAny_bind (find_vd (s := { s with toks := tk }) ho hd he hn hst (heq tk) (hq tk) hid (fun no => ?_) (fun j p e => ?_))
  · refine wpAny_bind (wpAny_rule (wpAny_updateDictKeys (s := { s with toks := tk }) ho hd ?_ (hz := by omega)))
    refine hQ _ tk _ _ (ep + 1) (Heap.get?_update_self _ ho (Obj.isFreed_of_dict (Obj.data_mapDictKeys hd _))) (hx.mapDictKeys _) (Obj.data_mapDictKeys hd _) ?_ (Heap.SameBut.update ..)
    unfold putD
    rw [if_neg (by rw [hasD_no no]; exact Bool.false_ne_true), List.map_append, Array.toList_push, he]
    rfl
  · refine wpAny_bind (wpAny_rule (wpAny_bind (wpAny_updateDict (s := { s with toks := tk }) ho hd (wpAny_point ?_))))
    refine hQ _ tk _ _ ep (Heap.get?_update_self _ ho (Obj.isFreed_of_dict (Obj.data_mapDict hd _))) (hx.mapDict _) (Obj.data_mapDict hd _) ?_ (Heap.SameBut.update ..)
    unfold putD
    rw [if_pos (hasD_yes e), List.map_map]
    apply List.ext_getElem?
    intro i
    rw [Array.toList_modify, List.getElem?_modify, he, List.getElem?_map, List.getElem?_map]
    cases ei : ks[i]? with
    | none => simp
    | some y =>
      by_cases hij : j = i
      · subst hij
        rw [e] at ei
        cases ei
        simp [entD, Dt.beq_self]
      · have ne : Dt.beq y.1 k = false := Dt.beq_ne fun z => hij (nd_at hn e ei z.symm)
        simp [hij, ne]
end
end L2
namespace L2
open PySem PySem.Spec PySem.W PyProof.Rows
def DkR (x : Dt × V × V) (y : Dt × Value × Value) : Prop := x.1 = y.1 ∧ RelV x.2.1 y.2.1 ∧ RelV x.2.2 y.2.2
def DkP (w : World) (a : Addr) (kvs : List (Dt × V × V)) (h : Heap) : Prop :=
  (a == sysModules) = false ∧ ∃ o es ep ks, h.get? a = some o ∧ o.ExactDict ∧ o.data = .dict es ep ∧ es.toList = ks.map (entD w) ∧ Paired DkR kvs ks
def DkO (w : World) (a : Addr) (kvs : List (Dt × V × V)) : HO := .ext (DkP w a kvs)
structure DkM (K : PySem.W.Frag) (w : World) (H : Hp) (a : Addr) (kvs : List (Dt × V × V)) : Prop where
  at_ : H a = some (DkO w a kvs)
  dat : ∀ x ∈ kvs, DatAt K H x.2.1 x.1
  oc : ∀ x ∈ kvs, Oc x.1
  nd : (kvs.map (·.1)).Nodup
theorem dk_keys : ∀ {kvs : List (Dt × V × V)} {ks : List (Dt × Value × Value)}, Paired DkR kvs ks → kvs.map (·.1) = ks.map (·.1)
  | _, _, .nil => rfl
  | _, _, .cons r t => by rw [List.map_cons, List.map_cons, r.1, dk_keys t]
theorem dk_mem : ∀ {kvs : List (Dt × V × V)} {ks : List (Dt × Value × Value)}, Paired DkR kvs ks → ∀ y ∈ ks, ∃ x ∈ kvs, DkR x y
  | _, _, .nil, y, h => nomatch h
  | _, _, .cons (a := x) r t, y, h => by
    rcases List.mem_cons.mp h with z | z
    · exact ⟨x, List.mem_cons_self .., z ▸ r⟩
    · obtain ⟨x', h1, h2⟩ := dk_mem t y z
      exact ⟨x', List.mem_cons_of_mem _ h1, h2⟩
theorem dk_map {k : Dt} {x : V} {u : Value} (r : RelV x u) : ∀ {kvs : List (Dt × V × V)} {ks : List (Dt × Value × Value)}, Paired DkR kvs ks →
    Paired DkR (kvs.map fun e => if Dt.beq e.1 k = true then (e.1, e.2.1, x) else e) (ks.map fun e => if Dt.beq e.1 k = true then (e.1, e.2.1, u) else e)
  | _, _, .nil => .nil
  | _, _, .cons (a := y) (b := z) q t => by
    refine .cons ?_ (dk_map r t)
    dsimp only
    rw [← q.1]
    split
    · exact ⟨rfl, q.2.1, r⟩
    · exact q
theorem dk_snoc : ∀ {kvs : List (Dt × V × V)} {ks : List (Dt × Value × Value)} {x : Dt × V × V} {y : Dt × Value × Value}, Paired DkR kvs ks → DkR x y → Paired DkR (kvs ++ [x]) (ks ++ [y])
  | _, _, _, _, .nil, q => .cons q .nil
  | _, _, _, _, .cons r t, q => .cons r (dk_snoc t q)
theorem dk_put {k : Dt} {i v : V} {u r : Value} (ri : RelV i u) (rv : RelV v r) {kvs : List (Dt × V × V)} {ks : List (Dt × Value × Value)} (h : Paired DkR kvs ks) : Paired DkR (putD kvs k i v) (putD ks k u r) := by
  have e : hasD kvs k = hasD ks k := by
    rw [Bool.eq_iff_iff, hasD_iff, hasD_iff, dk_keys h]
  unfold putD
  rw [e]
  split
  · exact dk_map rv h
  · exact dk_snoc h ⟨rfl, ri, rv⟩
section
variable {K : PySem.W.Frag} {H : Hp} {a : Addr} {φ ψ : Heap → Prop}
theorem sqT_updX {r : Addr} {vs : List V} (ha : H a = some (.ext φ)) (h : SqT K H r vs) : SqT K (upd H a (.ext ψ)) r vs := by
  rcases h with (h | ⟨o, h⟩) | h
  · exact .inl (.inl (by rw [upd_ne (ne_of h ha (by intro z; cases z))]; exact h))
  · exact .inl (.inr ⟨o, by rw [upd_ne (ne_of h ha (by intro z; cases z))]; exact h⟩)
  · exact .inr h
mutual
theorem DatAt.updX (ha : H a = some (.ext φ)) : ∀ {v : V} {d : Dt}, DatAt K H v d → DatAt K (upd H a (.ext ψ)) v d
  | v, .non, h => by simpa [DatAt] using h
  | v, .int i, h => by simpa [DatAt] using h
  | v, .str i, h => by simpa [DatAt] using h
  | v, .tup ds, h => by
    obtain ⟨r, vs, rfl, h1, h2⟩ := h.un
    exact .tup (sqT_updX ha h1) (DatsAt.updX ha h2)
theorem DatsAt.updX (ha : H a = some (.ext φ)) : ∀ {vs : List V} {ds : List Dt}, DatsAt K H vs ds → DatsAt K (upd H a (.ext ψ)) vs ds
  | vs, [], h => by
    rw [h.un0]
    exact .nil
  | vs, d :: ds, h => by
    obtain ⟨v, r, rfl, h1, h2⟩ := h.un
    exact .cons (DatAt.updX ha h1) (DatsAt.updX ha h2)
end
end
theorem DkM.same {K : PySem.W.Frag} {w : World} {H H' : Hp} {a : Addr} {kvs : List (Dt × V × V)} (h : DkM K w H a kvs) (e : Same H H') : DkM K w H' a kvs :=
  ⟨e _ _ h.at_, fun x hx => (h.dat x hx).same e, h.oc, h.nd⟩
theorem dkP_stays {w : World} {a : Addr} {kvs : List (Dt × V × V)} {h1 h2 : Heap} (p : DkP w a kvs h1) (k : ∀ o, h1.get? a = some o → h2.get? a = some o) : DkP w a kvs h2 := by
  obtain ⟨q, o, es, ep, ks, e, r⟩ := p
  exact ⟨q, o, es, ep, ks, k _ e, r⟩
theorem dkO_ok {P : Program} {w : World} {H : Hp} {a : Addr} {kvs : List (Dt × V × V)} {h : Heap} (p : DkP w a kvs h) : ObjOk P w H h a (DkO w a kvs) := by
  refine ⟨p, ?_, fun _ _ => dkP_stays⟩
  obtain ⟨_, o, _, _, _, e, _⟩ := p
  exact ⟨o, e⟩
section
variable {X : Cx}
theorem Inv.far {pins : List (Addr × Obj)} {σ : L2.St} {H : Hp} {s : Shared} (I : Inv X pins σ H s) : sysModules < s.heap.objs.size := modules_low I.nolimit
def tDNewD (w : World) : TE := fun _ H Q => ∀ p, H p = none → Q (.ref p) (upd H p (DkO w p []))
theorem pe_dnewD {pos : Pos} : PE X (.Dict [] [] pos) (tDNewD X.w) := by
  intro pins s σ H Q I h
  refine wpAny_Dict_empty ⟨.ref s.heap.objs.size, _, I.laid (t' := s.toks) (o := DkO X.w s.heap.objs.size []) (fun b o q => Heap.get?_push_of_some _ q) (Nat.le_refl _) (dkO_ok ?_), rfl, h _ (I.hok.fresh (Nat.le_refl _))⟩
  exact ⟨beq_eq_false_iff_ne.mpr (Ne.symm (Nat.ne_of_lt I.far)), _, #[], 0, [], Heap.get?_push_size _ rfl, ⟨rfl, rfl, rfl⟩, rfl, rfl, .nil⟩
theorem oc_key {K : PySem.W.Frag} {H : Hp} {i : V} {k : Dt} {u : Value} (hk : DatAt K H i k) (o : Oc k) (r : RelV i u) : u = Value.none ∨ (∃ n t, u = Value.int n t) ∨ ∃ a, u = Value.ref a := by
  cases o with
  | non =>
    have := hk.non_eq
    subst this
    exact .inl r
  | int n =>
    have := hk.int_eq
    subst this
    exact .inr (.inl ⟨n, r⟩)
  | recd fs =>
    obtain ⟨a, vs, rfl, _, _⟩ := hk.un
    exact .inr (.inr ⟨a, r⟩)
end
end L2
namespace L2
open PySem PySem.Spec PySem.W PyProof.Rows
section
variable {X : Cx} {pins : List (Addr × Obj)} {σ : L2.St} {H : Hp} {s : Shared} {a : Addr} {kvs : List (Dt × V × V)} {k : Dt} {i : V} {u : Value}
structure Kit (X : Cx) (A : Around) (s : Shared) (ks : List (Dt × Value × Value)) (k : Dt) (u : Value) : Prop where
  st : u = Value.none ∨ (∃ n t, u = Value.int n t) ∨ ∃ a, u = Value.ref a
  vd : VD s.heap k u
  hgt : A.units + k.hgt < cLine
  eq : ∀ tk, ∀ x ∈ ks, ∀ (E : Value → Shared → Prop) (Q : Bool → Shared → Prop), Q (Dt.beq x.1 k) { s with toks := tk } → wpAny (model X.prog X.w) A (eqBool x.2.1 u) Q E { s with toks := tk }
  quiet : ∀ tk v, (v = u ∨ ∃ x ∈ ks, v = x.2.1) → ∀ (E : Value → Shared → Prop) (Q : Bool → Shared → Prop), Q true { s with toks := tk } → wpAny (model X.prog X.w) A (eqIsQuiet 8 v) Q E { s with toks := tk }
  id : ∀ x ∈ ks, x.2.1 = u → x.1 = k
theorem kit_of {A : Around} {ks : List (Dt × Value × Value)} (hu : A.units + 32 < cLine) (I : Inv X pins σ H s) (M : DkM X.K X.w H a kvs) (p : Paired DkR kvs ks) (hk : DatAt X.K H i k) (o : Oc k) (r : RelV i u) : Kit X A s ks k u := by
  have all : ∀ x ∈ ks, ∃ v, DatAt X.K H v x.1 ∧ RelV v x.2.1 ∧ x.1.hgt ≤ 2 := fun x hx => by
    obtain ⟨y, hy, e, r1, _⟩ := dk_mem p x hx
    rw [← e]
    exact ⟨y.2.1, M.dat y hy, r1, (M.oc y hy).hgt⟩
  have ho := o.hgt
  refine ⟨oc_key hk o r, vd_of I hk r, by omega, fun tk x hx E Q q => ?_, fun tk v hv E Q q => ?_, fun x hx e => ?_⟩
  · obtain ⟨v, h1, h2, h3⟩ := all x hx
    exact eqAt_dat (I.tok tk) 8 A x.1 k v i x.2.1 u (by omega) (by omega) h1 hk h2 r X.prog X.w E Q q
  · rcases hv with rfl | ⟨x, hx, rfl⟩
    · exact quiet_vd 8 k _ A _ Q (vd_of (I.tok tk) hk r) (by omega) q
    · obtain ⟨v, h1, h2, h3⟩ := all x hx
      exact quiet_vd 8 x.1 _ A _ Q (vd_of (I.tok tk) h1 h2) (by omega) q
  · obtain ⟨v, h1, h2, h3⟩ := all x hx
    rw [e] at h2
    cases h2.inj r
    exact DatAt.inj I h1 hk
theorem d_set {A : Around} {E : Value → Shared → Prop} {v : V} {r : Value} {Q : Unit → Shared → Prop} (hu : A.units + 40 < cLine) (I : Inv X pins σ H s) (M : DkM X.K X.w H a kvs) (few : kvs.length ≤ 1000) (hk : DatAt X.K H i k) (o : Oc k) (ri : RelV i u) (rv : RelV v r)
    (h : ∀ s', Inv X pins σ (upd H a (DkO X.w a (putD kvs k i v))) s' → Q () s') : wpAny (model X.prog X.w) A (setItem (.ref a) u r) Q E s := by
  obtain ⟨⟨far, ob, es, ep, ks, e1, e2, e3, e4, p⟩, _, _⟩ := (show ObjOk X.prog X.w H s.heap a (DkO X.w a kvs) from I.hok a _ M.at_)
  have hT : s.TypeIs (.ref a) "dict" := ⟨ob, e1, e2.1⟩
  have kt : Kit X A.in1 s ks k u := kit_of (by rw [Around.in1_units]; omega) I M p hk o ri
  have len : ks.length ≤ sizeLine := by
    have : kvs.length = ks.length := Paired.length p
    exact Nat.le_trans (show ks.length ≤ 1000 by omega) (by decide)
  unfold setItem
  try with_reducible refine wpAny_holding ?_
  refine wpAny_bind (wpAny_sequenceKey hT (by decide) (wpAny_bind ?_))
  refine wpAny_callSpecial?_slot (name := Str.ofString "__setitem__") hT slot_dict_setitem (wpAny_call_entry slot_dict_setitem hT entry_dict_setitem ?_ (args_dict_setitem _ _ _))
  show wpAny _ _ (Builtin.Dict.notOrdered "__setitem__" ⟨[.ref a, u, r], []⟩ >>= _) _ _ s
  refine wpAny_bind (wpAny_notOrdered_dict hT ?_)
  show wpAny _ _ (dictSet a u r >>= _) _ _ s
  refine wpAny_bind (set_vd e1 e2 e3 e4 (by rw [← dk_keys p]; exact M.nd) kt.st kt.vd kt.hgt (fun tk x hx Q q => kt.eq tk x hx _ Q q) (fun tk v hv Q q => kt.quiet tk v hv _ Q q) kt.id len fun h' tk o' es' ep' f1 f2 f3 f4 hs => ?_)
  refine wpAny_pure ⟨.none, rfl, wpAny_pure (h _ ?_)⟩
  refine I.write (x := a) (e := a) (t' := tk) (by rw [M.at_]; exact True.intro) (.inl rfl) (fun b q hb z => (hs.2 b hb).trans z) ⟨o', f1⟩ (dkO_ok ⟨far, o', es', ep', _, f1, f2, f3, f4, dk_put ri rv p⟩)
theorem DkM.put {K : PySem.W.Frag} {w : World} {v : V} (M : DkM K w H a kvs) (hk : DatAt K H i k) (o : Oc k) : DkM K w (upd H a (DkO w a (putD kvs k i v))) a (putD kvs k i v) := by
  have old : ∀ x d, DatAt K H x d → DatAt K (upd H a (DkO w a (putD kvs k i v))) x d := fun x d h => DatAt.updX (show H a = some (.ext _) from M.at_) h
  refine ⟨upd_same, fun x hx => ?_, fun x hx => ?_, putD_nodup M.nd⟩
  · rcases putD_mem hx with ⟨y, hy, e1, e2⟩ | ⟨e1, e2⟩
    · rw [← e1, ← e2]
      exact old _ _ (M.dat y hy)
    · rw [e1, e2]
      exact old _ _ hk
  · rcases putD_mem hx with ⟨y, hy, e1, e2⟩ | ⟨e1, e2⟩
    · rw [← e1]
      exact M.oc y hy
    · rw [e1]
      exact o
def sDk (K : PySem.W.Frag) (w : World) : TSet := fun o i v H Q => ∃ a kvs k, o = .ref a ∧ DkM K w H a kvs ∧ kvs.length ≤ 1000 ∧ DatAt K H i k ∧ Oc k ∧ Q (upd H a (DkO w a (putD kvs k i v)))
theorem st_dk (hu : X.A.units + 64 < cLine) : PSet X (sDk X.K X.w) := by
  intro pins s σ H o i v ov iv u Q I r1 r2 r3 h
  obtain ⟨a, kvs, k, rfl, M, few, hk, oc, q⟩ := h
  cases (show ov = Value.ref a from r1)
  exact d_set (by omega) I M few hk oc r2 r3 fun s' I' => ⟨_, I', q⟩
end
end L2
namespace L2
open PySem PySem.Spec PySem.W PyProof.Rows
def EsAt (h : Heap) (d : Addr) (es : Array DictEntry) (ep : Nat) : Prop := ∃ o, h.get? d = some o ∧ o.ExactDict ∧ o.data = .dict es ep
theorem EsAt.on {h h' : Heap} {d : Addr} {es : Array DictEntry} {ep : Nat} (x : EsAt h d es ep) (k : ∀ o, h.get? d = some o → h'.get? d = some o) : EsAt h' d es ep := let ⟨o, e, r⟩ := x; ⟨o, k o e, r⟩
section
variable {prog : Program} {w : World} {A : Around} {E : Value → Shared → Prop} {s : Shared} {d it : Addr} {es : Array DictEntry} {ep i : Nat}
theorem es_iter {Q : Value → Shared → Prop} (far : (d == sysModules) = false) (m : EsAt s.heap d es ep)
    (q : Q (.ref s.heap.objs.size) { s with heap := s.heap.push { cls := .type "dict_keyiterator", data := .fields #[.ref d, .int 0 0, .int es.size 0, .int ep 0] } }) : wpAny (model prog w) A (pyIter (.ref d)) Q E s := by
  obtain ⟨o, e1, e2, e3⟩ := m
  have hT : s.TypeIs (.ref d) "dict" := ⟨o, e1, e2.1⟩
  refine wpAny_pyIter_slot hT F.slot_dict_iter (wpAny_call_entry F.slot_dict_iter hT F.entry_dict_iter ?_ (F.args_dict_iter_1 _))
  unfold Builtin.«dict.__iter__» Builtin.Dict.dictSlotNone
  refine wpAny_bind (wpAny_bind (wpAny_notOrdered_dict hT (wpAny_pure ?_)))
  show wpAny _ _ (Builtin.Dict.showsAll d >>= _) _ _ s
  unfold Builtin.Dict.showsAll
  rw [if_neg (by rw [far]; exact Bool.false_ne_true)]
  refine wpAny_bind (wpAny_pure (wpAny_bind (wpAny_dictEntries e1 e3 (wpAny_bind (wpAny_dictEpoch e1 e3 (wpAny_bind (wpAny_newObj_type (wpAny_pure ?_))))))))
  exact ⟨_, rfl, "dict_keyiterator", _, ⟨_, Heap.get?_push_size _ rfl, rfl⟩, F.slot_dict_keyiterator_next.lookup, by simpa [rawInt] using q⟩
theorem es_next {Q : Option Value → Shared → Prop} (hit : s.heap.IsKeyIter it d i es.size ep) (m : EsAt s.heap d es ep) (hi : i < es.size)
    (q : ∀ h', h'.IsKeyIter it d (i + 1) es.size ep → Heap.SameBut it s.heap h' → Q (some es[i].key) { s with heap := h' }) : wpAny (model prog w) A (pyNext (.ref it)) Q E s := by
  obtain ⟨o, ho, hc, hd⟩ := id hit
  obtain ⟨od, e1, e2, e3⟩ := m
  have own : ¬ (Builtin.Dict_items.ownsTuple "dict_keyiterator" = true) := by decide
  unfold pyNext
  refine wpAny_bind (wpAny_attempt (wpAny_callSpecial?_slot (name := Str.ofString "__next__") hit.typeIs F.slot_dict_keyiterator_next (wpAny_call_entry F.slot_dict_keyiterator_next hit.typeIs F.entry_dict_keyiterator_next ?_ (F.args_dict_keyiterator_next_1 _))))
  refine wpAny_bind (wpAny_pure (wpAny_bind (wpAny_bind (wpAny_bind (wpAny_typeNameOfWhole_keyiter hit.typeIs (wpAny_pure (wpAny_bind (wpAny_fieldsOf ho hd ?_))))))))
  rw [if_neg own]
  show wpAny _ _ (if (Value.ref d == Value.none) = true then _ else _) _ _ s
  rw [if_neg (show ¬ ((Value.ref d == Value.none) = true) from Bool.false_ne_true)]
  refine wpAny_bind (wpAny_pure (wpAny_bind (wpAny_dictEntries e1 e3 ?_)))
  rw [if_neg (by simp)]
  refine wpAny_bind (wpAny_pure (wpAny_bind (wpAny_dictEpoch e1 e3 ?_)))
  rw [if_neg (by simp)]
  refine wpAny_pure ?_
  have neg : ¬ ((i : Int) < 0) := by omega
  simp only [neg, if_false, Int.toNat_natCast, Array.getElem?_eq_getElem hi]
  refine wpAny_bind (wpAny_bind (wpAny_typeNameOfWhole_keyiter hit.typeIs (wpAny_pure (wpAny_bind (wpAny_isOneOf_keyiter hit.typeIs ?_)))))
  show wpAny _ _ (setField (.ref it) 1 (rawInt ((i : Int) + 1)) >>= _) _ _ s
  refine wpAny_bind (wpAny_setField ho hd (by simp) ?_)
  have next : (s.heap.update it (Obj.mapFields (·.setIfInBounds 1 (rawInt ((i : Int) + 1))))).IsKeyIter it d (i + 1) es.size ep := by
    refine ⟨_, Heap.get?_update_self _ ho (Obj.isFreed_of_fields (Obj.data_mapFields hd _)), (Obj.cls_mapFields ..).trans hc, ?_⟩
    rw [Obj.data_mapFields hd]
    simp [rawInt]
  refine wpAny_bind (wpAny_holding (wpAny_bind (wpAny_isOneOf_keyiter (s := { s with heap := s.heap.update it (Obj.mapFields (·.setIfInBounds 1 (rawInt ((i : Int) + 1)))) }) next.typeIs ?_)))
  show wpAny _ _ (pure es[i].key) _ _ _
  exact wpAny_pure (wpAny_pure ⟨_, rfl, wpAny_pure (q _ next (Heap.SameBut.update ..))⟩)
theorem es_end {Q : Option Value → Shared → Prop} (hh : A.handled = none) (hit : s.heap.IsKeyIter it d i es.size ep) (m : EsAt s.heap d es ep) (hi : es.size ≤ i)
    (q : ∀ h', Heap.ExtBut it s.heap h' → Q none { s with heap := h' }) : wpAny (model prog w) A (pyNext (.ref it)) Q E s := by
  obtain ⟨o, ho, hc, hd⟩ := id hit
  obtain ⟨od, e1, e2, e3⟩ := m
  have own : ¬ (Builtin.Dict_items.ownsTuple "dict_keyiterator" = true) := by decide
  unfold pyNext
  refine wpAny_bind (wpAny_attempt (wpAny_callSpecial?_slot (name := Str.ofString "__next__") hit.typeIs F.slot_dict_keyiterator_next (wpAny_call_entry F.slot_dict_keyiterator_next hit.typeIs F.entry_dict_keyiterator_next ?_ (F.args_dict_keyiterator_next_1 _))))
  refine wpAny_bind (wpAny_pure (wpAny_bind (wpAny_bind (wpAny_bind (wpAny_typeNameOfWhole_keyiter hit.typeIs (wpAny_pure (wpAny_bind (wpAny_fieldsOf ho hd ?_))))))))
  rw [if_neg own]
  show wpAny _ _ (if (Value.ref d == Value.none) = true then _ else _) _ _ s
  rw [if_neg (show ¬ ((Value.ref d == Value.none) = true) from Bool.false_ne_true)]
  refine wpAny_bind (wpAny_pure (wpAny_bind (wpAny_dictEntries e1 e3 ?_)))
  rw [if_neg (by simp)]
  refine wpAny_bind (wpAny_pure (wpAny_bind (wpAny_dictEpoch e1 e3 ?_)))
  rw [if_neg (by simp)]
  refine wpAny_pure ?_
  have neg : ¬ ((i : Int) < 0) := by omega
  simp only [neg, if_false, Int.toNat_natCast, Array.getElem?_eq_none hi]
  refine wpAny_bind (wpAny_bind (wpAny_typeNameOfWhole_keyiter hit.typeIs (wpAny_pure ?_)))
  show wpAny _ _ (setField (.ref it) 0 .none >>= _) _ _ s
  refine wpAny_bind (wpAny_setField ho hd (by simp) ?_)
  show wpAny _ _ (newExc (.type "StopIteration") [] >>= _) _ _ _
  refine wpAny_bind ?_
  simp only [newExc, newTuple]
  refine wpAny_bind (wpAny_newObj_type (wpAny_bind (m := firstArgMember _ _) (wpAny_of_eq (a := Value.none) (by first | rfl | (simp only [firstArgMember]; rfl)) (wpAny_newObj_type ?_ (by size_fits)))) (by size_fits))
  simp only [raiseNew]
  refine wpAny_bind (wpAny_handled ?_)
  rw [show A.in1.handled = none from hh]
  refine wpAny_bind (wpAny_pure (wpAny_throw ?_))
  refine wpAny_bind (wpAny_isInstance (T := "StopIteration") (b := true) ⟨_, Heap.get?_push_size _ rfl, rfl⟩ isSubtype_stop ?_)
  exact wpAny_pure (q _ (((Heap.SameBut.update ..).extBut.push _).push _))
theorem es_walks (hh : A.handled = none) (I d : Addr) (hne : d ≠ I) (es : Array DictEntry) (ep : Nat) :
    Walks prog w A I [I, d] [I] es.size (fun i v => ∃ e, es[i]? = some e ∧ v = e.key) (fun i h => h.IsKeyIter I d i es.size ep ∧ EsAt h d es ep) where
  sub := fun b hb => by simp at hb; simp [hb]
  frame := fun _ _ _ st hk => ⟨st.1.at fun o e => hk I (by simp) o e, st.2.on fun o e => hk d (by simp) o e⟩
  item := fun i s Q E hi st hQ => by
    refine es_next st.1 st.2 hi fun h' n' hs => hQ _ h' s.toks ⟨es[i], by simp [hi], rfl⟩ ⟨n', st.2.on fun o e => hs.extBut d o hne e⟩ fun b o hb e => hs.extBut b o (fun h => hb (by simp [h])) e
  done := fun s Q E st hQ => es_end hh st.1 st.2 (Nat.le_refl _) fun h' he' => hQ h' s.toks fun b o hb e => he' b o (fun h => hb (by simp [h])) e
  self := fun _ _ _ _ st hQ => wpAny_pyIter_keyiter st.1 hQ
theorem es_src (far : (d == sysModules) = false) : KdlSrc prog w "dict" d d es.size (fun i v => ∃ e, es[i]? = some e ∧ v = e.key) (fun h => EsAt h d es ep) where
  type := fun _ m => let ⟨o, e1, e2, _⟩ := m; ⟨o, e1, e2.1⟩
  there := fun _ m => let ⟨o, e1, _⟩ := m; ⟨Heap.lt_size e1, Heap.lt_size e1⟩
  keep := fun _ _ m hk => m.on fun o e => hk d (.inl rfl) o e
  notList := by decide
  notTuple := by decide
  hint := fun _ _ _ _ m hq => kdl_hint_dict (let ⟨o, e1, e2, _⟩ := m; ⟨o, e1, e2.1⟩) hq
  iter := fun _ _ hh m => ⟨_, _, (fun _ _ hq => es_iter far m hq), es_walks hh _ d (let ⟨o, e1, _⟩ := m; Nat.ne_of_lt (Heap.lt_size e1)) es ep, ⟨⟨_, Heap.get?_push_size _ rfl, rfl, rfl⟩, m.on fun o e => Heap.get?_push_of_some _ e⟩⟩
end
end L2
namespace L2
open PySem PySem.Spec PySem.W PyProof.Rows
section
variable {X : Cx} {pins : List (Addr × Obj)} {σ : L2.St} {H : Hp} {s : Shared}
theorem run_in {k : Nat} {f : Addr} {fd : FuncData} {ps : List Str} {sp : Sp} {us : List Value} {vs : List V} {Q : VK} {A : Around} {E : Value → Shared → Prop} (F : FnOk X.prog X.w X.K X.mg X.base CX0 k f fd ps sp) (hr : Room k A) (hf : A.frames = X.A.frames)
    (hb : Binds X.K fd ps []) (I : Inv X pins σ H s) (r : Vals vs us) (h : sp vs H Q fun _ _ _ => False) : wpAny (model X.prog X.w) A (call (.ref f) us) (EP X pins σ Q) E s := by
  have e0 := I.env0
  have hl : us.length = ps.length := by rw [← r.length]; exact F.len _ _ _ _ h
  have hb' := hb s us I.kIn (by rw [List.append_nil]; exact hl)
  rw [List.append_nil] at hb'
  refine wpAny_call (codeAny_mono (F.run A X.stack s H ⟨us, []⟩ us vs Q _ hr ⟨hf.trans e0.frames, e0.mod, e0.bs, e0.bsz, e0.funs, e0.frf, e0.hok, e0.bare⟩ hb' r h) fun r s' hq => ?_)
  cases r with
  | error e => exact False.elim hq
  | ok fl =>
    cases fl with
    | ret u => exact I.after hq
    | next => exact False.elim hq
    | brk => exact False.elim hq
    | cont => exact False.elim hq
theorem lst_at {a : Addr} {xs : List V} (I : Inv X pins σ H s) (h : H a = some (.lst xs)) : ∃ (its : List Value) (n : Nat), Vals xs its ∧ s.heap.get? a = some (seqObj "list" its.toArray n) ∧ xs.length ≤ sizeLine := by
  obtain ⟨z, its, n, r, e⟩ := (show ObjOk X.prog X.w H s.heap a (.lst xs) from I.hok a _ h)
  exact ⟨its, n, r, e, z⟩
theorem lst_set {a : Addr} {xs ys : List V} {its its2 : List Value} {n t' : Nat} (I : Inv X pins σ H s) (h : H a = some (.lst xs)) (e : s.heap.get? a = some (seqObj "list" its.toArray n)) (r : Vals ys its2) (z : ys.length ≤ sizeLine) :
    Inv X pins σ (upd H a (.lst ys)) { s with heap := s.heap.update a (Obj.mapSeq fun _ => its2.toArray), toks := t' } := by
  obtain ⟨c, hc⟩ : ∃ c, (s.heap.update a (Obj.mapSeq fun _ => its2.toArray)).get? a = some (seqObj "list" its2.toArray c) := ⟨_, get?_update_seq e fun _ => its2.toArray⟩
  exact I.write (x := a) (e := a) (by rw [h]; exact True.intro) (.inl rfl) (fun b q hb z => ((Heap.SameBut.update s.heap a _).2 b hb).trans z) ⟨_, hc⟩ ⟨z, its2, c, r, hc⟩
theorem sqT_updA {K : PySem.W.Frag} {H : Hp} {a r : Addr} {o : HO} {vs : List V} (n1 : ∀ xs, H a ≠ some (.tup xs)) (n2 : ∀ q xs, H a ≠ some (.frz q (.tup xs))) (h : SqT K H r vs) : SqT K (upd H a o) r vs := by
  rcases h with (h | ⟨q, h⟩) | h
  · exact .inl (.inl (by rw [upd_ne (fun z => n1 _ (z ▸ h))]; exact h))
  · exact .inl (.inr ⟨q, by rw [upd_ne (fun z => n2 _ _ (z ▸ h))]; exact h⟩)
  · exact .inr h
mutual
theorem DatAt.updA {K : PySem.W.Frag} {H : Hp} {a : Addr} {o : HO} (n1 : ∀ xs, H a ≠ some (.tup xs)) (n2 : ∀ q xs, H a ≠ some (.frz q (.tup xs))) : ∀ {v : V} {d : Dt}, DatAt K H v d → DatAt K (upd H a o) v d
  | v, .non, h => by simpa [DatAt] using h
  | v, .int i, h => by simpa [DatAt] using h
  | v, .str i, h => by simpa [DatAt] using h
  | v, .tup ds, h => by
    obtain ⟨r, vs, rfl, h1, h2⟩ := h.un
    exact .tup (sqT_updA n1 n2 h1) (DatsAt.updA n1 n2 h2)
theorem DatsAt.updA {K : PySem.W.Frag} {H : Hp} {a : Addr} {o : HO} (n1 : ∀ xs, H a ≠ some (.tup xs)) (n2 : ∀ q xs, H a ≠ some (.frz q (.tup xs))) : ∀ {vs : List V} {ds : List Dt}, DatsAt K H vs ds → DatsAt K (upd H a o) vs ds
  | vs, [], h => by
    rw [h.un0]
    exact .nil
  | vs, d :: ds, h => by
    obtain ⟨v, r, rfl, h1, h2⟩ := h.un
    exact .cons (DatAt.updA n1 n2 h1) (DatsAt.updA n1 n2 h2)
end
def AskOk (X : Cx) (pins : List (Addr × Obj)) (σ : L2.St) (A : Around) (ds rs : List Dt) (lt : Dt → Dt → Bool) : Prop :=
  ∃ κ : SortKind, ∀ (H' : Hp) (s' : Shared) (ks : List V) (kits : List Value), Inv X pins σ H' s' → DatsAt X.K H' ks rs → Vals ks kits → 2 ≤ ds.length →
    (∀ Q : SortKind → Shared → Prop, Q κ s' → wpAny (model X.prog X.w) A (keyKind' kits.toArray) Q (fun _ _ => False) s') ∧
    ∀ i j (C : Bool → Shared → Prop), i < ds.length → j < ds.length → C (lt (ds.getD i .non) (ds.getD j .non)) s' → kas_ask X.prog X.w A κ kits i j C s'
def But (a : Addr) (H H' : Hp) : Prop := ∀ b o, b ≠ a → H b = some o → H' b = some o
theorem lsortK {A : Around} {l f : Addr} {fd : FuncData} {px : Str} {sp : Sp} {k : Nat} {vs : List V} {ds : List Dt} {rk : Dt → Dt} {lt : Dt → Dt → Bool} {R : PySem.Fin → Shared → Prop} {E : Value → Shared → Prop}
    (F : FnOk X.prog X.w X.K X.mg X.base CX0 k f fd [px] sp) (hr : Room k A) (hf : A.frames = X.A.frames) (hb : Binds X.K fd [px] [])
    (hsp : ∀ (H' : Hp) (v : V) (d : Dt) (Q : VK), d ∈ ds → DatAt X.K H' v d → (∀ u H'', Same H' H'' → DatAt X.K H'' u (rk d) → Q u H'') → sp [v] H' Q fun _ _ _ => False)
    (I : Inv X pins σ H s) (hl : H l = some (.lst vs)) (hd : DatsAt X.K H vs ds) (few : ds.length < 64)
    (ask : AskOk X pins σ A ds (ds.map rk) lt)
    (ord : Lo ds.length fun i j => lt (ds.getD i .non) (ds.getD j .non))
    (done : ∀ (H' : Hp) (s' : Shared) (p : List Nat), Inv X pins σ H' s' → But l H H' → H' l = some (.lst (p.map fun i => vs.getD i .non)) → p.Perm (List.range ds.length) → (p.map fun i => ds.getD i .non).Pairwise (fun a b => lt a b = true) → R (.done (.ret .none)) s') :
    wpAny (model X.prog X.w) A (Builtin.«list.sort» ⟨[.ref l], [(Str.ofString "key", .ref f)]⟩) R E s := by
  obtain ⟨us, n0, rv, st0, vz⟩ := lst_at I hl
  have len1 := rv.length
  have len2 := hd.length
  have line : us.length ≤ sizeLine := by rw [← len1]; exact vz
  rw [ksk_t1]
  unfold ksk_tree
  refine wpAny_bind (listItems_at st0 rfl (wpAny_bind (listUpdate_at st0 rfl ?_ (by rw [List.size_toArray]; exact line) (Nat.zero_le _))))
  obtain ⟨c1, st1⟩ : ∃ c1, (s.heap.update l (Obj.mapSeq fun _ => (#[] : Array Value))).get? l = some (seqObj "list" #[] c1) := ⟨_, get?_update_seq st0 fun _ => #[]⟩
  have I1 : Inv X pins σ (upd H l (.ext fun h => h.get? l = some (seqObj "list" #[] c1))) { s with heap := s.heap.update l (Obj.mapSeq fun _ => (#[] : Array Value)) } := by
    refine I.write (x := l) (e := l) (t' := s.toks) (by rw [hl]; exact True.intro) (.inl rfl) (fun b q hb z => ((Heap.SameBut.update s.heap l _).2 b hb).trans z) ⟨_, st1⟩ ⟨st1, ⟨_, st1⟩, fun h1 h2 q1 q2 => q2 _ q1⟩
  have hd1 : DatsAt X.K (upd H l (.ext fun h => h.get? l = some (seqObj "list" #[] c1))) vs ds := hd.updA (fun xs z => by rw [hl] at z; cases z) (fun q xs z => by rw [hl] at z; cases z)
  have b1 : But l H (upd H l (.ext fun h => h.get? l = some (seqObj "list" #[] c1))) := fun b o ne e => by rw [upd_ne ne]; exact e
  have at1 : (upd H l (.ext fun h => h.get? l = some (seqObj "list" #[] c1))) l = some (.ext fun h => h.get? l = some (seqObj "list" #[] c1)) := upd_same
  generalize upd H l (.ext fun h => h.get? l = some (seqObj "list" #[] c1)) = H1 at I1 hd1 b1 at1
  generalize s.heap.update l (Obj.mapSeq fun _ => (#[] : Array Value)) = g1 at I1 st1
  refine wpAny_bind (seqEpoch_at st1 rfl (wpAny_bind (wpAny_newTuple (wpAny_bind (wpAny_newList ?_ (Nat.zero_le _))) (by simpa using line))))
  refine wpAny_holding ?_
  have I2 : Inv X pins σ H1 { s with heap := g1.push (seqObj "tuple" us.toArray 0) } := I1.kept (t' := s.toks) fun b o q => Heap.get?_push_of_some _ q
  have kfree : H1 (g1.push (seqObj "tuple" us.toArray 0)).objs.size = none := I2.hok.fresh (Nat.le_refl _)
  have I3 := I2.laid (t' := s.toks) (a := (g1.push (seqObj "tuple" us.toArray 0)).objs.size) (o := .lst []) (h' := (g1.push (seqObj "tuple" us.toArray 0)).push (seqObj "list" #[] 0)) (fun b o q => Heap.get?_push_of_some _ q) (Nat.le_refl _) ⟨Nat.zero_le _, [], 0, .nil, Heap.get?_push_size _ rfl⟩
  have kat : (upd H1 (g1.push (seqObj "tuple" us.toArray 0)).objs.size (.lst [])) (g1.push (seqObj "tuple" us.toArray 0)).objs.size = some (.lst []) := upd_same
  have nkl : l ≠ (g1.push (seqObj "tuple" us.toArray 0)).objs.size := ne_of_none at1 kfree
  have S3 : Same H1 (upd H1 (g1.push (seqObj "tuple" us.toArray 0)).objs.size (.lst [])) := .upd kfree
  have hd3 := hd1.same S3
  have at3 := S3 _ _ at1
  have b3 : But l H (upd H1 (g1.push (seqObj "tuple" us.toArray 0)).objs.size (.lst [])) := fun b o ne e => S3 _ _ (b1 b o ne e)
  have fr3 : ∀ b o, H b = some o → b ≠ l → b ≠ (g1.push (seqObj "tuple" us.toArray 0)).objs.size := fun b o e ne => ne_of_none (b1 b o ne e) kfree
  show wpAny _ _ (ksk_rest l (.ref f) false us.toArray c1 (.ref (g1.push (seqObj "tuple" us.toArray 0)).objs.size)) R E { s with heap := (g1.push (seqObj "tuple" us.toArray 0)).push (seqObj "list" #[] 0) }
  generalize upd H1 (g1.push (seqObj "tuple" us.toArray 0)).objs.size (.lst []) = H3 at I3 kat hd3 at3 b3
  generalize (g1.push (seqObj "tuple" us.toArray 0)).push (seqObj "list" #[] 0) = g3 at I3
  generalize (g1.push (seqObj "tuple" us.toArray 0)).objs.size = kS at I3 kat nkl fr3
  clear I1 I2 kfree st1 S3 hd1 b1 at1 st0
  unfold ksk_rest
  refine wpAny_bind (wpAny_rule ?_)
  rw [List.forIn_toArray]
  refine wpAny_bind (wpAny_forIn_list _ (fun rest _ s' => ∃ H' dn dr ks vr, Inv X pins σ H' s' ∧ But kS H3 H' ∧ H' kS = some (.lst ks) ∧ DatsAt X.K H' ks (dn.map rk) ∧ ds = dn ++ dr ∧ DatsAt X.K H' vr dr ∧ Vals vr rest) _ ?_ ?_ _ _
    ⟨H3, [], ds, [], vs, I3, fun _ _ _ e => e, kat, .nil, rfl, hd3, rv⟩)
  · rintro x rest ⟨⟩ s' ⟨H', dn, dr, ks, vr, I', b', k', dk, e, dv, r'⟩
    cases r' with
    | @cons v _ vr' _ rx r' =>
      cases dr with
      | nil => exact absurd dv.un0 (by simp)
      | cons d dr =>
        obtain ⟨v', vr'', e', d1, d2⟩ := dv.un
        cases e'
        have dmem : d ∈ ds := by rw [e]; exact List.mem_append_right _ (List.mem_cons_self ..)
        refine wpAny_bind (wpAny_attempt (wpAny_mono (run_in (E := fun _ _ => False) (Q := fun u H'' => Same H' H'' ∧ DatAt X.K H'' u (rk d)) F hr hf hb I' (.cons rx .nil) (hsp H' v d _ dmem d1 fun u H'' a b => ⟨a, b⟩)) (fun u s'' q => ?_) fun _ _ z => z.elim))
        obtain ⟨w', H'', I'', ru, S'', dw⟩ := q
        obtain ⟨kits, n, rk', st, kz⟩ := lst_at I'' (S'' _ _ k')
        have kl := dk.length
        have dl : (dn ++ d :: dr).length < 64 := by rw [← e]; exact few
        rw [List.length_map] at kl
        rw [List.length_append] at dl
        have kl2 := rk'.length
        have s64 : (64 : Nat) ≤ sizeLine := by decide
        dsimp only
        refine wpAny_bind (listUpdate_at st rfl (wpAny_pure ?_) (by rw [List.size_toArray]; omega) (by rw [Array.size_push, List.size_toArray]; omega))
        obtain ⟨c, hc⟩ : ∃ c, (s''.heap.update kS (Obj.mapSeq (·.push u))).get? kS = some (seqObj "list" (kits ++ [u]).toArray c) := ⟨_, by rw [← List.push_toArray]; exact get?_update_seq st (·.push u)⟩
        have n1 : ∀ xs, H'' kS ≠ some (.tup xs) := fun xs z => by rw [S'' _ _ k'] at z; cases z
        have n2 : ∀ q xs, H'' kS ≠ some (.frz q (.tup xs)) := fun q xs z => by rw [S'' _ _ k'] at z; cases z
        refine ⟨upd H'' kS (.lst (ks ++ [w'])), dn ++ [d], dr, ks ++ [w'], vr', ?_, fun b o ne q => ?_, upd_same, ?_, by rw [e]; simp, (d2.same S'').updA n1 n2, r'⟩
        · exact I''.write (x := kS) (e := kS) (t' := s''.toks) (by rw [S'' _ _ k']; exact True.intro) (.inl rfl) (fun b q hb z => ((Heap.SameBut.update s''.heap kS _).2 b hb).trans z) ⟨_, hc⟩
            ⟨by rw [List.length_append]; show ks.length + 1 ≤ _; omega, kits ++ [u], c, rk'.append (.cons ru .nil), hc⟩
        · rw [upd_ne ne]
          exact S'' _ _ (b' b o ne q)
        · rw [List.map_append]
          exact ((dk.same S'').append (.cons dw .nil)).updA n1 n2
  rintro ⟨⟩ s' ⟨H', dn, dr, ks, vr, I', b', k', dk, e, dv, r'⟩
  have vr0 : vr = [] := by cases r'; rfl
  subst vr0
  have dr0 : dr = [] := by
    cases dr with
    | nil => rfl
    | cons d dr => obtain ⟨_, _, z, _⟩ := dv.un; cases z
  subst dr0
  rw [List.append_nil] at e
  subst e
  obtain ⟨kits, nk, rk', st, kz⟩ := lst_at I' k'
  have kl := dk.length
  rw [List.length_map] at kl
  have kl2 := rk'.length
  refine wpAny_bind (listItems_at st rfl ?_)
  have atl : H' l = some (.ext fun h => h.get? l = some (seqObj "list" #[] c1)) := b' _ _ nkl at3
  have stl : s'.heap.get? l = some (seqObj "list" #[] c1) := (show ObjOk X.prog X.w H' s'.heap l (.ext _) from I'.hok l _ atl).1
  have s64 : (64 : Nat) ≤ sizeLine := by decide
  have vals_pick : ∀ p : List Nat, (∀ i ∈ p, i < vs.length) → Vals (p.map fun i => vs.getD i .non) (p.map fun i => us.getD i Value.none) := by
    intro p all
    induction p with
    | nil => exact .nil
    | cons i p ih =>
      have hi := all i (List.mem_cons_self ..)
      obtain ⟨u, eu, ru⟩ := rv.get (i := i) (x := vs[i]) (List.getElem?_eq_getElem hi)
      refine .cons ?_ (ih fun k hk => all k (List.mem_cons_of_mem _ hk))
      show RelV (vs.getD i .non) (us.getD i Value.none)
      rw [getD_of eu, getD_of (List.getElem?_eq_getElem hi)]
      exact ru
  have tail : ∀ (st' : SortSt) (p : List Nat), (arrOf st').map (·.2) = (p.map fun i => us.getD i Value.none).toArray → failedOf st' = none → p.Perm (List.range ds.length) → (p.map fun i => ds.getD i .non).Pairwise (fun a b => lt a b = true) →
      wpAny (model X.prog X.w) A (ksk_tail l false c1 (.ref kS) st') R E s' := by
    intro st' p hout hfail hp hsort
    have pl : p.length = ds.length := by rw [hp.length_eq, List.length_range]
    have I4 := lst_set (ys := []) (its2 := []) (t' := s'.toks) I' k' st .nil (Nat.zero_le _)
    have stl4 : (s'.heap.update kS (Obj.mapSeq fun _ => ([] : List Value).toArray)).get? l = some (seqObj "list" #[] c1) := ((Heap.SameBut.update s'.heap kS _).2 l nkl).trans stl
    have atl4 : (upd H' kS (.lst [])) l = some (.ext fun h => h.get? l = some (seqObj "list" #[] c1)) := by rw [upd_ne nkl]; exact atl
    unfold ksk_tail
    dsimp only
    rw [hout, if_neg Bool.false_ne_true]
    refine wpAny_bind (listUpdate_at st rfl (wpAny_bind (wpAny_letGo (wpAny_bind (seqEpoch_at stl4 rfl (wpAny_bind (listUpdate_at stl4 rfl ?_ (Nat.zero_le _) ?_)))))) (by rw [List.size_toArray]; omega) (Nat.zero_le _))
    · rw [hfail]
      simp only [bne_self_eq_false, Bool.false_eq_true, if_false]
      obtain ⟨c5, hc5⟩ : ∃ c5, ((s'.heap.update kS (Obj.mapSeq fun _ => ([] : List Value).toArray)).update l (Obj.mapSeq fun _ => (p.map fun i => us.getD i Value.none).toArray)).get? l = some (seqObj "list" (p.map fun i => us.getD i Value.none).toArray c5) := ⟨_, get?_update_seq stl4 fun _ => _⟩
      have all : ∀ i ∈ p, i < vs.length := fun i hi => by
        have := List.mem_range.mp (hp.mem_iff.mp hi)
        omega
      refine wpAny_pure (done (upd (upd H' kS (.lst [])) l (.lst (p.map fun i => vs.getD i .non))) _ p ?_ (fun b o ne q => ?_) upd_same hp hsort)
      · exact I4.write (x := l) (e := l) (t' := s'.toks) (by rw [atl4]; exact True.intro) (.inl rfl) (fun b q hb z => ((Heap.SameBut.update _ l _).2 b hb).trans z) ⟨_, hc5⟩ ⟨by rw [List.length_map]; omega, _, c5, vals_pick p all, hc5⟩
      · rw [upd_ne ne, upd_ne (fr3 b o q ne)]
        exact b' b o (fr3 b o q ne) (b3 b o ne q)
    · rw [List.size_toArray, List.length_map]
      omega
  unfold ksk_end
  dsimp only
  rw [if_neg Bool.false_ne_true]
  by_cases h2 : us.toArray.size < 2
  · rw [if_pos h2, if_pos h2]
    refine wpAny_bind (wpAny_pure ?_)
    rw [StateT.run_pure]
    refine wpAny_bind (wpAny_pure ?_)
    dsimp only
    rw [List.size_toArray] at h2
    refine tail _ (List.range ds.length) ?_ rfl (List.Perm.refl _) ?_
    · rw [if_neg Bool.false_ne_true]
      show (kits.toArray.zip us.toArray).map (·.2) = _
      apply Array.toList_inj.mp
      refine List.ext_getElem (by simp; omega) fun i k1 k2 => ?_
      have k3 : i < us.length := by
        have : i < ds.length := by simpa using k2
        omega
      simp [List.getD_eq_getElem?_getD, k3]
    · cases hds : ds with
      | nil => exact .nil
      | cons d r =>
        cases r with
        | nil => exact List.pairwise_singleton ..
        | cons d2 r => rw [hds] at len2; simp at len2; omega
  · rw [if_neg h2, if_neg h2]
    rw [List.size_toArray] at h2
    obtain ⟨κ, hκ⟩ := ask
    obtain ⟨kind, cmp⟩ := hκ H' s' ks kits I' dk rk' (by omega)
    have un : us.length = ds.length := by omega
    refine wpAny_bind (wpAny_mono (kind (fun k z => k = κ ∧ z = s') ⟨rfl, rfl⟩) (fun k z hk => ?_) fun _ _ x => x.elim)
    obtain ⟨rfl, rfl⟩ := hk
    have tree : (kas_sort us.length).kasWp (kas_ask X.prog X.w A k kits) (fun p z' => (Pl us.length p ∧ As (fun i j => lt (ds.getD i .non) (ds.getD j .non)) p us.length) ∧ z' = z) z :=
      (tr_sort (N := us.length) (by omega)).wpR (fun i j => lt (ds.getD i .non) (ds.getD j .non)) (fun i j C hi hj hC => cmp i j C (by omega) (by omega) hC) fun hp => ⟨⟨hp, run_sort (by rw [un]; exact ord) (by omega)⟩, rfl⟩
    rw [if_neg Bool.false_ne_true]
    refine wpAny_bind (wpAny_mono (kat_run (E := E) (Q := fun st z' => ∃ p : Array Nat, arrOf st = p.map (kas_item (kits.toArray.zip us.toArray)) ∧ failedOf st = none ∧ (Pl us.length p ∧ As (fun i j => lt (ds.getD i .non) (ds.getD j .non)) p us.length) ∧ z' = z) (by omega) (by omega) (by omega)
      (fun p st z' _ q1 q2 q3 => ⟨p, q1, q2, q3⟩) tree) ?_ fun _ _ x => x)
    rintro ⟨⟨⟩, st'⟩ z' ⟨p, q1, q2, ⟨q3, q4⟩, rfl⟩
    dsimp only
    have pp : p.toList.Perm (List.range us.length) := by simpa using Array.perm_iff_toList_perm.mp q3
    refine tail st' p.toList (kat_snds (by omega) q1) q2 (by rw [← un]; exact pp) ?_
    rw [List.pairwise_map, List.pairwise_iff_getElem]
    intro i j hi hj hij
    have ps : p.size = us.length := Pl.size q3
    have hj' : j < p.size := by simpa using hj
    have := q4 i j hij (by omega)
    have gi : gp p i = p.toList[i] := by
      show p.getD i 0 = _
      simp [Array.getD, show i < p.size by omega]
    have gj : gp p j = p.toList[j] := by
      show p.getD j 0 = _
      simp [Array.getD, hj']
    rw [gi, gj] at this
    exact this
end
end L2
namespace L2
open PySem PySem.Spec PySem.W PyProof.Rows
mutual
def Dt.lt : Dt → Dt → Bool
  | .non, .non => false
  | .non, .int _ => true
  | .non, .str _ => true
  | .non, .tup _ => true
  | .int _, .non => false
  | .int n, .int m => decide (n < m)
  | .int _, .str _ => true
  | .int _, .tup _ => true
  | .str _, .non => false
  | .str _, .int _ => false
  | .str x, .str y => decide (x.cps.toList < y.cps.toList)
  | .str _, .tup _ => true
  | .tup _, .non => false
  | .tup _, .int _ => false
  | .tup _, .str _ => false
  | .tup a, .tup b => Dt.lts a b
def Dt.lts : List Dt → List Dt → Bool
  | [], [] => false
  | [], _ :: _ => true
  | _ :: _, [] => false
  | a :: as, b :: bs => if Dt.beq a b = true then Dt.lts as bs else Dt.lt a b
end
theorem str_ext {x y : Str} (h : x.cps.toList = y.cps.toList) : x = y := by
  cases x
  cases y
  simp only [Str.mk.injEq]
  exact Array.toList_inj.mp h
theorem Dt.lts_cons (a b : Dt) (as bs : List Dt) : Dt.lts (a :: as) (b :: bs) = if Dt.beq a b = true then Dt.lts as bs else Dt.lt a b := by simp [Dt.lts]
mutual
theorem Dt.lt_asym : ∀ a b : Dt, Dt.lt a b = true → Dt.lt b a = false
  | .non, .non, h => by simp [Dt.lt] at h
  | .non, .int _, _ => by simp [Dt.lt]
  | .non, .str _, _ => by simp [Dt.lt]
  | .non, .tup _, _ => by simp [Dt.lt]
  | .int _, .non, h => by simp [Dt.lt] at h
  | .int n, .int m, h => by
    simp only [Dt.lt, decide_eq_true_eq, decide_eq_false_iff_not] at h ⊢
    omega
  | .int _, .str _, _ => by simp [Dt.lt]
  | .int _, .tup _, _ => by simp [Dt.lt]
  | .str _, .non, h => by simp [Dt.lt] at h
  | .str _, .int _, h => by simp [Dt.lt] at h
  | .str x, .str y, h => by
    simp only [Dt.lt, decide_eq_true_eq, decide_eq_false_iff_not] at h ⊢
    exact fun z => List.lt_irrefl _ (List.lt_trans h z)
  | .str _, .tup _, _ => by simp [Dt.lt]
  | .tup _, .non, h => by simp [Dt.lt] at h
  | .tup _, .int _, h => by simp [Dt.lt] at h
  | .tup _, .str _, h => by simp [Dt.lt] at h
  | .tup a, .tup b, h => by
    simp only [Dt.lt] at h ⊢
    exact Dt.lts_asym a b h
theorem Dt.lts_asym : ∀ a b : List Dt, Dt.lts a b = true → Dt.lts b a = false
  | [], [], h => by simp [Dt.lts] at h
  | [], _ :: _, _ => by simp [Dt.lts]
  | _ :: _, [], h => by simp [Dt.lts] at h
  | a :: as, b :: bs, h => by
    rw [Dt.lts_cons] at h ⊢
    by_cases e : Dt.beq a b = true
    · rw [if_pos e] at h
      have e' : Dt.beq b a = true := (Dt.beq_iff _ _).mpr ((Dt.beq_iff _ _).mp e).symm
      rw [if_pos e']
      exact Dt.lts_asym as bs h
    · rw [if_neg e] at h
      have e' : ¬ Dt.beq b a = true := fun z => e ((Dt.beq_iff _ _).mpr ((Dt.beq_iff _ _).mp z).symm)
      rw [if_neg e']
      exact Dt.lt_asym a b h
end
mutual
theorem Dt.lt_tri : ∀ a b : Dt, a ≠ b → Dt.lt a b = false → Dt.lt b a = true
  | .non, .non, n, _ => absurd rfl n
  | .non, .int _, _, h => by simp [Dt.lt] at h
  | .non, .str _, _, h => by simp [Dt.lt] at h
  | .non, .tup _, _, h => by simp [Dt.lt] at h
  | .int _, .non, _, _ => by simp [Dt.lt]
  | .int n, .int m, ne, h => by
    simp only [Dt.lt, decide_eq_true_eq, decide_eq_false_iff_not] at h ⊢
    have : n ≠ m := fun z => ne (by rw [z])
    omega
  | .int _, .str _, _, h => by simp [Dt.lt] at h
  | .int _, .tup _, _, h => by simp [Dt.lt] at h
  | .str _, .non, _, _ => by simp [Dt.lt]
  | .str _, .int _, _, _ => by simp [Dt.lt]
  | .str x, .str y, ne, h => by
    simp only [Dt.lt, decide_eq_true_eq, decide_eq_false_iff_not] at h ⊢
    rcases Decidable.em (y.cps.toList < x.cps.toList) with z | z
    · exact z
    · exact absurd (str_ext (List.le_antisymm (List.not_lt.mp z) (List.not_lt.mp h))) (fun q => ne (by rw [q]))
  | .str _, .tup _, _, h => by simp [Dt.lt] at h
  | .tup _, .non, _, _ => by simp [Dt.lt]
  | .tup _, .int _, _, _ => by simp [Dt.lt]
  | .tup _, .str _, _, _ => by simp [Dt.lt]
  | .tup a, .tup b, ne, h => by
    simp only [Dt.lt] at h ⊢
    exact Dt.lts_tri a b (fun z => ne (by rw [z])) h
theorem Dt.lts_tri : ∀ a b : List Dt, a ≠ b → Dt.lts a b = false → Dt.lts b a = true
  | [], [], n, _ => absurd rfl n
  | [], _ :: _, _, h => by simp [Dt.lts] at h
  | _ :: _, [], _, _ => by simp [Dt.lts]
  | a :: as, b :: bs, ne, h => by
    rw [Dt.lts_cons] at h ⊢
    by_cases e : Dt.beq a b = true
    · rw [if_pos e] at h
      have e1 := (Dt.beq_iff _ _).mp e
      have e' : Dt.beq b a = true := (Dt.beq_iff _ _).mpr e1.symm
      rw [if_pos e']
      exact Dt.lts_tri as bs (fun z => ne (by rw [z, e1])) h
    · rw [if_neg e] at h
      have e' : ¬ Dt.beq b a = true := fun z => e ((Dt.beq_iff _ _).mpr ((Dt.beq_iff _ _).mp z).symm)
      rw [if_neg e']
      exact Dt.lt_tri a b (fun z => e ((Dt.beq_iff _ _).mpr z)) h
end
mutual
theorem Dt.lt_trans : ∀ a b c : Dt, Dt.lt a b = true → Dt.lt b c = true → Dt.lt a c = true
  | a, .non, _, h, _ => by cases a <;> simp [Dt.lt] at h
  | a, b, .non, _, k => by cases b <;> simp [Dt.lt] at k
  | .non, .int _, .int _, _, _ => by simp [Dt.lt]
  | .non, .int _, .str _, _, _ => by simp [Dt.lt]
  | .non, .int _, .tup _, _, _ => by simp [Dt.lt]
  | .non, .str _, .int _, _, k => by simp [Dt.lt] at k
  | .non, .str _, .str _, _, _ => by simp [Dt.lt]
  | .non, .str _, .tup _, _, _ => by simp [Dt.lt]
  | .non, .tup _, .int _, _, k => by simp [Dt.lt] at k
  | .non, .tup _, .str _, _, k => by simp [Dt.lt] at k
  | .non, .tup _, .tup _, _, _ => by simp [Dt.lt]
  | .int a, .int b, .int c, h, k => by
    simp only [Dt.lt, decide_eq_true_eq] at h k ⊢
    omega
  | .int _, .int _, .str _, _, _ => by simp [Dt.lt]
  | .int _, .int _, .tup _, _, _ => by simp [Dt.lt]
  | .int _, .str _, .int _, _, k => by simp [Dt.lt] at k
  | .int _, .str _, .str _, _, _ => by simp [Dt.lt]
  | .int _, .str _, .tup _, _, _ => by simp [Dt.lt]
  | .int _, .tup _, .int _, _, k => by simp [Dt.lt] at k
  | .int _, .tup _, .str _, _, k => by simp [Dt.lt] at k
  | .int _, .tup _, .tup _, _, _ => by simp [Dt.lt]
  | .str _, .int _, _, h, _ => by simp [Dt.lt] at h
  | .str _, .str _, .int _, _, k => by simp [Dt.lt] at k
  | .str a, .str b, .str c, h, k => by
    simp only [Dt.lt, decide_eq_true_eq] at h k ⊢
    exact List.lt_trans h k
  | .str _, .str _, .tup _, _, _ => by simp [Dt.lt]
  | .str _, .tup _, .int _, _, k => by simp [Dt.lt] at k
  | .str _, .tup _, .str _, _, k => by simp [Dt.lt] at k
  | .str _, .tup _, .tup _, _, _ => by simp [Dt.lt]
  | .tup _, .int _, _, h, _ => by simp [Dt.lt] at h
  | .tup _, .str _, _, h, _ => by simp [Dt.lt] at h
  | .tup _, .tup _, .int _, _, k => by simp [Dt.lt] at k
  | .tup _, .tup _, .str _, _, k => by simp [Dt.lt] at k
  | .tup a, .tup b, .tup c, h, k => by
    simp only [Dt.lt] at h k ⊢
    exact Dt.lts_trans a b c h k
theorem Dt.lts_trans : ∀ a b c : List Dt, Dt.lts a b = true → Dt.lts b c = true → Dt.lts a c = true
  | a, [], _, h, _ => by cases a <;> simp [Dt.lts] at h
  | a, b :: bs, [], _, k => by simp [Dt.lts] at k
  | [], _ :: _, _ :: _, _, _ => by simp [Dt.lts]
  | a :: as, b :: bs, c :: cs, h, k => by
    rw [Dt.lts_cons] at h k ⊢
    by_cases e1 : Dt.beq a b = true
    · have q1 := (Dt.beq_iff _ _).mp e1
      rw [if_pos e1] at h
      by_cases e2 : Dt.beq b c = true
      · rw [if_pos e2] at k
        rw [q1, if_pos e2]
        exact Dt.lts_trans as bs cs h k
      · rw [if_neg e2] at k
        rw [q1, if_neg e2]
        exact k
    · rw [if_neg e1] at h
      by_cases e2 : Dt.beq b c = true
      · have q2 := (Dt.beq_iff _ _).mp e2
        rw [← q2, if_neg e1]
        exact h
      · rw [if_neg e2] at k
        have t := Dt.lt_trans a b c h k
        by_cases e3 : Dt.beq a c = true
        · have q3 := (Dt.beq_iff _ _).mp e3
          rw [← q3] at k
          rw [Dt.lt_asym a b h] at k
          cases k
        · rw [if_neg e3]
          exact t
end
theorem Dt.lt_self (a : Dt) : Dt.lt a a = false := by
  cases h : Dt.lt a a with
  | false => rfl
  | true => rw [Dt.lt_asym a a h] at h; cases h
theorem lo_of {ds : List Dt} (h : ds.Nodup) : Lo ds.length fun i j => Dt.lt (ds.getD i .non) (ds.getD j .non) := by
  refine ⟨fun i j hi hj ne e => Dt.lt_tri _ _ (fun z => ne ?_) e, fun i j k _ _ _ => Dt.lt_trans _ _ _, fun i j _ _ => Dt.lt_asym _ _⟩
  rw [getD_of (List.getElem?_eq_getElem hi), getD_of (List.getElem?_eq_getElem hj)] at z
  exact (List.getElem_inj h).mp z
end L2
namespace L2
open PySem PySem.Spec PySem.W PyProof.Rows
mutual
def Cmp : Dt → Dt → Prop
  | .int _, .int _ => True
  | .str _, .str _ => True
  | .tup a, .tup b => Cmps a b
  | _, _ => False
def Cmps : List Dt → List Dt → Prop
  | a :: as, b :: bs => Cmp a b ∧ (a = b → Cmps as bs)
  | _, _ => True
end
def LexP (X : Cx) (A : Around) (E : Value → Shared → Prop) (fin : Bool) (Q : Value → Shared → Prop) : List (Value × Value) → Shared → Prop
  | [], s => Q (.bool fin) s
  | (x, y) :: r, s => ∃ e, SeqAt.EqAt A s x y e ∧ (e = true → LexP X A E fin Q r s) ∧ (e = false → wpAny (model X.prog X.w) A (richCompare .Lt x y) Q E s)
section
variable {X : Cx} {A : Around} {E : Value → Shared → Prop} {s : Shared} {Q : Value → Shared → Prop}
theorem tupLt_wp {a b : Addr} {oa ob : Obj} {xs ys : List Value} {na nb : Nat} (ha : s.heap.get? a = some oa) (_ca : oa.cls = .type "tuple") (da : oa.data = .seq xs.toArray na) (hb : s.heap.get? b = some ob) (cb : ob.cls = .type "tuple") (db : ob.data = .seq ys.toArray nb)
    (h : LexP X A E (decide (xs.length < ys.length)) Q (xs.zip ys) s) :
    wpAny (model X.prog X.w) A (Builtin.«tuple.__lt__» ⟨[.ref a, .ref b], []⟩) (fun fin s' => ∃ v, fin = .done (.ret v) ∧ Q v s') E s := by
  show wpAny _ _ (isInstance (.ref b) (.type "tuple") >>= _) _ _ s
  refine wpAny_bind (wpAny_isInstance ⟨ob, hb, cb⟩ isSubtype_tuple_tuple ?_)
  rw [if_neg (by simp)]
  refine wpAny_bind (wpAny_tupleItemsOf ha da (wpAny_bind (wpAny_tupleItemsOf hb db (wpAny_bind ?_))))
  refine wpAny_forIn_list _ (fun rest r s' => r.1 = none ∧ s' = s ∧ LexP X A E (decide (xs.length < ys.length)) Q rest s) _ ?_ ?_ _ _ ⟨rfl, rfl, h⟩
  · rintro ⟨x, y⟩ rest r s' ⟨hr, rfl, e, he, h1, h2⟩
    refine wpAny_bind (he _ _ _ _ ?_)
    cases e with
    | true =>
      rw [if_neg (by simp)]
      exact wpAny_pure ⟨rfl, rfl, h1 rfl⟩
    | false =>
      rw [if_pos (by simp)]
      refine wpAny_bind (wpAny_rule (wpAny_bind (wpAny_mono (h2 rfl) (fun v s2 q => ?_) fun _ _ z => z)))
      exact wpAny_bind (wpAny_pure (wpAny_pure (wpAny_pure ⟨v, rfl, q⟩)))
  · rintro ⟨r1, r2⟩ s' ⟨hr, rfl, q⟩
    simp only at hr
    subst hr
    exact wpAny_pure ⟨_, rfl, by simpa [Builtin.Tuple.tupleCompareSizes, LexP] using q⟩
end
section
variable {X : Cx} {pins : List (Addr × Obj)} {σ : L2.St} {H : Hp} {s : Shared}
theorem lex_dat (I : Inv X pins σ H s) {A : Around} {E : Value → Shared → Prop} {Q : Value → Shared → Prop} {n : Nat} (hA : A.units + n < cLine)
    (ih : ∀ (d e : Dt) (x y : V) (u v : Value), d.hgt ≤ n → Cmp d e → DatAt X.K H x d → DatAt X.K H y e → RelV x u → RelV y v → ∀ Q : Value → Shared → Prop, Q (.bool (Dt.lt d e)) s → wpAny (model X.prog X.w) A (richCompare .Lt u v) Q E s) (fin : Bool) :
    ∀ (ds es : List Dt) (vs ws : List V) (us us' : List Value), Dt.hgts ds ≤ n → Cmps ds es → DatsAt X.K H vs ds → DatsAt X.K H ws es → Vals vs us → Vals ws us' → fin = decide (ds.length < es.length) → Q (.bool (Dt.lts ds es)) s → LexP X A E fin Q (us.zip us') s
  | [], es, vs, ws, us, us', _, _, h1, h2, r1, r2, hf, q => by
    have := h1.un0
    subst this
    cases r1
    rw [List.zip_nil_left]
    show Q (.bool fin) s
    cases es with
    | nil => simpa [hf, Dt.lts] using q
    | cons e es => simpa [hf, Dt.lts] using q
  | d :: ds, [], vs, ws, us, us', _, _, h1, h2, r1, r2, hf, q => by
    have := h2.un0
    subst this
    cases r2
    rw [List.zip_nil_right]
    show Q (.bool fin) s
    simpa [hf, Dt.lts] using q
  | d :: ds, e :: es, vs, ws, us, us', hg, hc, h1, h2, r1, r2, hf, q => by
    obtain ⟨v, vr, rfl, d1, d2⟩ := h1.un
    obtain ⟨w', wr, rfl, e1, e2⟩ := h2.un
    have hh : Dt.hgts (d :: ds) = max d.hgt (Dt.hgts ds) := by simp [Dt.hgts]
    rw [hh] at hg
    simp only [Cmps] at hc
    cases r1 with
    | cons ru r1 =>
      cases r2 with
      | cons rw' r2 =>
        rw [List.zip_cons_cons]
        refine ⟨Dt.beq d e, eqAt_dat I n A d e v w' _ _ (by omega) hA d1 e1 ru rw', fun b => ?_, fun b => ?_⟩
        · rw [Dt.lts_cons, if_pos b] at q
          exact lex_dat I hA ih fin ds es vr wr _ _ (by omega) (hc.2 ((Dt.beq_iff _ _).mp b)) d2 e2 r1 r2 (by simpa using hf) q
        · rw [Dt.lts_cons, if_neg (by rw [b]; exact Bool.false_ne_true)] at q
          exact ih d e v w' _ _ (by omega) hc.1 d1 e1 ru rw' Q q
theorem ltAt_dat (I : Inv X pins σ H s) {E : Value → Shared → Prop} : ∀ (n : Nat) (A : Around) (d e : Dt) (x y : V) (u v : Value), d.hgt ≤ n → A.units + 2 * n < cLine → Cmp d e → DatAt X.K H x d → DatAt X.K H y e → RelV x u → RelV y v →
    ∀ Q : Value → Shared → Prop, Q (.bool (Dt.lt d e)) s → wpAny (model X.prog X.w) A (richCompare .Lt u v) Q E s := by
  intro n
  have flat : ∀ (A : Around) (d e : Dt) (x y : V) (u v : Value), d.hgt = 0 → Cmp d e → DatAt X.K H x d → DatAt X.K H y e → RelV x u → RelV y v →
      ∀ Q : Value → Shared → Prop, Q (.bool (Dt.lt d e)) s → wpAny (model X.prog X.w) A (richCompare .Lt u v) Q E s := by
    intro A d e x y u v hg hc h1 h2 r1 r2 Q q
    cases d with
    | non => cases e <;> simp [Cmp] at hc
    | int n =>
      cases e with
      | int m =>
        have := h1.int_eq
        subst this
        have := h2.int_eq
        subst this
        obtain ⟨t, rfl⟩ := r1
        obtain ⟨t', rfl⟩ := r2
        exact (lt_int (by simpa [Dt.lt] using q) : wpAny (model X.prog X.w) A (compareOp .Lt _ _) Q E s)
      | _ => simp [Cmp] at hc
    | str n =>
      cases e with
      | str m =>
        have := h1.str_eq
        subst this
        have := h2.str_eq
        subst this
        obtain ⟨t, rfl⟩ := r1
        obtain ⟨t', rfl⟩ := r2
        exact (lt_str (by simpa [Dt.lt] using q) : wpAny (model X.prog X.w) A (compareOp .Lt _ _) Q E s)
      | _ => simp [Cmp] at hc
    | tup ds => simp [Dt.hgt] at hg
  induction n with
  | zero =>
    intro A d e x y u v hg _ hc h1 h2 r1 r2 Q q
    exact flat A d e x y u v (by omega) hc h1 h2 r1 r2 Q q
  | succ n ih =>
    intro A d e x y u v hg hu hc h1 h2 r1 r2 Q q
    by_cases h0 : d.hgt = 0
    · exact flat A d e x y u v h0 hc h1 h2 r1 r2 Q q
    cases d with
    | non => simp [Dt.hgt] at h0
    | int n => simp [Dt.hgt] at h0
    | str n => simp [Dt.hgt] at h0
    | tup ds =>
      cases e with
      | tup es =>
        simp only [Cmp] at hc
        obtain ⟨a, vs, rfl, s1, d1⟩ := h1.un
        obtain ⟨b, ws, rfl, s2, d2⟩ := h2.un
        obtain ⟨us, rv1, ⟨oa, ea, ca, na, da⟩, _⟩ := I.tuple s1
        obtain ⟨us', rv2, ⟨ob, eb, cb, nb, db⟩, _⟩ := I.tuple s2
        cases (show u = Value.ref a from r1)
        cases (show v = Value.ref b from r2)
        have hh : Dt.hgt (.tup ds) = Dt.hgts ds + 1 := by simp [Dt.hgt]
        rw [hh] at hg
        have hA : A.in1.units + 2 * n < cLine := by rw [Around.in1_units]; omega
        refine wpAny_richCompare_same_room (op := .Lt) ⟨oa, ea, ca⟩ ⟨ob, eb, cb⟩ PySem.F.slot_tuple_lt (wpAny_call_entry PySem.F.slot_tuple_lt ⟨oa, ea, ca⟩ PySem.F.entry_tuple_lt (tupLt_wp ea ca da eb cb db ?_) (PySem.F.args_tuple_lt_2 _ _)) (by omega)
        refine lex_dat I (n := n) (by omega) (fun d e x y u v hg hc h1 h2 r1 r2 Q q => ih A.in1 d e x y u v hg hA hc h1 h2 r1 r2 Q q) _ ds es vs ws us us' (by omega) hc d1 d2 rv1 rv2 ?_ ⟨(fun x => nomatch x), by simpa [Dt.lt] using q⟩
        rw [← rv1.length, ← rv2.length, d1.length, d2.length]
      | _ => simp [Cmp] at hc
end
def rankD : Dt → Dt
  | .non => .tup [.int 0]
  | .int n => .tup [.int 1, .int n]
  | d => .tup [.int 2, d]
theorem cmps_pairs : ∀ fs gs : List (Str × Int), Cmps (fs.map pairD) (gs.map pairD)
  | [], gs => by cases gs <;> simp [Cmps]
  | f :: fs, [] => by simp [Cmps]
  | f :: fs, g :: gs => by
    simp only [List.map_cons, Cmps]
    exact ⟨by simp [pairD, Cmp, Cmps], fun _ => cmps_pairs fs gs⟩
def kdN : Dt → Int
  | .non => 0
  | .int _ => 1
  | _ => 2
def tlD : Dt → List Dt
  | .non => []
  | .int n => [.int n]
  | d => [d]
theorem rankD_eq (d : Dt) : rankD d = .tup (.int (kdN d) :: tlD d) := by cases d <;> rfl
section
variable {X : Cx} {pins : List (Addr × Obj)} {σ : L2.St} {H : Hp} {s : Shared}
theorem rank_at (I : Inv X pins σ H s) {v : V} {u : Value} {d : Dt} (h : DatAt X.K H v (rankD d)) (r : RelV v u) :
    ∃ a t o n vr ur, u = Value.ref a ∧ s.heap.get? a = some o ∧ o.cls = .type "tuple" ∧ o.data = .seq (Value.int (kdN d) t :: ur).toArray n ∧ DatsAt X.K H vr (tlD d) ∧ Vals vr ur := by
  rw [rankD_eq] at h
  obtain ⟨a, ws, rfl, h1, h2⟩ := h.un
  obtain ⟨v1, vr, rfl, q1, h3⟩ := h2.un
  have e1 := q1.int_eq
  subst e1
  obtain ⟨its, rv, ⟨o, e, c, n, dd⟩, _⟩ := I.tuple h1
  cases (show u = Value.ref a from r)
  cases rv with
  | cons rx rr =>
    obtain ⟨t, rfl⟩ := (show ∃ t, _ = Value.int (kdN d) t from rx)
    exact ⟨a, t, o, n, vr, _, rfl, e, c, dd, h3, rr⟩
theorem ranks_tups (I : Inv X pins σ H s) : ∀ (ds : List Dt) (vs : List V) (us : List Value), DatsAt X.K H vs (ds.map rankD) → Vals vs us → ∃ fs, KatTups s.heap us fs ∧ fs.length = us.length ∧ ∀ f ∈ fs, ∃ x t, f = Value.int x t
  | [], vs, us, h, r => by
    have e := h.un0
    subst e
    cases r
    exact ⟨[], .nil, rfl, fun f hf => nomatch hf⟩
  | p :: ps, vs, us, h, r => by
    obtain ⟨v, w', rfl, h1, h2⟩ := DatsAt.un (d := rankD p) (ds := ps.map rankD) h
    cases r with
    | cons r1 r2 =>
      obtain ⟨a, t, o, n, vr, ur, rfl, e1, e2, e3, _, _⟩ := rank_at I h1 r1
      obtain ⟨fs, k1, k2, k3⟩ := ranks_tups I ps _ _ h2 r2
      refine ⟨Value.int (kdN p) t :: fs, .cons e1 e2 e3 (by simp) k1, by simp [k2], fun f hf => ?_⟩
      rcases List.mem_cons.mp hf with q | q
      · exact ⟨_, _, q⟩
      · exact k3 f q
theorem oc_cmp {d e : Dt} (hd : Oc d) (he : Oc e) (k : kdN d = kdN e) : Cmps (tlD d) (tlD e) := by
  cases hd with
  | non => simp [tlD, Cmps]
  | int n =>
    cases he with
    | non => simp [kdN] at k
    | int m => simp [tlD, Cmps, Cmp]
    | recd gs => simp [kdN] at k
  | recd fs =>
    cases he with
    | non => simp [kdN] at k
    | int m => simp [kdN] at k
    | recd gs => simp [tlD, Cmps, Cmp, cmps_pairs]
theorem oc_lt {d e : Dt} (hd : Oc d) (he : Oc e) : Dt.lt d e = if kdN d = kdN e then Dt.lts (tlD d) (tlD e) else decide (kdN d < kdN e) := by
  cases hd with
  | non => cases he <;> simp [Dt.lt, Dt.lts, kdN, tlD]
  | int n =>
    cases he with
    | non => simp [Dt.lt, kdN]
    | int m =>
      by_cases h : n = m
      · subst h
        simp [Dt.lt, Dt.lts, kdN, tlD, Dt.beq_self]
      · have : Dt.beq (.int n) (.int m) = false := Dt.beq_ne fun z => h (by cases z; rfl)
        simp [Dt.lt, Dt.lts, kdN, tlD, this]
    | recd gs => simp [Dt.lt, kdN]
  | recd fs =>
    cases he with
    | non => simp [Dt.lt, kdN]
    | int m => simp [Dt.lt, kdN]
    | recd gs =>
      by_cases h : (Dt.tup (fs.map pairD)) = .tup (gs.map pairD)
      · rw [h, Dt.lt_self]
        simp [Dt.lts, kdN, tlD, Dt.beq_self]
      · have : Dt.beq (.tup (fs.map pairD)) (.tup (gs.map pairD)) = false := Dt.beq_ne h
        simp [Dt.lts, kdN, tlD, this]
theorem tl_len {d e : Dt} (hd : Oc d) (he : Oc e) (k : kdN d = kdN e) : (tlD d).length = (tlD e).length := by
  cases hd <;> cases he <;> simp_all [kdN, tlD]
theorem tl_hgt {d : Dt} (hd : Oc d) : Dt.hgts (tlD d) ≤ 2 := by
  have := hd.hgt
  cases hd <;> simp_all [tlD, Dt.hgts, Dt.hgt]
theorem ask_rank {A : Around} (hA : A.units + 64 < cLine) {ds : List Dt} (oc : ∀ d ∈ ds, Oc d) : AskOk X pins σ A ds (ds.map rankD) Dt.lt := by
  refine ⟨tuples' ((Value.type "int") != (Value.type "tuple")), fun H' s' ks kits I' dk rk' h2 => ⟨fun Q hq => ?_, fun i j C hi hj hC => ?_⟩⟩
  · obtain ⟨fs, k1, k2, k3⟩ := ranks_tups I' ds ks kits dk rk'
    have l1 := dk.length
    rw [List.length_map] at l1
    have l2 := rk'.length
    refine kat_kind (T := Value.type "int") k1 (by omega) (fun v hv => ?_) (by decide +kernel) hq
    obtain ⟨x, t, rfl⟩ := k3 v hv
    exact .now
  · have gi : ∀ {m : Nat}, m < ds.length → ∃ a t o n vr ur, kits.getD m Value.none = Value.ref a ∧ s'.heap.get? a = some o ∧ o.data = .seq (Value.int (kdN (ds.getD m .non)) t :: ur).toArray n ∧ DatsAt X.K H' vr (tlD (ds.getD m .non)) ∧ Vals vr ur := fun {m} hm => by
      have e1 : (ds.map rankD)[m]? = some (rankD (ds.getD m .non)) := by simp [List.getD_eq_getElem?_getD, hm]
      obtain ⟨v, ev, hv⟩ := dk.get e1
      obtain ⟨u, eu, ru⟩ := rk'.get ev
      obtain ⟨a, t, o, n, vr, ur, rfl, f1, _, f3, f4, f5⟩ := rank_at I' hv ru
      exact ⟨a, t, o, n, vr, ur, getD_of eu, f1, f3, f4, f5⟩
    have om : ∀ {m : Nat}, m < ds.length → Oc (ds.getD m .non) := fun {m} hm => by
      rw [getD_of (List.getElem?_eq_getElem hm)]
      exact oc _ (List.getElem_mem hm)
    obtain ⟨a1, t1, o1, n1, vr1, ur1, e1, g1, d1, q1, r1⟩ := gi hi
    obtain ⟨a2, t2, o2, n2, vr2, ur2, e2, g2, d2, q2, r2⟩ := gi hj
    have oi := om hi
    have oj := om hj
    show wpAny _ _ (keyLt' _ (kits.getD i Value.none) (kits.getD j Value.none)) C _ s'
    rw [e1, e2]
    generalize ds.getD i .non = d at d1 q1 oi hC
    generalize ds.getD j .non = e at d2 q2 oj hC
    refine kat_lt g1 d1 g2 d2 ?_
    rw [oc_lt oi oj] at hC
    show KatLex _ _ _ _ _ C ((Value.int (kdN d) t1, Value.int (kdN e) t2) :: ur1.zip ur2) 0 s'
    refine kat_cons (SeqAt.EqAt.int_int _ _ _ _ _ _ _ _ (kat_go (fun b1 => kat_yes ?_) fun b1 => kat_no ?_))
    · have ek : kdN d = kdN e := by simpa using b1
      rw [if_pos ek] at hC
      have sl : (Value.int (kdN d) t1 :: ur1).toArray.size = (Value.int (kdN e) t2 :: ur2).toArray.size := by
        rw [List.size_toArray, List.size_toArray, List.length_cons, List.length_cons, ← r1.length, ← r2.length, q1.length, q2.length, tl_len oi oj ek]
      rw [decide_eq_false (by rw [sl]; exact Nat.lt_irrefl _)]
      have cm := oc_cmp oi oj ek
      have hg := tl_hgt oi
      have tll := tl_len oi oj ek
      have one : (tlD d).length ≤ 1 := by cases oi <;> simp [tlD]
      generalize tlD d = td at q1 hC cm hg tll one
      generalize tlD e = te at q2 hC cm tll
      cases td with
      | nil =>
        have := q1.un0
        subst this
        cases r1
        cases te with
        | nil =>
          refine kat_nil ?_
          simpa [Dt.lts] using hC
        | cons y te => simp at tll
      | cons x td =>
        cases te with
        | nil => simp at tll
        | cons y te =>
          have td0 : td = [] := List.length_eq_zero_iff.mp (by rw [List.length_cons] at one; omega)
          have te0 : te = [] := List.length_eq_zero_iff.mp (by rw [List.length_cons] at one; rw [List.length_cons, List.length_cons] at tll; omega)
          subst td0 te0
          obtain ⟨v1, w1, rfl, x1, x2⟩ := q1.un
          obtain ⟨v2, w2, rfl, y1, y2⟩ := q2.un
          have := x2.un0
          subst this
          have := y2.un0
          subst this
          obtain ⟨u1, rfl, ru1⟩ := vals1 r1
          obtain ⟨u2, rfl, ru2⟩ := vals1 r2
          have hx : x.hgt ≤ 2 := by simp [Dt.hgts] at hg; exact hg
          simp only [Cmps] at cm
          refine kat_cons (eqAt_dat I' 2 A x y v1 v2 u1 u2 hx (by omega) x1 y1 ru1 ru2 _ _ _ _ (kat_go (fun b2 => kat_yes (kat_nil ?_)) fun b2 => kat_no ?_))
          · rw [Dt.lts_cons, if_pos b2] at hC
            simpa [Dt.lts] using hC
          · rw [Dt.lts_cons, if_neg (by rw [b2]; exact Bool.false_ne_true)] at hC
            exact kat_one _ _ (ltAt_dat I' 2 A x y v1 v2 u1 u2 hx (by omega) cm.1 x1 y1 ru1 ru2 _ hC)
    · have ek : kdN d ≠ kdN e := by simpa using b1
      rw [if_neg ek] at hC
      exact oneLt_int hC
end
end L2
namespace L2
open PySem PySem.Spec PySem.W PyProof.Rows
theorem dk_vals : ∀ {kvs : List (Dt × V × V)} {ks : List (Dt × Value × Value)}, Paired DkR kvs ks → Vals (kvs.map (·.2.1)) (ks.map (·.2.1))
  | _, _, .nil => .nil
  | _, _, .cons r t => .cons r.2.1 (dk_vals t)
theorem dk_dats {K : PySem.W.Frag} {H : Hp} : ∀ {kvs : List (Dt × V × V)}, (∀ x ∈ kvs, DatAt K H x.2.1 x.1) → DatsAt K H (kvs.map (·.2.1)) (kvs.map (·.1))
  | [], _ => .nil
  | x :: kvs, h => .cons (h x (List.mem_cons_self ..)) (dk_dats fun y hy => h y (List.mem_cons_of_mem _ hy))
theorem acc_keys {w : World} {es : Array DictEntry} {ks : List (Dt × Value × Value)} {acc : Array Value} (he : es.toList = ks.map (entD w)) (hs : acc.size = es.size) (h : ∀ (j : Nat) (v : Value), acc[j]? = some v → ∃ e : DictEntry, es[j]? = some e ∧ v = e.key) : acc.toList = ks.map (·.2.1) := by
  have sz : es.size = ks.length := by rw [← Array.length_toList, he, List.length_map]
  refine List.ext_getElem (by simp; omega) fun i k1 k2 => ?_
  have hi : i < acc.size := by simpa using k1
  obtain ⟨e, e1, e2⟩ := h i acc[i] (by simp [hi])
  rw [ent_at he i] at e1
  have hk : i < ks.length := by omega
  rw [List.getElem?_eq_getElem hk] at e1
  have : e = entD w ks[i] := (Option.some.inj e1).symm
  subst this
  rw [Array.getElem_toList, e2, List.getElem_map]
  rfl
section
variable {X : Cx} {pins : List (Addr × Obj)} {σ : L2.St} {H : Hp} {s : Shared} {a : Addr} {kvs : List (Dt × V × V)}
theorem pick_perm {α : Type} {xs : List α} {d : α} {p : List Nat} (h : p.Perm (List.range xs.length)) : (p.map fun i => xs.getD i d).Perm xs := by
  have e : (List.range xs.length).map (fun i => xs.getD i d) = xs := by
    refine List.ext_getElem (by simp) fun i k1 k2 => ?_
    rw [List.getElem_map, List.getElem_range, getD_of (List.getElem?_eq_getElem k2)]
  have := h.map fun i => xs.getD i d
  rw [e] at this
  exact this
theorem d_sorted {f : Addr} {fd : FuncData} {px : Str} {sp : Sp} {k : Nat} {E : Value → Shared → Prop} {Q : Value → Shared → Prop} (F : FnOk X.prog X.w X.K X.mg X.base CX0 k f fd [px] sp) (hr : Room (k + 2) X.A) (hb : Binds X.K fd [px] [])
    (hsp : ∀ (H' : Hp) (v : V) (d : Dt) (Q : VK), Oc d → DatAt X.K H' v d → (∀ u H'', Same H' H'' → DatAt X.K H'' u (rankD d) → Q u H'') → sp [v] H' Q fun _ _ _ => False)
    (I : Inv X pins σ H s) (M : DkM X.K X.w H a kvs) (few : kvs.length < 64)
    (q : ∀ (D : Addr) (H' : Hp) (es : List (Dt × V × V)) (s' : Shared), Same H H' → H D = none → es.Perm kvs → (es.map (·.1)).Pairwise (fun x y => Dt.lt x y = true) → H' D = some (.lst (es.map (·.2.1))) → Inv X pins σ H' s' → Q (.ref D) s') :
    wpAny (model X.prog X.w) X.A (call (.builtin "sorted") [.ref a] [(Str.ofString "key", .ref f)]) Q E s := by
  obtain ⟨⟨far, ob, es, ep, ks, e1, e2, e3, e4, p⟩, _, _⟩ := (show ObjOk X.prog X.w H s.heap a (DkO X.w a kvs) from I.hok a _ M.at_)
  have kl : kvs.length = ks.length := Paired.length p
  have sz : es.size = ks.length := by rw [← Array.length_toList, e4, List.length_map]
  have s64 : (64 : Nat) ≤ sizeLine := by decide
  have rm : Room k X.A.in1.in1 := (show Room (k + 1) X.A.in1 from hr.in1).in1
  refine call_function_entry_kw kind_sorted plain_sorted entry_sorted (ksk_s1 _ _) ?_
  unfold Builtin.«sorted»
  refine wpAny_bind (m := checkCount "sorted" 1 1 _) (wpAny_pure (wpAny_bind (kdu_collect (es_src (es := es) (ep := ep) far) hr.hd ⟨ob, e1, e2, e3⟩ (by omega) fun h1 tk acc kept items => ?_)))
  have ea : acc.toList = ks.map (·.2.1) := acc_keys e4 items.1 fun j v e => items.2 j v e
  rw [ea]
  have I1 : Inv X pins σ H { s with heap := h1, toks := tk } := I.kept kept
  have lfree : H h1.objs.size = none := I1.hok.fresh (Nat.le_refl _)
  refine wpAny_bind (wpAny_newList ?_ (by rw [List.length_map]; omega))
  have I2 := I1.laid (t' := tk) (a := h1.objs.size) (o := .lst (kvs.map (·.2.1))) (h' := h1.push (seqObj "list" (ks.map (·.2.1)).toArray 0)) (fun b o q => Heap.get?_push_of_some _ q) (Nat.le_refl _)
    ⟨by rw [List.length_map]; omega, _, 0, dk_vals p, Heap.get?_push_size _ rfl⟩
  have dat : DatsAt X.K H (kvs.map (·.2.1)) (kvs.map (·.1)) := dk_dats M.dat
  refine wpAny_bind (wpAny_holding (wpAny_call_entry_kw slot_list_sort ⟨_, Heap.get?_push_size _ rfl, rfl⟩ entry_list_sort ?body (ksk_l1 _ _)))
  case body =>
    refine lsortK (A := X.A.in1.in1) (ds := kvs.map (·.1)) (rk := rankD) (lt := Dt.lt) F rm rfl hb (fun H' v d Q hd h1 h2 => hsp H' v d Q ?_ h1 h2) I2 upd_same (dat.same (.upd lfree)) (by rw [List.length_map]; exact few) (ask_rank rm.units fun d hd => ?_) (lo_of M.nd) fun H' s' pm I' but at' pp ps => ?_
    · obtain ⟨x, hx, rfl⟩ := List.mem_map.mp hd
      exact M.oc x hx
    · obtain ⟨x, hx, rfl⟩ := List.mem_map.mp hd
      exact M.oc x hx
    · refine ⟨_, rfl, wpAny_pure ⟨_, rfl, ?_⟩⟩
      rw [List.length_map] at pp
      have lt : ∀ i ∈ pm, i < kvs.length := fun i hi => List.mem_range.mp (pp.mem_iff.mp hi)
      refine q h1.objs.size H' (pm.map fun i => kvs.getD i (.non, .non, .non)) s' (fun b o e => but b o (ne_of_none e lfree) (by rw [upd_ne (ne_of_none e lfree)]; exact e)) lfree (pick_perm pp) ?_ ?_ I'
      · rw [List.map_map]
        have e : (pm.map fun i => (kvs.map (·.1)).getD i Dt.non) = pm.map ((·.1) ∘ fun i => kvs.getD i (.non, .non, .non)) := List.map_congr_left fun i hi => by
          show (kvs.map (·.1)).getD i Dt.non = (kvs.getD i (.non, .non, .non)).1
          simp [List.getD_eq_getElem?_getD, lt i hi]
        rw [← e]
        exact ps
      · rw [at', List.map_map]
        refine congrArg some (congrArg HO.lst (List.map_congr_left fun i hi => ?_))
        show (kvs.map (·.2.1)).getD i .non = (kvs.getD i (.non, .non, .non)).2.1
        simp [List.getD_eq_getElem?_getD, lt i hi]
def tSortK (K : PySem.W.Frag) (w : World) (f : Addr) (ta tk : TA) : TE := fun σ H Q => ta σ H fun vs H1 => tk σ H1 fun zs H2 => ∃ a kvs, vs = [.ref a] ∧ zs = [.ref f] ∧ DkM K w H2 a kvs ∧ kvs.length < 64 ∧
  ∀ (D : Addr) (H' : Hp) (es : List (Dt × V × V)), Same H2 H' → H2 D = none → es.Perm kvs → (es.map (·.1)).Pairwise (fun x y => Dt.lt x y = true) → H' D = some (.lst (es.map (·.2.1))) → Q (.ref D) H'
theorem pe_sortedK {x : Str} {p pos kpos : Pos} {e ef : Expr} {ta tk : TA} {f : Addr} {fd : FuncData} {px : Str} {sp : Sp} {k : Nat} (F : FnOk X.prog X.w X.K X.mg X.base CX0 k f fd [px] sp) (hr : Room (k + 2) X.A) (hb : Binds X.K fd [px] [])
    (hsp : ∀ (H' : Hp) (v : V) (d : Dt) (Q : VK), Oc d → DatAt X.K H' v d → (∀ u H'', Same H' H'' → DatAt X.K H'' u (rankD d) → Q u H'') → sp [v] H' Q fun _ _ _ => False)
    (hg : Gl X x) (hm : X.mg x = none) (hv : bootBuiltins x = some (.builtin "sorted")) (ha : PA X [e] ta) (hk : PK X [⟨some "key", ef, kpos⟩] tk) (hn : x ≠ "__name__" := by decide) (hdb : (x == ("__debug__" : Str)) = false := by decide)
    (h1 : backTo pos (starEach [e] X.env) = (false, eval e X.env) :: backTo pos (starEach [] X.env) := by rfl) (h2 : (backTo pos (starEach [e] X.env)).any (·.1) = false := by rfl) :
    PE X (.Call (.Name x p) [e] [⟨some "key", ef, kpos⟩] pos) (tSortK X.K X.w f ta tk) := by
  intro pins s σ H Q I h
  refine wpAny_Call_Name_kw (ld_blt I hg hm hv ?_ hn hdb)
  refine callWith_kw (thn (ha pos pins s σ H _ I h) fun us s1 ⟨vs, H1, I1, r1, q1⟩ => thn (hk pos pins s1 σ H1 _ I1 q1) fun ws s2 ⟨zs, H2, I2, r2, q2⟩ => ?_) h1 h2
  obtain ⟨a, kvs, rfl, rfl, M, few, q⟩ := q2
  obtain ⟨u1, rfl, z1⟩ := vals1 r1
  obtain ⟨u2, rfl, z2⟩ := vals1 r2
  cases (show u1 = Value.ref a from z1)
  cases (show u2 = Value.ref f from z2)
  exact d_sorted F hr hb hsp I2 M few fun D H' es s' e1 e2 e3 e4 e5 I' => ⟨.ref D, H', I', rfl, q D H' es e1 e2 e3 e4 e5⟩
end
end L2
namespace L2
open PySem PySem.Spec PySem.W PyProof.Rows
section
variable {X : Cx} {pins : List (Addr × Obj)} {σ : L2.St} {H : Hp} {s : Shared} {a : Addr} {kvs : List (Dt × V × V)} {k : Dt} {i : V} {u : Value}
theorem get_vd {A : Around} {E : Value → Shared → Prop} {o : Obj} {es : Array DictEntry} {ep : Nat} {ks : List (Dt × Value × Value)} {Q : Option Value → Shared → Prop} (kt : Kit X A s ks k u)
    (ho : s.heap.get? a = some o) (hd : o.data = .dict es ep) (he : es.toList = ks.map (entD X.w)) (hn : (ks.map (·.1)).Nodup)
    (hnone : ∀ tk, (∀ (j : Nat) (p : Value × Value), ks[j]? ≠ some (k, p)) → Q none { s with toks := tk }) (hsome : ∀ tk (j : Nat) (p : Value × Value), ks[j]? = some (k, p) → Q (some p.2) { s with toks := tk }) :
    wpAny (model X.prog X.w) A (dictGet a u) Q E s := by
  unfold dictGet
  try with_reducible refine wpAny_holding ?_
  refine wpAny_bind (hash_vd k u A s _ kt.vd kt.hgt fun tk => wpAny_bind ?_)
  refine find_vd (s := { s with toks := tk }) ho hd he hn kt.st (fun x hx Q q => kt.eq tk x hx _ Q q) (fun v hv Q q => kt.quiet tk v hv _ Q q) kt.id (fun no => wpAny_pure (hnone tk no)) (fun j p e => ?_)
  refine wpAny_bind (wpAny_dictEntries (s := { s with toks := tk }) ho hd ?_)
  rw [ent_at he j, e]
  exact wpAny_pure (hsome tk j p e)
theorem dk_get : ∀ {kvs : List (Dt × V × V)} {ks : List (Dt × Value × Value)}, Paired DkR kvs ks → ∀ {j : Nat} {y : Dt × Value × Value}, ks[j]? = some y → ∃ x, kvs[j]? = some x ∧ DkR x y
  | _, _, .nil, j, y, e => by simp at e
  | _, _, .cons (a := x) r t, 0, y, e => by
    simp at e
    subst e
    exact ⟨x, rfl, r⟩
  | _, _, .cons _ t, j + 1, y, e => by
    obtain ⟨x, h1, h2⟩ := dk_get t (j := j) (by simpa using e)
    exact ⟨x, by simpa using h1, h2⟩
theorem dk_get' : ∀ {kvs : List (Dt × V × V)} {ks : List (Dt × Value × Value)}, Paired DkR kvs ks → ∀ {j : Nat} {x : Dt × V × V}, kvs[j]? = some x → ∃ y, ks[j]? = some y ∧ DkR x y
  | _, _, .nil, j, y, e => by simp at e
  | _, _, .cons (b := y) r t, 0, x, e => by
    simp at e
    subst e
    exact ⟨y, rfl, r⟩
  | _, _, .cons _ t, j + 1, x, e => by
    obtain ⟨y, h1, h2⟩ := dk_get' t (j := j) (by simpa using e)
    exact ⟨y, by simpa using h1, h2⟩
def valD (kvs : List (Dt × V × V)) (k : Dt) (d : V) : V := ((kvs.find? fun x => Dt.beq x.1 k).map (·.2.2)).getD d
theorem d_get {A : Around} {E : Value → Shared → Prop} {Q : Option Value → Shared → Prop} (hu : A.units + 40 < cLine) (I : Inv X pins σ H s) (M : DkM X.K X.w H a kvs) (hk : DatAt X.K H i k) (o : Oc k) (ri : RelV i u)
    (q1 : ∀ tk (j : Nat) (x : Dt × V × V) (r : Value), kvs[j]? = some x → x.1 = k → RelV x.2.2 r → Q (some r) { s with toks := tk }) (q0 : ∀ tk, k ∉ kvs.map (·.1) → Q none { s with toks := tk }) : wpAny (model X.prog X.w) A (dictGet a u) Q E s := by
  obtain ⟨⟨far, ob, es, ep, ks, e1, e2, e3, e4, p⟩, _, _⟩ := (show ObjOk X.prog X.w H s.heap a (DkO X.w a kvs) from I.hok a _ M.at_)
  have kt : Kit X A s ks k u := kit_of (by omega) I M p hk o ri
  refine get_vd kt e1 e3 e4 (by rw [← dk_keys p]; exact M.nd) (fun tk no => q0 tk ?_) (fun tk j pr e => ?_)
  · rw [dk_keys p]
    intro z
    obtain ⟨y, hy, ey⟩ := List.mem_map.mp z
    obtain ⟨j, hj⟩ := List.getElem?_of_mem hy
    exact no j y.2 (by rw [hj, ← ey])
  · obtain ⟨x, hx, r1, _, r3⟩ := dk_get p e
    exact q1 tk j x pr.2 hx r1 r3
def rIxD (K : PySem.W.Frag) (w : World) : R2 := fun x y H Q => ∃ (a : Addr) (kvs : List (Dt × V × V)) (k : Dt) (j : Nat) (e : Dt × V × V), x = .ref a ∧ DkM K w H a kvs ∧ DatAt K H y k ∧ Oc k ∧ kvs[j]? = some e ∧ e.1 = k ∧ Q e.2.2 H
theorem ix_dk (hu : X.A.units + 64 < cLine) : IxR X (rIxD X.K X.w) := by
  intro value slice pins s σ H x y v u Q I rx ry h hs
  obtain ⟨a, kvs, k, j, e, rfl, M, hk, o, ej, ek, q⟩ := h
  cases (show v = Value.ref a from rx)
  obtain ⟨⟨far, ob, es, ep, ks, e1, e2, e3, e4, p⟩, _, _⟩ := (show ObjOk X.prog X.w H s.heap a (DkO X.w a kvs) from I.hok a _ M.at_)
  have hT : s.TypeIs (.ref a) "dict" := ⟨ob, e1, e2.1⟩
  obtain ⟨y, ey, dr⟩ := dk_get' p ej
  have kt : Kit X X.A.in1 s ks k u := kit_of (by rw [Around.in1_units]; omega) I M p hk o ry
  have nd : (ks.map (·.1)).Nodup := by rw [← dk_keys p]; exact M.nd
  refine subscriptTail_builtinR (x := y.2.2) hT slot_dict_getitem.lookup ?_ hs
  unfold getItem
  try with_reducible refine wpAny_holding ?_
  refine wpAny_bind (wpAny_sequenceKey hT (by decide) (wpAny_bind (wpAny_callSpecial?_slot (name := Str.ofString "__getitem__") hT slot_dict_getitem (wpAny_call_entry slot_dict_getitem hT entry_dict_getitem ?_ (args_dict_getitem _ _)))))
  show wpAny _ _ (dictGet a u >>= _) _ _ s
  refine wpAny_bind (get_vd kt e1 e3 e4 nd (fun tk no => absurd ey (by rw [← ek, dr.1] at no; exact no j y.2)) (fun tk j' pr e => ?_))
  have same := nd_at nd e ey (ek.symm.trans dr.1)
  subst same
  rw [e] at ey
  cases ey
  exact wpAny_pure ⟨_, rfl, wpAny_pure ⟨rfl, _, H, I.tok tk, dr.2.2, q⟩⟩
theorem call_listD (hc : X.calm = true) : CallR X (.type "list") (fun xs H Q => ∃ (a : Addr) (kvs : List (Dt × V × V)), xs = [.ref a] ∧ DkM X.K X.w H a kvs ∧ kvs.length ≤ 1000 ∧ ∀ D, H D = none → Q (.ref D) (upd H D (.lst (kvs.map (·.2.1))))) := by
  intro pins s σ H xs us Q I r h
  obtain ⟨a, kvs, rfl, M, few, q⟩ := h
  obtain ⟨u, rfl, ru⟩ := vals1 r
  cases (show u = Value.ref a from ru)
  obtain ⟨⟨far, ob, es, ep, ks, e1, e2, e3, e4, p⟩, _, _⟩ := (show ObjOk X.prog X.w H s.heap a (DkO X.w a kvs) from I.hok a _ M.at_)
  have kl : kvs.length = ks.length := Paired.length p
  have sz : es.size = ks.length := by rw [← Array.length_toList, e4, List.length_map]
  have s64 : (1000 : Nat) ≤ sizeLine := by decide
  refine kdl_call (es_src (es := es) (ep := ep) far) (I.ok.hd hc) ⟨ob, e1, e2, e3⟩ (by omega) fun h1 tk acc c kept at_ items => ?_
  have ea : acc.toList = ks.map (·.2.1) := acc_keys e4 items.1 fun j v e => items.2 j v e
  refine ⟨.ref _, _, I.laid (t' := tk) (a := s.heap.objs.size) (o := .lst (kvs.map (·.2.1))) (h' := h1) kept (Nat.le_refl _) ⟨by rw [List.length_map]; omega, ks.map (·.2.1), c, dk_vals p, ?_⟩, rfl, q _ (I.hok.fresh (Nat.le_refl _))⟩
  rw [← ea, Array.toArray_toList]
  exact at_
def rGetD (K : PySem.W.Frag) (w : World) : V → List V → Hp → VK → Prop := fun x vs H Q => ∃ (a : Addr) (kvs : List (Dt × V × V)) (y z : V) (k : Dt), x = .ref a ∧ vs = [y, z] ∧ DkM K w H a kvs ∧ DatAt K H y k ∧ Oc k ∧
  (∀ (j : Nat) (e : Dt × V × V), kvs[j]? = some e → e.1 = k → Q e.2.2 H) ∧ (k ∉ kvs.map (·.1) → Q z H)
theorem mt_getD (hu : X.A.units + 64 < cLine) : MtR X "dict.get" (rGetD X.K X.w) := by
  intro pins s σ H x vs v us Q I rx rv h
  obtain ⟨a, kvs, y, z, k, rfl, rfl, M, hk, o, q1, q0⟩ := h
  cases (show v = Value.ref a from rx)
  obtain ⟨u1, u2, rfl, r1, r2⟩ := vals2 rv
  obtain ⟨⟨far, ob, es, ep, ks, e1, e2, e3, e4, p⟩, _, _⟩ := (show ObjOk X.prog X.w H s.heap a (DkO X.w a kvs) from I.hok a _ M.at_)
  have hT : s.TypeIs (.ref a) "dict" := ⟨ob, e1, e2.1⟩
  refine wpAny_call_entry PySem.F.slot_dict_get hT PySem.F.entry_dict_get ?_ (PySem.F.args_dict_get_3 _ _ _)
  show wpAny _ _ (dictGet a u1 >>= _) _ _ s
  refine wpAny_bind (d_get (by rw [Around.in1_units]; omega) I M hk o r1 (fun tk j e r ej ek rr => ?_) (fun tk no => ?_))
  · exact wpAny_pure ⟨r, rfl, _, H, I.tok tk, rr, q1 j e ej ek⟩
  · show wpAny _ _ (Builtin.Dict.missed a u1 >>= _) _ _ _
    exact wpAny_bind (wpAny_missed_other far (wpAny_pure ⟨u2, rfl, z, H, I.tok tk, r2, q0 no⟩))
def tBMD (K : PySem.W.Frag) (w : World) (r : V → List V → Hp → VK → Prop) (to : TE) (t : TA) : TE := fun σ H Q => to σ H fun x H1 => (∃ a kvs, x = .ref a ∧ DkM K w H1 a kvs) ∧ t σ H1 fun vs H2 => r x vs H2 Q
theorem pe_bmD {r : V → List V → Hp → VK → Prop} {name : Str} {id : String} {o e : Expr} {es : List Expr} {to : TE} {t : TA} {apos cpos : Pos} (slot : Slot "dict" name id) (hty : typeOf (.builtin id) = pure (.type "method_descriptor")) (hm : MtR X id r) (ho : PE X o to) (ha : PA X (e :: es) t)
    (hbase : attributeBase o name X.env (eval o X.env) = eval o X.env := by rfl)
    (hfew : ((backTo cpos (starEach (e :: es) X.env)).all (fun x => !x.1) && (backToKw cpos (keywordEach [] X.env)).all (fun x => x.1.isSome) && decide ((e :: es).length + ([] : List Keyword).length + (if ([] : List Keyword).isEmpty then 0 else 1) < 30)) = true := by rfl)
    (hline : (apos.endLine == cpos.line) = true := by rfl) (hs : starEach (e :: es) X.env = (false, eval e X.env) :: starEach es X.env := by rfl) (hplain : (backTo cpos (starEach es X.env)).any (·.1) = false := by rfl) :
    PE X (.Call (.Attribute o name apos) (e :: es) [] cpos) (tBMD X.K X.w r to t) := by
  intro pins s σ H Q I h
  refine wpAny_Call_method_late hbase hfew hline rfl (thn (ho pins s σ H _ I h) fun v s1 ⟨x, H1, I1, r1, ⟨a, kvs, ex, M⟩, q1⟩ => ?_)
  subst ex
  cases (show v = Value.ref a from r1)
  obtain ⟨⟨far, ob, es', ep, ks, e1, e2, e3, e4, p⟩, _, _⟩ := (show ObjOk X.prog X.w H1 s1.heap a (DkO X.w a kvs) from I1.hok a _ M.at_)
  refine ⟨"dict", id, PySem.F.plainAttrs_dict, slot, hty, ⟨ob, e1, e2.1⟩, fun b eb => ?_, ?_⟩
  · cases eb
    exact ⟨ob, e1, e2.2.1⟩
  · have hA := ha cpos pins s1 σ H1 _ I1 q1
    rw [hs] at hA ⊢
    refine Calls.callWith_builtin (by show (false || (backTo cpos (starEach es X.env)).any (·.1)) = false; rw [hplain] <;> rfl) (Calls.evalArgs_plain ?_)
    exact thn hA fun us s2 ⟨vs, H2, I2, r2, q2⟩ => hm pins s2 σ H2 (.ref a) vs (.ref a) us Q I2 rfl r2 q2
end
end L2
namespace L2
open PySem PySem.Spec PySem.W PyProof.Rows
theorem ix_dkK {X : Cx} {K : PySem.W.Frag} {w : World} (hK : X.K = K) (hw : X.w = w) (hu : X.A.units + 64 < cLine) : IxR X (rIxD K w) := by
  subst hK hw
  exact ix_dk hu
end L2
namespace L2
open PySem PySem.Spec PyProof.Rows
def Its (lo st : Int) (n : Nat) : It := ⟨fun i _ => i < n, fun i H x H' => H' = H ∧ x = .int (lo + (i : Nat) * st), fun i _ => n ≤ i⟩
section
variable {X : Cx} {tg : Expr}
def iRng5 (ta : TA) : TI := fun σ H R => ta σ H fun vs H1 => ∃ j : Int, vs = [.int 0, .int j, .int 5] ∧ 0 ≤ j ∧ j < 2 ^ 60 ∧ R (Its 0 5 ((j + 4) / 5).toNat) H1
end
def PrL (K : PySem.W.Frag) (H : Hp) (v : V) (d : Dt) (l : Addr) (ds : List Dt) : Prop := ∃ r u, v = .ref r ∧ SqT K H r [u, .ref l] ∧ DatAt K H u d ∧ LsM K H l ds
section
variable {X : Cx} {pins : List (Addr × Obj)} {σ : St} {H : Hp} {s : Shared}
def rNePL (K : PySem.W.Frag) : R2 := fun x y H Q => ∃ (a b : Addr) (vs ws : List V) (ds : List (Dt × List Dt)), x = .ref a ∧ y = .ref b ∧ SqL K H a vs ∧ SqL K H b ws ∧ vs.length = ds.length ∧ ws.length = ds.length ∧
  (∀ (i : Nat) (v : V) (d : Dt × List Dt), vs[i]? = some v → ds[i]? = some d → ∃ l, PrL K H v d.1 l d.2) ∧ (∀ (i : Nat) (v : V) (d : Dt × List Dt), ws[i]? = some v → ds[i]? = some d → ∃ l, PrL K H v d.1 l d.2) ∧ (∀ d ∈ ds, d.1.hgt ≤ 30 ∧ Dt.hgts d.2 ≤ 30) ∧ Q (.bl false) H
end
end L2
namespace L2
open PySem PySem.Spec PyProof.Rows
def ObO (a : Addr) (o : Obj) : HO := .ext fun h => h.get? a = some o
section
variable {P : Program} {w : World} {H H' : Hp} {h h' : Heap} {a : Addr} {o : Obj}
theorem ob_ok (e : h.get? a = some o) : ObjOk P w H h a (ObO a o) := ⟨e, ⟨o, e⟩, fun _ _ e1 k => k _ e1⟩
theorem ob_get (x : HOk P w H h) (e : H a = some (ObO a o)) : h.get? a = some o := (show ObjOk P w H h a (ObO a o) from x a _ e).1
def hid (H : Hp) (cs : List Addr) : Hp := fun b => if b ∈ cs then none else H b
def back (H H' : Hp) (cs : List Addr) : Hp := fun b => if b ∈ cs then H b else H' b
def Obs (H : Hp) (cs : List Addr) : Prop := ∀ c ∈ cs, ∃ o, H c = some (ObO c o)
end
def cxLam (P : Program) (w : World) (K : PySem.W.Frag) (mg : Str → Option Value) (base : Heap) (N ps : List Str) (qual : Str) (scope : Scope) (f : Addr) (cd : Value) (cl : List (Str × Addr)) (A : Around) (outer : List Env) (s : Shared) (H : Hp) : Cx where
  prog := P
  w := w
  K := K
  mg := mg
  base := base
  A := A.deeper (PySem.W.envX qual scope s.heap.objs.size f cd cl)
  N := N
  s₀ := s
  H₀ := H
  env := PySem.W.envX qual scope s.heap.objs.size f cd cl
  outer := outer
  stack := PySem.W.envX qual scope s.heap.objs.size f cd cl :: outer
  ex := []
  calm := true
  fn := fun x => decide (x ∈ ps)
  pn := []
  xe := fun _ _ => False
structure LmScope (N ps : List Str) (scope : Scope) (cl : List (Str × Addr)) : Prop where
  kind : scope.kind = .function
  co : scope.isCoroutine = false
  gen : scope.isGenerator = false
  nd : N.Nodup
  eq : N = ps ++ cl.map (·.1)
  par : ∀ x ∈ ps, scope.names.lookup x = some .local
  nocell : ∀ y ∈ scope.names, y.2 ≠ .cell
  free : ∀ x, scope.names.lookup x = some .free → x ∈ cl.map (·.1)
  isfree : ∀ x ∈ cl.map (·.1), scope.names.lookup x = some .free
  inj : cl.Pairwise fun x y => x.2 ≠ y.2
inductive CapsAt (H : Hp) : List (Str × Addr) → List V → Prop
  | nil : CapsAt H [] []
  | cons {x : Str} {c : Addr} {o : Obj} {u : Value} {v : V} {cl : List (Str × Addr)} {vs : List V} (e : H c = some (ObO c o)) (d : o.data = .cell (some u)) (r : RelV v u) (t : CapsAt H cl vs) : CapsAt H ((x, c) :: cl) (v :: vs)
section
variable {P : Program} {w : World} {K : PySem.W.Frag} {mg : Str → Option Value} {base : Heap}
def LamOk (P : Program) (w : World) (K : PySem.W.Frag) (mg : Str → Option Value) (base : Heap) (k : Nat) (f : Addr) (sp : List V → Hp → VK → Prop) : Prop :=
  ∀ (A : Around) (outer : List Env) (s : Shared) (H : Hp) (us : List Value) (vs : List V) (Q : VK), Room k A → Env0 P w K mg base A outer s H → Vals vs us → sp vs H Q → codeAny (model P w) A (.call (.ref f) ⟨us, []⟩) (CR CX0 outer P w H s Q E0) s
end
section
variable {X : Cx}
def tCallV (f : Addr) (fo : Obj) (sp : List V → Hp → VK → Prop) (i : Nat) (t : TA) : TE := fun σ H Q => σ[i]? = some (some (.ref f)) ∧ t σ H fun vs H1 => H1 f = some (ObO f fo) ∧ sp vs H1 Q
structure OwnC (X : Cx) (cl : List (Str × Addr)) (js : List Nat) : Prop where
  len : js.length = cl.length
  it : ∀ (i : Nat) (p : Str × Addr) (j : Nat), cl[i]? = some p → js[i]? = some j → X.env.cells.lookup p.1 = some p.2 ∧ X.fn p.1 = true ∧ X.env.scope.names.lookup p.1 = some .cell ∧ X.env.kindOf p.1 = some .cell ∧ X.N[j]? = some p.1
def tCallC (sp : Sp) (cl : List (Str × Addr)) (js : List Nat) (t : TA) : TE := fun σ H Q => t σ H fun vs H1 => ∃ cvs : List V, cvs.length = cl.length ∧ (∀ (i j : Nat) (v : V), js[i]? = some j → cvs[i]? = some v → σ[j]? = some (some v)) ∧
  ∀ H2 : Hp, (∀ b, b ∉ cl.map (·.2) → H2 b = H1 b) → (∀ c ∈ cl.map (·.2), H1 c = none) → CapsAt H2 cl cvs → sp vs H2 (fun r H3 => (∀ c ∈ cl.map (·.2), H3 c = H2 c) ∧ Q r (hid H3 (cl.map (·.2)))) E0
abbrev tabAnd (ps : Array Value) (pos : Pos) (c' : Addr) : Array Value := ps ++ #[rawInt pos.line, rawInt pos.col, .ref c']
def tLam (qual : Str) (params : Arguments) (body : Expr) (scope : Scope) (cl : List (Str × Addr)) (pos : Pos) (Pt : Addr) : TE := fun _ H Q => ∃ ps : Array Value, H Pt = some (.tbl ps) ∧ TriplesOk ps.toList ∧ codeAmong pos ps.toList = none ∧
  ∀ (f c' : Addr) (co : Obj) (pm ctv : Value) (H' : Hp), H f = none → H c' = none → f ≠ c' → BtA Pt H H' → H' Pt = some (.tbl (tabAnd ps pos c')) → H' f = some (ObO f (PySem.W.kla_obj "<lambda>" qual params body scope cl pm c' ctv)) → H' c' = some (ObO c' co) → (∃ fs t, co.data = .fields fs ∧ fs[1]? = some (.str qual t)) → Q (.ref f) H'
end
end L2
namespace L2
open PySem PySem.Spec PyProof.Rows
section
variable {κ : Type} [DecidableEq κ]
def valV (kvs : List (κ × V)) (k : κ) : Option V := (kvs.find? fun kv => decide (kv.1 = k)).map (·.2)
def putK (kvs : List (κ × V)) (k : κ) (v : V) : List (κ × V) :=
  if (kvs.any fun kv => decide (kv.1 = k)) = true then kvs.map (fun kv => if kv.1 = k then (kv.1, v) else kv) else kvs ++ [(k, v)]
def dropK (kvs : List (κ × V)) (k : κ) : List (κ × V) := kvs.filter fun kv => decide (kv.1 ≠ k)
theorem valV_pos {p : κ × V} {r : List (κ × V)} {k : κ} (e : p.1 = k) : valV (p :: r) k = some p.2 := by simp [valV, List.find?_cons, e]
theorem valV_neg {p : κ × V} {r : List (κ × V)} {k : κ} (e : ¬ p.1 = k) : valV (p :: r) k = valV r k := by simp [valV, List.find?_cons, e]
theorem valV_any (k : κ) : ∀ kvs : List (κ × V), (kvs.any fun kv => decide (kv.1 = k)) = (valV kvs k).isSome
  | [] => rfl
  | p :: r => by
    rw [List.any_cons]
    by_cases e : p.1 = k
    · simp only [valV_pos e, decide_eq_true e, Bool.true_or, Option.isSome_some]
    · rw [valV_neg e, decide_eq_false e, Bool.false_or]; exact valV_any k r
theorem length_putK (kvs : List (κ × V)) (k : κ) (v : V) : (putK kvs k v).length ≤ kvs.length + 1 := by
  unfold putK
  split
  · rw [List.length_map]; omega
  · rw [List.length_append, List.length_cons, List.length_nil]; omega
theorem RelO.isSome_eq {o : Option V} {u : Option Value} (r : RelO o u) : o.isSome = u.isSome := by
  cases o with
  | none => cases u with
    | none => rfl
    | some _ => exact (show False from r).elim
  | some _ => cases u with
    | none => exact (show False from r).elim
    | some _ => rfl
theorem KV.any {kvs : List (κ × V)} {vs : List (κ × Value)} (r : KV kvs vs) (k : κ) : (kvs.any fun kv => decide (kv.1 = k)) = vs.any fun kv => decide (kv.1 = k) := by
  unfold KV at r
  induction r with
  | nil => rfl
  | cons h t ih => rw [List.any_cons, List.any_cons, ih, h.1]
theorem KV.repl {kvs : List (κ × V)} {vs : List (κ × Value)} (r : KV kvs vs) (k : κ) {y : V} {u : Value} (ry : RelV y u) :
    KV (kvs.map fun kv => if kv.1 = k then (kv.1, y) else kv) (vs.map fun kv => if kv.1 = k then (kv.1, u) else kv) := by
  unfold KV at r ⊢
  induction r with
  | nil => exact .nil
  | @cons p q ps qs h t ih =>
    rw [List.map_cons, List.map_cons]
    refine .cons ?_ ih
    obtain ⟨h1, h2⟩ := h
    by_cases e : p.1 = k
    · rw [if_pos e, if_pos (h1.symm.trans e)]; exact ⟨h1, ry⟩
    · rw [if_neg e, if_neg (fun z => e (h1.trans z))]; exact ⟨h1, h2⟩
theorem KV.put {kvs : List (κ × V)} {vs : List (κ × Value)} (r : KV kvs vs) (k : κ) {y : V} {u : Value} (ry : RelV y u) : KV (putK kvs k y) (stored vs k u) := by
  unfold putK stored
  rw [r.any k]
  by_cases e : (vs.any fun kv => decide (kv.1 = k)) = true
  · rw [if_pos e, if_pos e]; exact r.repl k ry
  · rw [if_neg e, if_neg e]; exact Paired.snoc r ⟨rfl, ry⟩
theorem KV.length {kvs : List (κ × V)} {vs : List (κ × Value)} (r : KV kvs vs) : kvs.length = vs.length := Paired.length r
end
theorem kV_is {P : Program} {w : World} {k : Key} {u : Value} (r : RelV (kV k) u) : (mixKind P w).is k u = true := by
  cases k with
  | inl i => obtain ⟨t, e⟩ := (show ∃ t, u = Value.int i t from r); subst e; exact mixKind_int P w i t
  | inr x => obtain ⟨t, e⟩ := (show ∃ t, u = Value.str x t from r); subst e; exact mixKind_str P w x t
theorem items_are {P : Program} {w : World} : ∀ {ks : List Key} {us : List Value}, Vals (ks.map kV) us → ItemsAre (mixKind P w) ks us
  | [], _, r => by rw [List.map_nil] at r; cases r; exact .nil
  | k :: ks, _, r => by
    rw [List.map_cons] at r
    cases r with
    | cons h t => exact .cons (kV_is h) (items_are t)
abbrev KT (H : Hp) : List (List Key × V) → List (List Key × Addr × Value) → Prop := Paired fun p q => p.1 = q.1 ∧ H q.2.1 = some (.tup (p.1.map kV)) ∧ RelV p.2 q.2.2
theorem KT.val {H : Hp} {kvs : List (List Key × V)} {xs : List (List Key × Addr × Value)} (r : KT H kvs xs) (k : List Key) : RelO (valV kvs k) ((atKey xs k).map (·.2)) := by
  induction r with
  | nil => exact True.intro
  | @cons p q ps qs h t ih =>
    obtain ⟨h1, _, h2⟩ := h
    by_cases e : p.1 = k
    · have e' : q.1 = k := h1.symm.trans e
      have b : atKey (q :: qs) k = some q.2 := by simp [atKey, List.find?_cons, e']
      rw [valV_pos e, b]; exact h2
    · have e' : ¬ q.1 = k := fun z => e (h1.trans z)
      have b : atKey (q :: qs) k = atKey qs k := by simp [atKey, List.find?_cons, e']
      rw [valV_neg e, b]; exact ih
theorem KT.repl {H : Hp} {kvs : List (List Key × V)} {xs : List (List Key × Addr × Value)} (r : KT H kvs xs) (k : List Key) {y : V} {u : Value} (ry : RelV y u) :
    KT H (kvs.map fun kv => if kv.1 = k then (kv.1, y) else kv) (xs.map (putAt k u)) := by
  induction r with
  | nil => exact .nil
  | @cons p q ps qs h t ih =>
    rw [List.map_cons, List.map_cons]
    refine .cons ?_ ih
    obtain ⟨h1, h2, h3⟩ := h
    unfold putAt
    by_cases e : p.1 = k
    · rw [if_pos e, if_pos (h1.symm.trans e)]; exact ⟨h1, h2, ry⟩
    · rw [if_neg e, if_neg (fun z => e (h1.trans z))]; exact ⟨h1, h2, h3⟩
theorem KT.put {H : Hp} {kvs : List (List Key × V)} {xs : List (List Key × Addr × Value)} (r : KT H kvs xs) (k : List Key) {b : Addr} {y : V} {u : Value} (hb : H b = some (.tup (k.map kV))) (ry : RelV y u) :
    KT H (putK kvs k y) (storedH xs k b u) := by
  have e : (kvs.any fun kv => decide (kv.1 = k)) = (atKey xs k).isSome := by
    rw [valV_any, (r.val k).isSome_eq, Option.isSome_map]
  unfold putK storedH
  rw [e]
  by_cases q : (atKey xs k).isSome = true
  · rw [if_pos q, if_pos q]; exact r.repl k ry
  · rw [if_neg q, if_neg q]; exact Paired.snoc r ⟨rfl, hb, ry⟩
theorem KT.keeps {H H' : Hp} {kvs : List (List Key × V)} {xs : List (List Key × Addr × Value)} (r : KT H kvs xs) (ht : ∀ b ys, H b = some (.tup ys) → H' b = some (.tup ys)) : KT H' kvs xs :=
  Paired.mapP r fun _ _ z => ⟨z.1, ht _ _ z.2.1, z.2.2⟩
section
variable {P : Program} {w : World} {H : Hp} {h : Heap} {a : Addr}
theorem rd_of {u : HO} (ok : HOk P w H h) (e : Rd H a u) : ObjOk P w H h a u := e.ok ok
theorem dk_rd {kvs : List (Key × V)} (ok : HOk P w H h) (e : Rd H a (.dK kvs)) : kvs.length ≤ sizeLine ∧ (a == sysModules) = false ∧ ∃ vs, KV kvs vs ∧ h.DictOf (mixKind P w) a vs :=
  show ObjOk P w H h a (.dK kvs) from rd_of ok e
theorem dk_of {kvs : List (Key × V)} (ok : HOk P w H h) (e : H a = some (.dK kvs)) : kvs.length ≤ sizeLine ∧ (a == sysModules) = false ∧ ∃ vs, KV kvs vs ∧ h.DictOf (mixKind P w) a vs := dk_rd ok (.inl e)
theorem key_of {ks : List Key} (ok : HOk P w H h) (e : H a = some (.tup (ks.map kV))) : (tupleKind (mixKind P w)).is h ks a := by
  obtain ⟨_, its, r, o, h1, h2, n, h3⟩ := (show ObjOk P w H h a (.tup (ks.map kV)) from ok a _ e)
  exact ⟨o, its.toArray, n, h1, h2, h3, by simpa using items_are r⟩
theorem dt_rd {kvs : List (List Key × V)} (ok : HOk P w H h) (e : Rd H a (.dT kvs)) : kvs.length ≤ sizeLine ∧ (a == sysModules) = false ∧
    ∃ xs, KT H kvs xs ∧ h.DictOfH (tupleKind (mixKind P w)) a xs := by
  obtain ⟨z, y, xs, r, o, es, ep, h1, h2, h3, h4, h5⟩ := (show ObjOk P w H h a (.dT kvs) from rd_of ok e)
  refine ⟨z, y, xs, r, o, es, ep, h1, h2, h3, h4, fun x hx => ?_, h5⟩
  have all : ∀ {l : List (List Key × V)} {m : List (List Key × Addr × Value)}, KT H l m → ∀ x ∈ m, (tupleKind (mixKind P w)).is h x.1 x.2.1 := by
    intro l m q
    induction q with
    | nil => intro x hx; exact nomatch hx
    | @cons p q ps qs hq t ih =>
      intro x hx
      rcases List.mem_cons.mp hx with e | hx
      · subst e
        exact key_of ok (by rw [← hq.1]; exact hq.2.1)
      · exact ih x hx
  exact all r x hx
theorem dt_of {kvs : List (List Key × V)} (ok : HOk P w H h) (e : H a = some (.dT kvs)) : kvs.length ≤ sizeLine ∧ (a == sysModules) = false ∧
    ∃ xs, KT H kvs xs ∧ h.DictOfH (tupleKind (mixKind P w)) a xs := dt_rd ok (.inl e)
end
def DGet (H : Hp) (a : Addr) (y : V) (r : Option V) : Prop :=
  (∃ kvs k, Rd H a (.dK kvs) ∧ y = kV k ∧ r = valV kvs k) ∨ ∃ kvs k b, Rd H a (.dT kvs) ∧ y = .ref b ∧ H b = some (.tup (k.map kV)) ∧ r = valV kvs k
def DPut (H : Hp) (a : Addr) (y v : V) (H' : Hp) : Prop :=
  (∃ kvs k, H a = some (.dK kvs) ∧ y = kV k ∧ kvs.length < sizeLine ∧ H' = upd H a (.dK (putK kvs k v))) ∨
  ∃ kvs k b, H a = some (.dT kvs) ∧ y = .ref b ∧ H b = some (.tup (k.map kV)) ∧ kvs.length < sizeLine ∧ H' = upd H a (.dT (putK kvs k v))
theorem DPut.k {H : Hp} {a : Addr} {kvs : List (Key × V)} {k : Key} {v : V} (e : H a = some (.dK kvs)) (hl : kvs.length < sizeLine) : DPut H a (kV k) v (upd H a (.dK (putK kvs k v))) := .inl ⟨kvs, k, e, rfl, hl, rfl⟩
section
variable {X : Cx} {pins : List (Addr × Obj)} {σ : St} {H : Hp} {s : Shared} {a : Addr} {y v : V} {u r : Value} {o : Option V} {A : Around} {E : Value → Shared → Prop}
theorem Inv.big (I : Inv X pins σ H s) : sysModules < s.heap.objs.size := by
  have h : mainGlobals < s.heap.objs.size := (I.mod.glob.keeps I.bk).lt
  exact Nat.lt_trans (by decide) h
theorem d_write {h' : Heap} {t' : Nat} {ob : HO} (I : Inv X pins σ H s) (mu : Mut (H a)) (hs : Heap.SameBut a s.heap h') (he : ∃ q, h'.get? a = some q) (new : ObjOk X.prog X.w (upd H a ob) h' a ob) :
    Inv X pins σ (upd H a ob) { s with heap := h', toks := t' } :=
  I.write (x := a) (e := a) mu (.inl rfl) (fun b q hb z => (hs.2 b hb).trans z) he new
theorem dk_new {P : Program} {w : World} {H' : Hp} {h' : Heap} {kvs : List (Key × V)} {vs : List (Key × Value)} (z : kvs.length ≤ sizeLine) (hd : (a == sysModules) = false) (rel : KV kvs vs) (dd : h'.DictOf (mixKind P w) a vs) :
    ObjOk P w H' h' a (.dK kvs) := ⟨z, hd, vs, rel, dd⟩
theorem d_setItem {H' : Hp} {Q : Unit → Shared → Prop} (hu : A.units + 1 < cLine) (I : Inv X pins σ H s) (g : DPut H a y v H') (ry : RelV y u) (rv : RelV v r) (h : ∀ s', Inv X pins σ H' s' → Q () s') :
    wpAny (model X.prog X.w) A (setItem (.ref a) u r) Q E s := by
  rcases g with ⟨kvs, k, e, ey, l, eH⟩ | ⟨kvs, k, b, e, ey, eb, l, eH⟩
  · subst ey eH
    obtain ⟨z, hd, vs, rel, dd⟩ := dk_of I.hok e
    have hz : vs.length ≤ sizeLine := by rw [← rel.length]; exact z
    have hl : (putK kvs k v).length ≤ sizeLine := by have := length_putK kvs k v; omega
    refine wpAny_setItem_pairs (hsz := hz) (kV_is ry) dd fun h' dd' hs => h _ ?_
    have he : ∃ q, h'.get? a = some q := let ⟨q, _, _, hq, _⟩ := dd'; ⟨q, hq⟩
    exact d_write I (by rw [e]; exact True.intro) hs he (dk_new hl hd (rel.put k rv) dd')
  · subst ey eH
    cases (show u = Value.ref b from ry)
    obtain ⟨z, hd, xs, rel, dd⟩ := dt_of I.hok e
    have hz : xs.length ≤ sizeLine := by rw [← Paired.length rel]; exact z
    have hl : (putK kvs k v).length ≤ sizeLine := by have := length_putK kvs k v; omega
    refine wpAny_setItem_heap (hsz := hz) (tupleKind_room_in1 hu) (key_of I.hok eb) dd fun h' dd' hs => h _ ?_
    obtain ⟨q, es, ep, hq, h2, h3, h4, _, h5⟩ := dd'
    refine d_write I (by rw [e]; exact True.intro) hs ⟨q, hq⟩ ⟨hl, hd, _, (rel.put k eb rv).keeps fun c ys ec => ?_, q, es, ep, hq, h2, h3, h4, h5⟩
    rw [upd_ne (ne_of ec e (fun z => nomatch z))]
    exact ec
end
section
variable {X : Cx} {pins : List (Addr × Obj)} {σ : St} {H : Hp} {s : Shared} {a : Addr} {kvs : List (Key × V)} {k : Key} {u : Value} {A : Around} {E : Value → Shared → Prop}
end
def NoSl (i : Expr) : Prop := ∀ ov iv, subscripted i false ov iv = operate [ov, iv] (getItem ov iv)
def tDGet (td ty : TE) : TE := fun σ H Q => td σ H fun x H1 => ty σ H1 fun y H2 => ∃ a v, x = .ref a ∧ DGet H2 a y (some v) ∧ Q v H2
def tDIn (ty td : TE) : TE := fun σ H Q => ty σ H fun y H1 => td σ H1 fun x H2 => ∃ a o, x = .ref a ∧ DGet H2 a y o ∧ Q (.bl o.isSome) H2
def tDNotIn (ty td : TE) : TE := fun σ H Q => ty σ H fun y H1 => td σ H1 fun x H2 => ∃ a o, x = .ref a ∧ DGet H2 a y o ∧ Q (.bl (!o.isSome)) H2
def sDPut (td ty tv : TE) : TS := fun D σ H => tv σ H fun v H1 => td σ H1 fun x H2 => ty σ H2 fun y H3 => ∃ a H4, x = .ref a ∧ DPut H3 a y v H4 ∧ D.nx σ H4
def sDAug (td ty tv : TE) (rd : V → V → Hp → VK → Prop) : TS := fun D σ H => td σ H fun x H1 => ty σ H1 fun y H2 => ∃ a v, x = .ref a ∧ DGet H2 a y (some v) ∧
  tv σ H2 fun y2 H3 => rd v y2 H3 fun z H4 => ∃ H5, DPut H4 a y z H5 ∧ D.nx σ H5
def sDDel (td ty : TE) : TS := fun D σ H => td σ H fun x H1 => ty σ H1 fun y H2 => ∃ a kvs k, x = .ref a ∧ H2 a = some (.dK kvs) ∧ y = kV k ∧ (valV kvs k).isSome = true ∧ D.nx σ (upd H2 a (.dK (dropK kvs k)))
section
variable {X : Cx} {o i e value : Expr} {pos pos' tpos : Pos} {td ty tv : TE}
theorem ps_dput (hu : X.A.units + 1 < cLine) (ho : PE X o td) (hi : PE X i ty) (hv : PE X value tv) (hs : swapsWith value (some (.Subscript o i pos')) pos.line X.env = pure false) :
    PS X (.Assign [.Subscript o i pos'] value pos) (sDPut td ty tv) := by
  intro pins s σ H D I h
  refine wpAny_Assign_Subscript (thn (hv pins s σ H _ I h) fun r s1 ⟨v, H1, I1, rv, q1⟩ => thn (ho pins s1 σ H1 _ I1 q1) fun u s2 ⟨x, H2, I2, rx, q2⟩ => thn (hi pins s2 σ H2 _ I2 q2) fun iv s3 ⟨y, H3, I3, ry, a, H4, ex, g, q3⟩ => ?_) hs
  subst ex
  obtain rfl : u = Value.ref a := rx
  exact d_setItem hu I3 g ry rv fun s4 I4 => ⟨σ, H4, I4, q3⟩
end
theorem dk_empty {P : Program} {w : World} {H : Hp} (h : Heap) (hb : sysModules < h.objs.size) : ObjOk P w H (h.push { cls := .type "dict", data := .dict #[] }) h.objs.size (.dK []) :=
  ⟨Nat.zero_le _, beq_eq_false_iff_ne.mpr (Ne.symm (Nat.ne_of_lt hb)), [], .nil, Heap.DictOf.new h⟩
def tDNewK : TE := fun _ H Q => ∀ p, H p = none → Q (.ref p) (upd H p (.dK []))
def tDNewT : TE := fun _ H Q => ∀ p, H p = none → Q (.ref p) (upd H p (.dT []))
section
variable {X : Cx} {pos : Pos}
theorem pe_dnewK : PE X (.Dict [] [] pos) tDNewK := fun pins s σ H Q I h =>
  wpAny_Dict_empty ⟨.ref s.heap.objs.size, _, I.laid (a := s.heap.objs.size) (o := .dK []) (t' := s.toks) (fun _ _ q => Heap.get?_push_of_some _ q) (Nat.le_refl _) (dk_empty s.heap I.big), rfl, h _ (I.hok.fresh (Nat.le_refl _))⟩
end
def tPairs : List (TE × TE) → St → Hp → (List (V × V) → Hp → Prop) → Prop
  | [], _, H, Q => Q [] H
  | (tk, tv) :: r, σ, H, Q => tk σ H fun x H1 => tv σ H1 fun y H2 => tPairs r σ H2 fun ps H3 => Q ((x, y) :: ps) H3
abbrev VV : List (V × V) → List (Value × Value) → Prop := Paired fun p q => RelV p.1 q.1 ∧ RelV p.2 q.2
def PPs (X : Cx) (pos : Pos) (keys : List (Option Expr)) (values : List Expr) (trs : List (TE × TE)) : Prop :=
  ∀ (pins : List (Addr × Obj)) (s : Shared) (σ : St) (H : Hp) (Q : List (V × V) → Hp → Prop), Inv X pins σ H s → tPairs trs σ H Q →
    wpAny (model X.prog X.w) X.A (evalPairs (pairTrees keys values X.env pos)) (fun vs s' => ∃ ps H', Inv X pins σ H' s' ∧ VV ps vs ∧ Q ps H') X.xe s
def mergeK (kvs more : List (Key × V)) : List (Key × V) := more.foldl (fun acc kv => putK acc kv.1 kv.2) kvs
def tDisp (trs : List (TE × TE)) : TE := fun σ H Q => ∀ p, H p = none → tPairs trs σ (upd H p (.dK [])) fun ps H2 => H2 p = some (.dK []) ∧ ∃ kvs : List (Key × V), ps = kvs.map (fun kv => (kV kv.1, kv.2)) ∧ kvs.length ≤ 15 ∧ Q (.ref p) (upd H2 p (.dK (mergeK [] kvs)))
structure M1 (X : Cx) (o : Expr) (m : Str) (apos : Pos) (e : Expr) (cpos : Pos) : Prop where
  base : attributeBase o m X.env (eval o X.env) = eval o X.env
  few : ((backTo cpos (starEach [e] X.env)).all (fun x => !x.1) && (backToKw cpos (keywordEach [] X.env)).all (fun x => x.1.isSome)
    && decide (([e] : List Expr).length + ([] : List Keyword).length + (if ([] : List Keyword).isEmpty then 0 else 1) < 30)) = true
  line : (apos.endLine == cpos.line) = true
  trees : backTo cpos (starEach [e] X.env) = [(false, eval e X.env)]
structure M2 (X : Cx) (o : Expr) (m : Str) (apos : Pos) (e f : Expr) (cpos : Pos) : Prop where
  base : attributeBase o m X.env (eval o X.env) = eval o X.env
  few : ((backTo cpos (starEach [e, f] X.env)).all (fun x => !x.1) && (backToKw cpos (keywordEach [] X.env)).all (fun x => x.1.isSome)
    && decide (([e, f] : List Expr).length + ([] : List Keyword).length + (if ([] : List Keyword).isEmpty then 0 else 1) < 30)) = true
  line : (apos.endLine == cpos.line) = true
  trees : backTo cpos (starEach [e, f] X.env) = [(false, eval e X.env), (false, eval f X.env)]
def IsD (H : Hp) (a : Addr) : Prop := (∃ kvs, Rd H a (.dK kvs)) ∨ ∃ kvs, Rd H a (.dT kvs)
section
variable {X : Cx} {pins : List (Addr × Obj)} {σ : St} {H : Hp} {s : Shared} {a : Addr} {y d : V} {u r : Value} {o : Option V} {A : Around} {E : Value → Shared → Prop}
end
def tDGet1 (td ty : TE) : TE := fun σ H Q => td σ H fun x H1 => ∃ a, x = .ref a ∧ IsD H1 a ∧ ty σ H1 fun y H2 => ∃ o, DGet H2 a y o ∧ Q (o.getD .non) H2
def tDGet2 (td ty tx : TE) : TE := fun σ H Q => td σ H fun x H1 => ∃ a, x = .ref a ∧ IsD H1 a ∧ ty σ H1 fun y H2 => tx σ H2 fun z H3 => ∃ o, DGet H3 a y o ∧ Q (o.getD z) H3
def tDPop1 (td ty : TE) : TE := fun σ H Q => td σ H fun x H1 => ∃ a, x = .ref a ∧ IsD H1 a ∧ ty σ H1 fun y H2 => ∃ kvs k v, H2 a = some (.dK kvs) ∧ y = kV k ∧ valV kvs k = some v ∧ Q v (upd H2 a (.dK (dropK kvs k)))
def tDPop2 (td ty tx : TE) : TE := fun σ H Q => td σ H fun x H1 => ∃ a, x = .ref a ∧ IsD H1 a ∧ ty σ H1 fun y H2 => tx σ H2 fun z H3 => ∃ kvs k, H3 a = some (.dK kvs) ∧ y = kV k ∧
  (∀ v, valV kvs k = some v → Q v (upd H3 a (.dK (dropK kvs k)))) ∧ (valV kvs k = none → Q z H3)
section
variable {X : Cx} {o e f : Expr} {apos cpos : Pos} {td ty tx : TE}
end
section
variable {X : Cx} {pins : List (Addr × Obj)} {σ : St} {H : Hp} {s : Shared} {a : Addr} {kvs : List (Key × V)} {A : Around} {E : Value → Shared → Prop}
end
section
variable {X : Cx} {pins : List (Addr × Obj)} {σ : St} {H : Hp} {s : Shared} {a : Addr} {y : V} {u : Value} {A : Around} {E : Value → Shared → Prop}
end
end L2
namespace L2
open PySem PySem.Spec PyProof.Rows
theorem feed_list {i l : Addr} (hil : l ≠ i) (xs : Array Value) : Feed i l (fun k h => h.IsListIter i l k ∧ h.IsList l xs) (fun k => xs[k]?) where
  obj := fun k h p => by
    obtain ⟨⟨o, e, _, d⟩, _⟩ := p
    exact ⟨o, e, fun v z => by rw [d] at z; cases z⟩
  keep := fun k h g p q => ⟨p.1.at fun o e => q i o (.inl rfl) e, by
    obtain ⟨o, e, r⟩ := p.2
    exact ⟨o, q l o (.inr rfl) e, r⟩⟩
  item := fun p hx hQ => wpAny_nextOf_list_item p.1 p.2 hx fun g h1 h2 => hQ g ⟨h1, p.2.extBut h2.extBut hil⟩ h2
  stop := fun hh p hx hE => wpAny_nextOf_list_end hh p.1 p.2 hx hE
abbrev yA (h : Heap) (l : Addr) : Heap := h.push { cls := .type "tuple_iterator", data := .fields #[.ref l, .int 0 0] }
abbrev yB (h : Heap) (l m : Addr) : Heap := (yA h l).push { cls := .type "list_iterator", data := .fields #[.ref m, .int 0 0] }
abbrev yC (h : Heap) (l m : Addr) : Heap := (yB h l m).push { cls := .type "tuple", data := .seq #[.ref h.objs.size, .ref (yA h l).objs.size] }
abbrev yD (h : Heap) (l m : Addr) : Heap := (yC h l m).push { cls := .type "tuple", data := .seq #[.none, .none] }
abbrev yE (h : Heap) (l m : Addr) : Heap := (yD h l m).push { cls := .type "zip", data := .fields #[.none, .bool false, .bool false, .ref (yB h l m).objs.size, .ref (yC h l m).objs.size] }
def ItzM (K : PySem.W.Frag) (a b : Addr) : It :=
  ⟨fun i H => ∃ xs ys x y, SqT K H a xs ∧ SqL K H b ys ∧ xs[i]? = some x ∧ ys[i]? = some y,
   fun i H v H' => ∃ p, v = .ref p ∧ H p = none ∧ ∀ xs ys x y, SqT K H a xs → SqL K H b ys → xs[i]? = some x → ys[i]? = some y → H' = upd H p (.tup [x, y]),
   fun i H => ∃ xs ys, SqT K H a xs ∧ SqL K H b ys ∧ (xs.length ≤ i ∨ ys.length ≤ i)⟩
section
variable {X : Cx} {elts : List Expr} {kk : Nat} {tpos : Pos}
def iZipM (K : PySem.W.Frag) (ta : TA) : TI := fun σ H R => ta σ H fun vs H1 => ∃ a b, vs = [.ref a, .ref b] ∧ (∃ xs, SqT K H1 a xs) ∧ (∃ ys, SqL K H1 b ys) ∧ R (ItzM K a b) H1
end
section
variable {X : Cx}
theorem pss_no {b : List Stmt} : PSs X b (fun _ _ _ => False) := fun _ _ _ _ _ _ h => h.elim
end
theorem FnOk.no {P : Program} {w : World} {K : PySem.W.Frag} {mg : Str → Option Value} {base : Heap} {CX : CXT} {k : Nat} {f : Addr} {fd : FuncData} {ps : List Str} : FnOk P w K mg base CX k f fd ps (fun _ _ _ _ => False) :=
  ⟨fun _ _ _ _ h => h.elim, fun _ _ _ _ _ _ _ _ _ _ _ _ _ h => h.elim⟩
section
variable {X : Cx}
def rNeDi (K : PySem.W.Frag) : R2 := fun x y H Q => ∃ (a b : Addr) (kvs lvs : List (Key × V)), x = .ref a ∧ y = .ref b ∧ H a = some (.dK kvs) ∧ H b = some (.dK lvs) ∧ kvs.length = lvs.length ∧
  (∀ kv ∈ kvs, ∃ v d, valV lvs kv.1 = some v ∧ DatAt K H kv.2 d ∧ DatAt K H v d ∧ d.hgt ≤ 30) ∧ Q (.bl false) H
end
end L2
namespace L2
open PySem PySem.Spec PySem.W PyProof.Rows
section
variable {X : Cx} {CX : CXT} {k : Nat} {f C : Addr} {fd : FuncData} {ps : List Str} {sp : Sp} {dvs : List V} {ds : List Value} {E : XK} {x m : Str} {p pos apos : Pos} {e o : Expr} {es : List Expr} {ta : TE} {t : TA}
structure ClsM (K : Frag) (C : Addr) (m : Str) (f : Addr) : Prop where
  ga : specialIn K (.ref C) "__getattribute__" = some (some (.builtin "type.__getattribute__"))
  rd : readsIn K C (.type "type") = true
  at_ : findCls K (.ref C) (.type "type") m = some (.val (.ref f))
  kp : keepIn K (.ref f) = true
def tMeth2 (C C2 : Addr) (m : Str) (sp sp2 : Sp) (E E2 : XK) (ta : TE) (t : TA) : TE := fun σ H Q => ta σ H fun x H1 => ∃ a dx fs, x = .ref a ∧ fs.lookup m = none ∧
  ((H1 a = some (.ins C dx fs) ∧ t σ H1 fun vs H2 => sp (x :: (vs ++ [])) H2 Q E) ∨ (H1 a = some (.ins C2 dx fs) ∧ t σ H1 fun vs H2 => sp2 (x :: (vs ++ [])) H2 Q E2))
end
section
variable {X : Cx}
def rEqLL (K : PySem.W.Frag) : R2 := fun x y H Q => ∃ a b ps qs, x = .ref a ∧ y = .ref b ∧ LLM K H a ps ∧ LLM K H b qs ∧ ps.map (·.2) = qs.map (·.2) ∧ (∀ p ∈ ps, Dt.hgts p.2 ≤ 30) ∧ Q (.bl true) H
theorem op_eqLL (hu : X.A.units + 64 < cLine) : OpR X (compareOp .Eq) (rEqLL X.K) := by
  intro pins s σ H x y u v Q I ru rv h
  obtain ⟨a, b, ps, qs, rfl, rfl, ha, hb, he, hh, q⟩ := h
  cases (show u = Value.ref a from ru)
  cases (show v = Value.ref b from rv)
  obtain ⟨its, r1, p1, _⟩ := I.list (SqL.of ha.at_)
  obtain ⟨its2, r2, p2, _⟩ := I.list (SqL.of hb.at_)
  have l1 := r1.length
  have l2 := r2.length
  have le := congrArg List.length he
  rw [List.length_map] at l1 l2
  rw [List.length_map, List.length_map] at le
  have hsz : its.toArray.size = its2.toArray.size := by
    rw [List.size_toArray, List.size_toArray]
    omega
  have r := SeqAt.RcAt.lists (A := X.A) (e := fun _ => true) p1.isList p2.isList hsz (by omega) fun j j1 j2 => by
    rw [List.size_toArray] at j1 j2
    have g1 : ps[j]? = some ps[j] := List.getElem?_eq_getElem (by omega)
    have g2 : qs[j]? = some qs[j] := List.getElem?_eq_getElem (by omega)
    obtain ⟨u, eu, ru⟩ := r1.get (i := j) (x := .ref ps[j].1) (by rw [List.getElem?_map, g1]; rfl)
    obtain ⟨v, ev, rv⟩ := r2.get (i := j) (x := .ref qs[j].1) (by rw [List.getElem?_map, g2]; rfl)
    have f1 : its.toArray[j] = Value.ref ps[j].1 := by
      have := (List.getElem?_eq_some_iff.mp eu).2
      rw [← show u = Value.ref ps[j].1 from ru]
      simpa using this
    have f2 : its2.toArray[j] = Value.ref qs[j].1 := by
      have := (List.getElem?_eq_some_iff.mp ev).2
      rw [← show v = Value.ref qs[j].1 from rv]
      simpa using this
    rw [f1, f2]
    have ed : qs[j].2 = ps[j].2 := by
      have z := congrArg (fun l => l[j]?) he
      simp only [List.getElem?_map, g1, g2] at z
      exact (Option.some.inj z).symm
    exact eqAt_lists I (by show X.A.units + 1 + 40 < cLine; omega) (ha.it _ (List.getElem_mem _)) (by rw [← ed]; exact hb.it _ (List.getElem_mem _)) (hh _ (List.getElem_mem _))
  have ea : (List.range its.toArray.size).all (fun _ => true) = true := by simp
  rw [ea] at r
  exact r _ _ _ _ (fin_bl I q rfl)
def rEqDi (K : PySem.W.Frag) : R2 := fun x y H Q => ∃ (a b : Addr) (kvs lvs : List (Key × V)), x = .ref a ∧ y = .ref b ∧ H a = some (.dK kvs) ∧ H b = some (.dK lvs) ∧ kvs.length = lvs.length ∧
  (∀ kv ∈ kvs, ∃ v d, valV lvs kv.1 = some v ∧ DatAt K H kv.2 d ∧ DatAt K H v d ∧ d.hgt ≤ 30) ∧ Q (.bl true) H
end
end L2
namespace L2
open PySem PySem.Spec PySem.W PyProof.Rows
theorem caps2 {X : Cx} {scope : Scope} {Nc : List Str} {x y : Str} {c d : Addr} (i j i2 j2 : Nat) (ns : List (Str × NameKind)) (hrel : (relabel scope X.env).names = ns) (hclos : closureFor scope X.env = pure [(x, c), (y, d)]) (hk : scope.kind = .function)
    (hnc : ∀ z ∈ scope.names, z.2 ≠ .cell) (hnm : ∀ z ∈ scope.names, z.2 = .local → scope.names.lookup z.1 = some .local) (hcx : X.env.cells.lookup x = some c) (hcy : X.env.cells.lookup y = some d) (hii : i ≠ i2)
    (honly : ∀ z ∈ ns, z.2 = .cell ∨ z.2 = .free → z.1 = x ∨ z.1 = y) (hinx : ns.lookup x = some .cell) (hiny : ns.lookup y = some .cell) (hkx : X.env.kindOf x = some .cell) (hky : X.env.kindOf y = some .cell)
    (hNx : Nc[i]? = some x) (hNy : Nc[i2]? = some y) (hjx : X.N[j]? = some x) (hjy : X.N[j2]? = some y) :
    Caps X scope [(x, c), (y, d)] Nc (fun σ => ((List.replicate Nc.length none).set i (σ.getD j none)).set i2 (σ.getD j2 none)) where
  clos := hclos
  kind := hk
  nocell := hnc
  names := hnm
  cells := fun z e' e => by
    rw [List.lookup_cons] at e
    split at e
    · rename_i q
      have q' : z = x := by simpa using q
      cases e
      rw [q']
      exact hcx
    · rw [List.lookup_cons] at e
      split at e
      · rename_i q
        have q' : z = y := by simpa using q
        cases e
        rw [q']
        exact hcy
      · cases e
  has := fun z h => by
    rw [hrel] at h
    have e : z = x ∨ z = y := by
      rcases h with h | h
      · exact honly _ (PySem.mem_of_lookup h) (.inl rfl)
      · exact honly _ (PySem.mem_of_lookup h) (.inr rfl)
    rw [List.lookup_cons]
    split
    · exact ⟨c, rfl⟩
    · rename_i q
      have q' : z ≠ x := by simpa using q
      rcases e with e | e
      · exact absurd e q'
      · subst e
        exact ⟨d, by simp [List.lookup_cons]⟩
  len := fun σ => by simp
  cap := fun σ k z v e1 e2 _ => by
    have get : ∀ {q : Nat}, σ.getD q none = some v → σ[q]? = some (some v) := fun {q} e3 => by
      rw [List.getD_eq_getElem?_getD] at e3
      cases h : σ[q]? with
      | none => rw [h] at e3; cases e3
      | some o =>
        rw [h] at e3
        have e4 : o = some v := e3
        rw [e4]
    by_cases q2 : k = i2
    · subst q2
      rw [hNy] at e1
      cases e1
      have hlt : k < Nc.length := (List.getElem?_eq_some_iff.mp hNy).1
      rw [List.getElem?_set_self (by simpa using hlt)] at e2
      exact ⟨.inl (by rw [hrel]; exact hiny), .inl hky, j2, hjy, get (Option.some.inj e2), .inr (.inl hky)⟩
    · rw [List.getElem?_set_ne (Ne.symm q2)] at e2
      by_cases q : k = i
      · subst q
        rw [hNx] at e1
        cases e1
        have hlt : k < Nc.length := (List.getElem?_eq_some_iff.mp hNx).1
        rw [List.getElem?_set_self (by simpa using hlt)] at e2
        exact ⟨.inl (by rw [hrel]; exact hinx), .inl hkx, j, hjx, get (Option.some.inj e2), .inr (.inl hkx)⟩
      · rw [List.getElem?_set_ne (Ne.symm q), List.getElem?_replicate] at e2
        split at e2 <;> cases e2
end L2
namespace L2
open PySem PySem.Spec PySem.W PyProof.Rows
section
variable {X : Cx} {K : Frag}
theorem ix_listK (hK : X.K = K) : IxR X (rIxL K) := by
  subst hK
  exact ix_list
theorem call_len_seqK (hK : X.K = K) : CallR X (.builtin "len") (fun xs H Q => ∃ p ys, xs = [.ref p] ∧ (SqL K H p ys ∨ SqT K H p ys) ∧ Q (.int ys.length) H) := by
  subst hK
  exact call_len_seq
end
def Cold (H H' : Hp) : Prop := ∀ b o, o ≠ .lst [] → H b = some o → H' b = some o
section
variable {K : Frag} {H H' H2 : Hp}
theorem Cold.tup {r : Addr} {vs : List V} (e : Cold H H') (h : SqT K H r vs) : SqT K H' r vs := by
  rcases h with (h | ⟨o, h⟩) | h
  · exact .inl (.inl (e _ _ (fun z => nomatch z) h))
  · exact .inl (.inr ⟨o, e _ _ (fun z => nomatch z) h⟩)
  · exact .inr h
mutual
theorem DatAt.cold (e : Cold H H') : ∀ {v : V} {d : Dt}, DatAt K H v d → DatAt K H' v d
  | v, .non, h => by simpa [DatAt] using h
  | v, .int i, h => by simpa [DatAt] using h
  | v, .str i, h => by simpa [DatAt] using h
  | v, .tup ds, h => by
    obtain ⟨r, vs, rfl, h1, h2⟩ := h.un
    exact .tup (e.tup h1) (DatsAt.cold e h2)
theorem DatsAt.cold (e : Cold H H') : ∀ {vs : List V} {ds : List Dt}, DatsAt K H vs ds → DatsAt K H' vs ds
  | vs, [], h => by
    rw [h.un0]
    exact .nil
  | vs, d :: ds, h => by
    obtain ⟨v, r, rfl, h1, h2⟩ := h.un
    exact .cons (DatAt.cold e h1) (DatsAt.cold e h2)
end
end
end L2
namespace M44
def prodI : List Int → Int
  | [] => 1
  | x :: r => x * prodI r
theorem prodI_append : ∀ (a b : List Int), prodI (a ++ b) = prodI a * prodI b
  | [], b => by simp [prodI]
  | x :: a, b => by simp [prodI, prodI_append a b, Int.mul_assoc]
theorem prodI_pos : ∀ {a : List Int}, (∀ x ∈ a, 0 < x) → 0 < prodI a
  | [], _ => by decide
  | x :: a, h => Int.mul_pos (h x (by simp)) (prodI_pos fun y hy => h y (by simp [hy]))
theorem prodI_le {m : Int} (hm : 1 ≤ m) : ∀ {a : List Int}, (∀ x ∈ a, 0 ≤ x ∧ x ≤ m) → 0 ≤ prodI a ∧ prodI a ≤ m ^ a.length
  | [], _ => by simp [prodI]
  | x :: a, h => by
    obtain ⟨p0, p1⟩ := prodI_le hm (a := a) fun y hy => h y (by simp [hy])
    obtain ⟨x0, x1⟩ := h x (by simp)
    refine ⟨Int.mul_nonneg x0 p0, ?_⟩
    show x * prodI a ≤ m ^ (a.length + 1)
    rw [Int.pow_succ, Int.mul_comm (m ^ a.length) m]
    exact Int.mul_le_mul x1 p1 p0 (by omega)
def mx (ws : List Int) : Int := ws.foldr max 0
theorem le_mx : ∀ {ws : List Int} {a : Int}, a ∈ ws → a ≤ mx ws
  | x :: r, a, h => by
    show a ≤ max x (mx r)
    rcases List.mem_cons.mp h with rfl | h
    · omega
    · have := le_mx h
      omega
theorem sum_pos : ∀ {ws : List Int}, (∀ a ∈ ws, 0 < a) → ws ≠ [] → 0 < ws.sum
  | [x], h, _ => by
    have := h x (by simp)
    simp
    exact this
  | x :: y :: r, h, _ => by
    have := h x (by simp)
    have ih := sum_pos (ws := y :: r) (fun a ha => h a (List.mem_cons_of_mem _ ha)) (by simp)
    rw [List.sum_cons]
    omega
def Good (D : List (List Int)) : Prop := ∀ d ∈ D, d ≠ [] ∧ ∀ a ∈ d, 0 < a
def Pm (D : List (List Int)) (k : Nat) : Int := prodI ((D.take k).map mx)
def Ts (D : List (List Int)) (k : Nat) : Int := prodI ((D.drop k).map List.sum)
def bet (D : List (List Int)) (k h : Nat) : List (List Int) := (D.drop (k + 1)).take (h - (k + 1))
theorem Ts_pos {D : List (List Int)} (g : Good D) (k : Nat) : 0 < Ts D k := prodI_pos fun x hx => by
  obtain ⟨d, hd, rfl⟩ := List.mem_map.mp hx
  have := g d (List.mem_of_mem_drop hd)
  exact sum_pos this.2 this.1
theorem Ts_cut {D : List (List Int)} {k h : Nat} {d : List Int} (hd : D[k]? = some d) (hk : k < h) : Ts D k = d.sum * prodI ((bet D k h).map List.sum) * Ts D h := by
  have hlt := (List.getElem?_eq_some_iff.mp hd).1
  have e : D.drop k = d :: (bet D k h ++ D.drop h) := by
    rw [List.drop_eq_getElem_cons hlt, (List.getElem?_eq_some_iff.mp hd).2]
    congr 1
    unfold bet
    rw [show D.drop h = (D.drop (k + 1)).drop (h - (k + 1)) by rw [List.drop_drop]; congr 1; omega, List.take_append_drop]
  unfold Ts
  rw [e, List.map_cons, List.map_append]
  show d.sum * prodI _ = _
  rw [prodI_append, Int.mul_assoc]
end M44
namespace M44
inductive Prt
  | no
  | lf
  | ask (k : Nat) (ch : List Nat)
def site (L : Nat) : Prt → Nat
  | .ask k _ => k
  | _ => L
def way (D : List (List Int)) (k h : Nat) (w g : Int) : Int := w * prodI ((bet D k h).map mx) * g
inductive Gv (D : List (List Int)) (ps : List Prt) (gs : List Int) : Prt → Int → Prop
  | no : Gv D ps gs .no 0
  | lf : Gv D ps gs .lf 1
  | ask (k : Nat) (ch : List Nat) (g : Int) (d : List Int) (hd : D[k]? = some d) (lch : ch.length = d.length)
      (hall : ∀ (j c : Nat) (w : Int), ch[j]? = some c → d[j]? = some w → ∃ p' g', ps[c]? = some p' ∧ gs[c]? = some g' ∧ k < site D.length p' ∧ way D k (site D.length p') w g' ≤ g)
      (hone : ∃ (j c : Nat) (w : Int) (p' : Prt) (g' : Int), ch[j]? = some c ∧ d[j]? = some w ∧ ps[c]? = some p' ∧ gs[c]? = some g' ∧ way D k (site D.length p') w g' = g) : Gv D ps gs (.ask k ch) g
inductive Gs (D : List (List Int)) : List Prt → List Int → Prop
  | nil : Gs D [] []
  | snoc (ps : List Prt) (gs : List Int) (p : Prt) (g : Int) (h : Gs D ps gs) (v : Gv D ps gs p g) (h0 : 0 ≤ g) (h1 : Pm D (site D.length p) * g ≤ Pm D D.length) : Gs D (ps ++ [p]) (gs ++ [g])
def hvs (D : List (List Int)) (ps : List Prt) (gs : List Int) : List Int := List.zipWith (fun p g => Pm D (site D.length p) * g) ps gs
theorem zw_get {α β γ : Type} {f : α → β → γ} {a : List α} {b : List β} {M : γ} (h : M ∈ List.zipWith f a b) : ∃ (j : Nat) (x : α) (y : β), a[j]? = some x ∧ b[j]? = some y ∧ M = f x y := by
  obtain ⟨j, hj⟩ := List.mem_iff_getElem?.mp h
  rw [List.getElem?_zipWith] at hj
  cases ha : a[j]? with
  | none => rw [ha] at hj; cases hj
  | some x =>
    cases hb : b[j]? with
    | none => rw [ha, hb] at hj; cases hj
    | some y =>
      rw [ha, hb] at hj
      exact ⟨j, x, y, ha, hb, (Option.some.inj hj).symm⟩
theorem bet_self (D : List (List Int)) (k : Nat) : bet D k (k + 1) = [] := by
  unfold bet
  rw [Nat.sub_self, List.take_zero]
theorem Ts_succ {D : List (List Int)} {k : Nat} {d : List Int} (hd : D[k]? = some d) : Ts D k = d.sum * Ts D (k + 1) := by
  rw [Ts_cut hd (Nat.lt_succ_self k), bet_self]
  simp [prodI]
def Bt (D : List (List Int)) (k : Nat) : Int := Pm D k * Ts D k
def Ss (D : List (List Int)) (k : Nat) : Int := prodI ((D.take k).map List.sum)
theorem pow_mono {m : Int} (hm : 1 ≤ m) {a b : Nat} (h : a ≤ b) : m ^ a ≤ m ^ b := by
  obtain ⟨c, rfl⟩ : ∃ c, b = a + c := ⟨b - a, by omega⟩
  rw [Int.pow_add]
  have h1 : ∀ c : Nat, 1 ≤ m ^ c := fun c => by
    induction c with
    | zero => simp
    | succ c ih =>
      rw [Int.pow_succ]
      have := Int.mul_le_mul ih hm (by decide) (by omega)
      omega
  have h2 := Int.mul_le_mul_of_nonneg_left (h1 c) (show 0 ≤ m ^ a by have := h1 a; omega)
  omega
theorem Ts_le {D : List (List Int)} {m : Int} (hm : 1 ≤ m) (g : Good D) (h : ∀ d ∈ D, d.sum ≤ m) (k : Nat) : Ts D k ≤ m ^ D.length := by
  have := (prodI_le hm (a := (D.drop k).map List.sum) fun x hx => by
    obtain ⟨d, hd, rfl⟩ := List.mem_map.mp hx
    have hd := List.mem_of_mem_drop hd
    have := g d hd
    exact ⟨Int.le_of_lt (sum_pos this.2 this.1), h d hd⟩).2
  refine Int.le_trans this ?_
  rw [List.length_map, List.length_drop]
  exact pow_mono hm (by omega)
end M44
namespace M44
theorem getD_of {α : Type} {l : List α} {k : Nat} {x a : α} (h : l[k]? = some x) : l.getD k a = x := by rw [List.getD_eq_getElem?_getD, h]; rfl
def wv (D : List (List Int)) (row : List Nat) (k : Nat) : Int := (D.getD k []).getD (row.getD k 0) 0
def Wp (D : List (List Int)) (row : List Nat) (s : Nat) : Nat → Int
  | 0 => 1
  | n + 1 => Wp D row s n * wv D row (s + n)
abbrev Wt (D : List (List Int)) (row : List Nat) (s : Nat) : Int := Wp D row s (D.length - s)
theorem Wp_add (D : List (List Int)) (row : List Nat) (s a : Nat) : ∀ b, Wp D row s (a + b) = Wp D row s a * Wp D row (s + a) b
  | 0 => by show Wp D row s a = Wp D row s a * 1; rw [Int.mul_one]
  | b + 1 => by
    show Wp D row s (a + b) * wv D row (s + (a + b)) = Wp D row s a * (Wp D row (s + a) b * wv D row (s + a + b))
    rw [Wp_add D row s a b, Int.mul_assoc, Nat.add_assoc]
structure Rv (D : List (List Int)) (row : List Nat) : Prop where
  len : row.length = D.length
  it : ∀ (k : Nat) (d : List Int), D[k]? = some d → ∃ j, row[k]? = some j ∧ j < d.length
inductive Ld (ps : List Prt) (row : List Nat) : Nat → Bool → Prop
  | no (i : Nat) (h : ps[i]? = some .no) : Ld ps row i false
  | lf (i : Nat) (h : ps[i]? = some .lf) : Ld ps row i true
  | ask (i k j c : Nat) (ch : List Nat) (b : Bool) (h : ps[i]? = some (.ask k ch)) (hj : row[k]? = some j) (hc : ch[j]? = some c) (t : Ld ps row c b) : Ld ps row i b
def Po (D : List (List Int)) (ps : List Prt) : Prop := ∀ (i k : Nat) (ch : List Nat), ps[i]? = some (.ask k ch) → ∃ d, D[k]? = some d ∧ ch.length = d.length ∧ ∀ c ∈ ch, c < i ∧ ∃ p', ps[c]? = some p' ∧ k < site D.length p'
noncomputable def am (ws : List Int) : Nat := if h : ∃ j, j < ws.length ∧ ws.getD j 0 = mx ws then h.choose else 0
theorem wv_pos {D : List (List Int)} (g : Good D) {row : List Nat} (v : Rv D row) {k : Nat} {d : List Int} (hd : D[k]? = some d) : ∃ j, row[k]? = some j ∧ j < d.length ∧ wv D row k = d.getD j 0 ∧ 0 < wv D row k ∧ wv D row k ≤ mx d := by
  obtain ⟨j, hj, lj⟩ := v.it k d hd
  have e : wv D row k = d.getD j 0 := by
    unfold wv
    rw [getD_of hd, getD_of hj]
  have m : d.getD j 0 ∈ d := by
    rw [List.getD_eq_getElem?_getD, List.getElem?_eq_getElem lj]
    exact List.getElem_mem lj
  refine ⟨j, hj, lj, e, ?_, ?_⟩
  · rw [e]
    exact (g d (List.mem_of_getElem? hd)).2 _ m
  · rw [e]
    exact le_mx m
theorem Wp_nn {D : List (List Int)} (g : Good D) {row : List Nat} (v : Rv D row) (s : Nat) : ∀ n, s + n ≤ D.length → 0 < Wp D row s n
  | 0, _ => by show (0 : Int) < 1; decide
  | n + 1, h => by
    have hm : s + n < D.length := by omega
    obtain ⟨_, _, _, _, p, _⟩ := wv_pos g v (List.getElem?_eq_getElem hm)
    exact Int.mul_pos (Wp_nn g v s n (by omega)) p
structure Bst (D : List (List Int)) (ps : List Prt) (rows : List (List Nat)) (i s : Nat) (g : Int) : Prop where
  nn : 0 ≤ g
  up : ∀ row ∈ rows, Ld ps row i true → Wt D row s ≤ g
  at_ : g = 0 ∨ ∃ row ∈ rows, Ld ps row i true ∧ Wt D row s = g
end M44
namespace L2
open PySem PySem.Spec PyProof.Rows PySem.W
abbrev viewO (d : Addr) : Obj := { cls := .type "dict_items", data := .fields #[.ref d] }
section
variable {X : Cx}
def rItems : V → List V → Hp → VK → Prop := fun x vs H Q => ∃ d kvs, x = .ref d ∧ vs = [] ∧ H d = some (.dK kvs) ∧ ∀ v, H v = none → Q (.ref v) (upd H v (ObO v (viewO d)))
theorem mt_items : MtR X "dict.items" rItems := by
  intro pins s σ H x vs v us Q I rx rv h
  obtain ⟨d, kvs, rfl, rfl, hd, q⟩ := h
  cases rx
  have hus := rv.zero
  subst hus
  obtain ⟨hz, hs, ws, kv, hD⟩ := (show ObjOk X.prog X.w H s.heap d (.dK kvs) from I.hok d _ hd)
  refine call_meetsIn PySem.F.slot_dict_items hD.typeIs PySem.F.entry_dict_items (PySem.F.args_dict_items_1 _) (meets_dict_items (mixKind X.prog X.w) d hs) ⟨⟨_, hD⟩, ?_⟩
  exact ⟨.ref s.heap.objs.size, _, I.laid (t' := s.toks) (o := ObO s.heap.objs.size (viewO d)) (fun b o e => Heap.get?_push_of_some _ e) (Nat.le_refl _) (ob_ok (Heap.get?_push_size _ rfl)), rfl, q _ (I.hok.fresh (Nat.le_refl _))⟩
end
section
variable {prog : Program} {w : World} {A : Around} {s : Shared} {E : Value → Shared → Prop}
theorem sort_tail {us : List Value} {R : Value → Shared → Prop} (few : us.length < 64) (lt : Nat → Nat → Bool) (κ : SortKind)
    (kind : ∀ z : Shared, (∀ b o, s.heap.get? b = some o → z.heap.get? b = some o) → 2 ≤ us.length → ∀ Q : SortKind → Shared → Prop, Q κ z → wpAny (model prog w) A.in1.in1 (keyKind' us.toArray) Q (fun _ _ => False) z)
    (ask : ∀ z : Shared, (∀ b o, s.heap.get? b = some o → z.heap.get? b = some o) → ∀ i j (C : Bool → Shared → Prop), i < us.length → j < us.length → C (lt i j) z → kas_ask prog w A.in1.in1 κ us i j C z)
    (done : ∀ (D : Addr) (p : Array Nat) (g : Heap) (c : Nat), s.heap.objs.size ≤ D → Pl us.length p → (∀ b o, s.heap.get? b = some o → g.get? b = some o) → g.get? D = some (seqObj "list" (p.toList.map fun i => us.getD i Value.none).toArray c) →
      R (.ref D) { s with heap := g }) :
    wpAny (model prog w) A.in1 (call (.builtin "list.sort") [.ref s.heap.objs.size]) (fun _ s' => R (.ref s.heap.objs.size) s') E { s with heap := s.heap.push (seqObj "list" us.toArray 0) } := by
  have kept : ∀ b o, s.heap.get? b = some o → (s.heap.push (seqObj "list" us.toArray 0)).get? b = some o := fun b o e => Heap.get?_push_of_some _ e
  have stands : (s.heap.push (seqObj "list" us.toArray 0)).get? s.heap.objs.size = some (seqObj "list" us.toArray 0) := Heap.get?_push_size _ rfl
  have off : ∀ b o, s.heap.get? b = some o → b ≠ s.heap.objs.size := fun b o e => Nat.ne_of_lt (Heap.lt_size e)
  refine wpAny_call_entry slot_list_sort (show Shared.TypeIs { s with heap := s.heap.push (seqObj "list" us.toArray 0) } (.ref s.heap.objs.size) "list" from ⟨_, stands, rfl⟩) entry_list_sort ?body (args_list_sort _)
  case body =>
    refine lsort (s := { s with heap := s.heap.push (seqObj "list" us.toArray 0) }) stands few lt κ (fun z hz h2 Q q => kind z (fun b o e => hz b o (off b o e) (kept b o e)) h2 Q q) (fun z hz => ask z fun b o e => hz b o (off b o e) (kept b o e)) fun p g c k1 k2 k3 => ?_
    exact ⟨_, rfl, done _ p g c (Nat.le_refl _) k1 (fun b o e => k2 b o (off b o e) (kept b o e)) k3⟩
end
section
variable {X : Cx}
theorem Inv.lays {pins : List (Addr × Obj)} {σ : St} {H H' : Hp} {s : Shared} {h' : Heap} {t' : Nat} (I : Inv X pins σ H s) (k : ∀ b u, s.heap.get? b = some u → h'.get? b = some u) (old : ∀ b, b < s.heap.objs.size → H' b = H b)
    (new : ∀ b u, s.heap.objs.size ≤ b → H' b = some u → ObjOk X.prog X.w H' h' b u) : Inv X pins σ H' { s with heap := h', toks := t' } := by
  have keep : ∀ {b : Addr} {u : HO}, H b = some u → H' b = some u := fun {b u} e => by rw [old b (I.hok.lt e)]; exact e
  refine I.un ⟨fun b u q _ _ _ => k b u q, fun b u q _ _ _ => ⟨u.slots, k b u q⟩, fun b u q n _ => by rw [old b (Heap.lt_size q)]; exact n, fun b u q _ => ⟨u, k b u q⟩, fun b xs q => keep q, fun b u xs q => keep q, fun b ps q => ⟨#[], by rw [keep q]; simp⟩⟩ fun b u e => ?_
  by_cases hb : b < s.heap.objs.size
  · rw [old b hb] at e
    exact (I.hok b u e).stay (fun c v _ q => k c v q) (fun c q => keep q) fun c xs q => keep q
  · exact new b u (Nat.le_of_not_lt hb) e
theorem paired_r {α β : Type} {F : α → β → Prop} : ∀ {l₁ : List α} {l₂ : List β} {j : Nat} {y : β}, Paired F l₁ l₂ → l₂[j]? = some y → ∃ x, l₁[j]? = some x ∧ F x y
  | _, _, _, _, .nil, e => by simp at e
  | _, _, 0, _, .cons r _, e => by simp at e; subst e; exact ⟨_, rfl, r⟩
  | _, _, j + 1, y, .cons _ t, e => by
    obtain ⟨x, h1, h2⟩ := paired_r t (show _ = some y by simpa using e)
    exact ⟨x, by simpa using h1, h2⟩
def layT (H : Hp) : List Addr → List (Str × Int) → Hp
  | a :: as, p :: ps => upd (layT H as ps) a (.tup [.str p.1, .int p.2])
  | _, _ => H
theorem layT_old {H : Hp} {b : Addr} : ∀ {as : List Addr} {ps : List (Str × Int)}, (∀ a ∈ as, b ≠ a) → layT H as ps b = H b
  | [], _, _ => by unfold layT; rfl
  | _ :: _, [], _ => by unfold layT; rfl
  | a :: as, p :: ps, h => by
    unfold layT
    rw [upd_ne (h a (List.mem_cons_self ..))]
    exact layT_old fun c hc => h c (List.mem_cons_of_mem _ hc)
theorem layT_new {H : Hp} {b : Addr} {u : HO} : ∀ {as : List Addr} {ps : List (Str × Int)}, layT H as ps b = some u → H b = some u ∨ ∃ (j : Nat) (p : Str × Int), as[j]? = some b ∧ ps[j]? = some p ∧ u = .tup [.str p.1, .int p.2]
  | [], _, e => .inl (by unfold layT at e; exact e)
  | _ :: _, [], e => .inl (by unfold layT at e; exact e)
  | a :: as, p :: ps, e => by
    unfold layT at e
    by_cases z : b = a
    · subst z
      rw [upd_same] at e
      cases e
      exact .inr ⟨0, p, rfl, rfl, rfl⟩
    · rw [upd_ne z] at e
      rcases layT_new e with y | ⟨j, q, e1, e2, e3⟩
      · exact .inl y
      · exact .inr ⟨j + 1, q, by simpa using e1, by simpa using e2, e3⟩
theorem layT_dats {K : PySem.W.Frag} {H : Hp} : ∀ {as : List Addr} {ps : List (Str × Int)}, as.length = ps.length → as.Pairwise (· < ·) → DatsAt K (layT H as ps) (as.map V.ref) (ps.map pairD)
  | [], [], _, _ => .nil
  | [], _ :: _, hl, _ => by simp at hl
  | _ :: _, [], hl, _ => by simp at hl
  | a :: as, p :: ps, hl, hr => by
    have hr' := List.pairwise_cons.mp hr
    have ih := layT_dats (K := K) (H := H) (as := as) (ps := ps) (by simpa using hl) hr'.2
    unfold layT
    refine .cons (.tup (SqT.of upd_same) (.cons (.str _) (.cons (.int _) .nil))) ?_
    have mv : ∀ {as2 : List Addr} {ps2 : List (Str × Int)} {H1 : Hp}, (∀ b ∈ as2, b ≠ a) → DatsAt K H1 (as2.map V.ref) (ps2.map pairD) → (∀ b ∈ as2, ∃ t, H1 b = some (.tup t)) → as2.length = ps2.length → DatsAt K (upd H1 a (.tup [.str p.1, .int p.2])) (as2.map V.ref) (ps2.map pairD) := fun {as2} => by
      induction as2 with
      | nil =>
        intro ps2 H1 _ _ _ hl
        cases ps2 with
        | nil => exact .nil
        | cons q r => simp at hl
      | cons b bs ihb =>
        intro ps2 H1 hne hd ht hl
        cases ps2 with
        | nil => simp at hl
        | cons q qs =>
          obtain ⟨v, r, ev, h1, h2⟩ := DatsAt.un (d := pairD q) (ds := qs.map pairD) hd
          cases ev
          obtain ⟨t, et⟩ := ht b (List.mem_cons_self ..)
          refine .cons ?_ (ihb (fun c hc => hne c (List.mem_cons_of_mem _ hc)) h2 (fun c hc => ht c (List.mem_cons_of_mem _ hc)) (by simpa using hl))
          obtain ⟨r, vs, e1, e2, e3⟩ := DatAt.un (ds := [.str q.1, .int q.2]) h1
          cases e1
          obtain ⟨x, y, rfl, e4, e5⟩ := e3.two
          rw [e4.str_eq, e5.int_eq] at e2
          refine .tup (vs := [.str q.1, .int q.2]) ?_ (.cons (.str _) (.cons (.int _) .nil))
          have nb := hne b (List.mem_cons_self ..)
          rcases e2 with (z | ⟨o, z⟩) | z
          · exact .inl (.inl (by rw [upd_ne nb]; exact z))
          · exact .inl (.inr ⟨o, by rw [upd_ne nb]; exact z⟩)
          · exact .inr z
    refine mv (fun b hb => Nat.ne_of_gt (hr'.1 b hb)) ih (fun b hb => ?_) (by simpa using hl)
    obtain ⟨j, hj⟩ := List.mem_iff_getElem?.mp hb
    have : ∀ {as : List Addr} {ps : List (Str × Int)} {j : Nat} {b : Addr}, as.length = ps.length → as.Pairwise (· < ·) → as[j]? = some b → ∃ t, layT H as ps b = some (.tup t) := fun {as} => by
      induction as with
      | nil => intro ps j b _ _ h; simp at h
      | cons a as ih2 =>
        intro ps j b hl hr h
        cases ps with
        | nil => simp at hl
        | cons p ps =>
          have hr' := List.pairwise_cons.mp hr
          unfold layT
          cases j with
          | zero => cases h; exact ⟨_, upd_same⟩
          | succ j =>
            have h' : as[j]? = some b := by simpa using h
            rw [upd_ne (Nat.ne_of_gt (hr'.1 b (List.mem_of_getElem? h')))]
            exact ih2 (by simpa using hl) hr'.2 h'
    exact this (by simpa using hl) hr'.2 hj
def rSortV (K : PySem.W.Frag) : List V → Hp → VK → Prop := fun xs H Q => ∃ v d, ∃ ps : List (Str × Int), xs = [.ref v] ∧ H v = some (ObO v (viewO d)) ∧ H d = some (.dK (ps.map fun p => (Sum.inr p.1, V.int p.2))) ∧ ps.length < 64 ∧
    ∀ (l : Addr) (H' : Hp) (vs : List V) (fs : List (Str × Int)), Same H H' → H l = none → H' l = some (.lst vs) → DatsAt K H' vs (fs.map pairD) → fs.Perm ps → Q (.ref l) H'
theorem call_sortedV (hc : X.calm = true) : CallR X (.builtin "sorted") (rSortV X.K) := by
  intro pins s σ H xs us Q I r h
  obtain ⟨v, d, ps, rfl, hv, hd, few, q⟩ := h
  obtain ⟨u, rfl, ru⟩ := vals1 r
  cases (show u = Value.ref v from ru)
  obtain ⟨hz, hs, ws, kv, hD⟩ := (show ObjOk X.prog X.w H s.heap d (.dK (ps.map fun p => (Sum.inr p.1, V.int p.2))) from I.hok d _ hd)
  obtain ⟨ep, hA⟩ := hD.dictAt
  have lkv : ws.length = ps.length := by
    have := kv.length
    rw [List.length_map] at this
    omega
  have line : ps.length ≤ sizeLine := by rw [sizeLine_eq]; omega
  refine Calls.call_function_entry kind_sorted plain_sorted entry_sorted (args_sorted1 _) ?_
  unfold Builtin.«sorted»
  refine wpAny_bind (m := checkCount "sorted" 1 1 _) (wpAny_pure ?_)
  refine wpAny_bind (kdx_collect (A := X.A.in1) (knd := mixKind X.prog X.w) (kvs := ws) (ep := ep) (I.ok.hd hc) ⟨_, ob_get I.hok hv, rfl, rfl⟩ hA (by rw [lkv]; exact line) fun h' tk as hk hl hG => ?_)
  have las : as.length = ps.length := hl.trans lkv
  have above : ∀ a ∈ as, s.heap.objs.size ≤ a := fun a ha => Nat.le_of_lt (hG.above a ha)
  have tup : ∀ (j : Nat) (a : Addr) (p : Str × Int), as[j]? = some a → ps[j]? = some p → ∃ t1 t2, h'.get? a = some { cls := .type "tuple", data := .seq #[.str p.1 t1, .int p.2 t2] } := fun j a p e1 e2 => by
    obtain ⟨key, k, x, g1, g2, g3⟩ := hG.pairs j a e1
    obtain ⟨q1, e3, e4, e5⟩ := paired_r kv g1
    rw [List.getElem?_map, e2] at e3
    cases e3
    have e4' : Sum.inr p.1 = k := e4
    subst e4'
    obtain ⟨t2, rfl⟩ := (show RelV (V.int p.2) x from e5)
    rcases keyIs_shape (show keyIs (Sum.inr p.1) key = true from g2) with ⟨i, t, z, _⟩ | ⟨y, t, z, rfl⟩
    · cases z
    · cases z
      exact ⟨t, t2, g3⟩
  have I1 : Inv X pins σ (layT H as ps) { s with heap := h', toks := tk } := Inv.lays I hk (fun b hb => layT_old fun a ha z => absurd (above a ha) (by rw [← z]; exact Nat.not_le_of_lt hb)) fun b u hb e => by
    rcases layT_new e with z | ⟨j, p, e1, e2, rfl⟩
    · rw [I.hok.fresh hb] at z
      cases z
    · obtain ⟨t1, t2, et⟩ := tup j b p e1 e2
      exact ⟨two_le, [.str p.1 t1, .int p.2 t2], .cons ⟨t1, rfl⟩ (.cons ⟨t2, rfl⟩ .nil), _, et, rfl, _, rfl⟩
  have S1 : Same H (layT H as ps) := fun b u e => by
    rw [layT_old fun a ha z => absurd (above a ha) (by rw [← z]; exact Nat.not_le_of_lt (I.hok.lt e))]
    exact e
  have hd1 : DatsAt X.K (layT H as ps) (as.map V.ref) (ps.map pairD) := layT_dats las hG.rise
  have rv : Vals (as.map V.ref) (as.map Value.ref) := by
    clear hl hG las above tup I1 S1 hd1
    induction as with
    | nil => exact .nil
    | cons a as ih => exact .cons rfl ih
  have len1 : (as.map Value.ref).length = ps.length := by rw [List.length_map]; exact las
  have len2 : (as.map V.ref).length = ps.length := by rw [List.length_map]; exact las
  generalize as.map Value.ref = its at rv len1
  generalize as.map V.ref = vs at rv hd1 len2
  generalize layT H as ps = H1 at I1 S1 hd1
  refine wpAny_bind (wpAny_newList ?_ (by rw [len1]; exact line))
  refine wpAny_bind (wpAny_holding (wpAny_mono (sort_tail (A := X.A) (s := { s with heap := h', toks := tk }) (R := fun r s' => EP X pins σ Q r s') (lt := fun i j => pairLt (ps.getD i ("", 0)) (ps.getD j ("", 0))) (κ := tuples' ((Value.type "str") != (Value.type "tuple"))) (by omega) (fun z kept h2 Q' hq => ?_) (fun z kept i j C hi hj hC => ?_) fun D p g c hD hp kept at_ => ?_) (fun _ s' x => wpAny_pure ⟨_, rfl, x⟩) fun _ _ e => e))
  · obtain ⟨fs, k1, k2, k3⟩ := pairs_tups I1 kept ps vs its hd1 rv
    refine kat_kind (T := Value.type "str") k1 (by omega) (fun v hv => ?_) (by decide +kernel) hq
    obtain ⟨x, t, rfl⟩ := k3 v hv
    exact .now
  · have gi : ∀ {k : Nat}, k < its.length → ∃ a t t' o n, its.getD k Value.none = Value.ref a ∧ z.heap.get? a = some o ∧ o.data = .seq #[Value.str (ps.getD k ("", 0)).1 t, Value.int (ps.getD k ("", 0)).2 t'] n := fun {k} hk => by
      have e1 : (ps.map pairD)[k]? = some (pairD (ps.getD k ("", 0))) := by
        have hk' : k < ps.length := by omega
        simp [List.getD_eq_getElem?_getD, hk']
      obtain ⟨v, ev, hv⟩ := hd1.get e1
      obtain ⟨u, eu, ru⟩ := rv.get ev
      obtain ⟨a, t, t', o, n, rfl, f1, _, f3⟩ := pair_at I1 hv ru
      exact ⟨a, t, t', o, n, getD_of eu, kept _ _ f1, f3⟩
    obtain ⟨a1, t1, t1', o1, n1, e1, g1, d1⟩ := gi hi
    obtain ⟨a2, t2, t2', o2, n2, e2, g2, d2⟩ := gi hj
    show wpAny _ _ (keyLt' _ (its.getD i Value.none) (its.getD j Value.none)) C _ z
    rw [e1, e2]
    generalize ps.getD i ("", 0) = f at d1 hC
    generalize ps.getD j ("", 0) = g at d2 hC
    refine kat_lt g1 d1 g2 d2 ?_
    show KatLex _ _ _ _ _ C [(Value.str f.1 t1, Value.str g.1 t2), (Value.int f.2 t1', Value.int g.2 t2')] 0 z
    refine kat_cons (SeqAt.EqAt.str_str _ _ _ _ _ _ _ _ (kat_go (fun b1 => kat_yes ?_) fun b1 => kat_no ?_))
    · refine kat_cons (SeqAt.EqAt.int_int _ _ _ _ _ _ _ _ (kat_go (fun b2 => kat_yes (kat_nil ?_)) fun b2 => kat_no ?_))
      · have e3 : pairLt f g = false := by
          unfold pairLt
          rw [if_pos b1, if_pos b2]
        rw [e3] at hC
        exact hC
      · have e3 : pairLt f g = decide (f.2 < g.2) := by
          unfold pairLt
          rw [if_pos b1, if_neg (by rw [b2]; exact Bool.false_ne_true)]
        rw [e3] at hC
        exact kat_one _ _ (lt_int hC)
    · have e3 : pairLt f g = decide (f.1.cps.toList < g.1.cps.toList) := by
        unfold pairLt
        rw [if_neg (by rw [b1]; exact Bool.false_ne_true)]
      rw [e3] at hC
      exact oneLt_str hC
  · have hp' : p.toList.Perm (List.range vs.length) := by
      have := Array.perm_iff_toList_perm.mp hp
      rw [len2, ← len1]
      simpa using this
    have all : ∀ i ∈ p.toList, i < vs.length := fun i hi => List.mem_range.mp (hp'.mem_iff.mp hi)
    have S2 : Same H1 (upd H1 D (.lst (p.toList.map fun i => vs.getD i .non))) := .upd (I1.hok.fresh hD)
    have pk := DatsAt.pick (d0 := pairD ("", 0)) hd1 p.toList all
    have ef : (p.toList.map fun i => (ps.map pairD).getD i (pairD ("", 0))) = (p.toList.map fun i => ps.getD i ("", 0)).map pairD := by
      rw [List.map_map]
      refine List.map_congr_left fun i _ => ?_
      simp [List.getD_eq_getElem?_getD, Option.getD_map]
    rw [ef] at pk
    have hHD : H D = none := by
      cases e : H D with
      | none => rfl
      | some u =>
        have := S1 _ _ e
        rw [I1.hok.fresh hD] at this
        cases this
    refine ⟨.ref D, _, I1.laid (t' := tk) (o := .lst (p.toList.map fun i => vs.getD i .non)) kept hD ?_, rfl, q D _ _ _ (S1.trans S2) hHD upd_same (pk.same S2) ?_⟩
    · refine ⟨?_, _, c, ?_, at_⟩
      · rw [List.length_map, hp'.length_eq, List.length_range, len2]
        exact line
      · generalize p.toList = l at all
        clear hp hp' at_ pk ef S2 hHD
        induction l with
        | nil => exact .nil
        | cons i l ih =>
          have hi := all i (List.mem_cons_self ..)
          obtain ⟨u, eu, ru⟩ := rv.get (i := i) (x := vs[i]) (List.getElem?_eq_getElem hi)
          refine .cons ?_ (ih fun k hk => all k (List.mem_cons_of_mem _ hk))
          show RelV (vs.getD i .non) (its.getD i Value.none)
          rw [getD_of eu, getD_of (List.getElem?_eq_getElem hi)]
          exact ru
    · have e1 : (List.range vs.length).map (fun i => ps.getD i ("", 0)) = ps := by
        rw [len2]
        refine List.ext_getElem (by simp) fun i k1 k2 => ?_
        simp [List.getD_eq_getElem?_getD, k2]
      have := hp'.map fun i => ps.getD i ("", 0)
      rw [e1] at this
      exact this
end
end L2
namespace L2
open PySem PySem.Spec PyProof.Rows
inductive Alk (K : PySem.W.Frag) (H : Hp) : V → V → Prop
  | dat {x y : V} (d : Dt) (hx : DatAt K H x d) (hy : DatAt K H y d) (hg : d.hgt ≤ 30) : Alk K H x y
  | ref (r : Addr) : Alk K H (.ref r) (.ref r)
  | lst (l m : Addr) (ds : List Dt) (hl : LsM K H l ds) (hm : LsM K H m ds) (hg : Dt.hgts ds ≤ 30) : Alk K H (.ref l) (.ref m)
def PqAt (K : PySem.W.Frag) (H : Hp) (x y : V) : Prop := ∃ p q xs ys, x = .ref p ∧ y = .ref q ∧ SqT K H p xs ∧ SqT K H q ys ∧ xs.length = ys.length ∧ ∀ (i : Nat) (a b : V), xs[i]? = some a → ys[i]? = some b → Alk K H a b
section
variable {X : Cx} {pins : List (Addr × Obj)} {σ : St} {H : Hp} {s : Shared}
theorem eqAt_alk (I : Inv X pins σ H s) {A : Around} {x y : V} {u v : Value} (hu : A.units + 45 < cLine) (h : Alk X.K H x y) (ru : RelV x u) (rv : RelV y v) : SeqAt.EqAt A s u v true := by
  cases h with
  | dat d hx hy hg =>
    have := eqAt_dat I 30 A d d x y u v hg (by omega) hx hy ru rv
    rw [Dt.beq_self] at this
    exact this
  | ref r =>
    cases (show u = Value.ref r from ru)
    cases (show v = Value.ref r from rv)
    exact SeqAt.EqAt.same _
  | lst l m ds hl hm hg =>
    cases (show u = Value.ref l from ru)
    cases (show v = Value.ref m from rv)
    exact eqAt_lists I (by omega) hl hm hg
theorem eqAt_pq (I : Inv X pins σ H s) {A : Around} {x y : V} {u v : Value} (hu : A.units + 50 < cLine) (h : PqAt X.K H x y) (ru : RelV x u) (rv : RelV y v) : SeqAt.EqAt A s u v true := by
  obtain ⟨p, q, xs, ys, rfl, rfl, h1, h2, h3, h4⟩ := h
  cases (show u = Value.ref p from ru)
  cases (show v = Value.ref q from rv)
  by_cases hab : p = q
  · subst hab
    exact SeqAt.EqAt.same _
  · obtain ⟨its, r1, p1, _⟩ := I.tuple h1
    obtain ⟨its2, r2, p2, _⟩ := I.tuple h2
    have l1 := r1.length
    have l2 := r2.length
    have hsz : its.toArray.size = its2.toArray.size := by
      rw [List.size_toArray, List.size_toArray]
      omega
    have r := SeqAt.RcAt.tuples (A := A) (e := fun _ => true) p1 p2 (by omega) fun j j1 j2 => by
      rw [List.size_toArray] at j1 j2
      have g1 : xs[j]? = some xs[j] := List.getElem?_eq_getElem (by omega)
      have g2 : ys[j]? = some ys[j] := List.getElem?_eq_getElem (by omega)
      obtain ⟨u, eu, ru⟩ := r1.get g1
      obtain ⟨v, ev, rv⟩ := r2.get g2
      have f1 : its.toArray[j] = u := by
        have := (List.getElem?_eq_some_iff.mp eu).2
        simpa using this
      have f2 : its2.toArray[j] = v := by
        have := (List.getElem?_eq_some_iff.mp ev).2
        simpa using this
      rw [f1, f2]
      exact eqAt_alk I (by show A.units + 1 + 45 < cLine; omega) (h4 j _ _ g1 g2) ru rv
    have ea : ((List.range (min its.toArray.size its2.toArray.size)).all fun _ => true) = true := List.all_eq_true.mpr fun _ _ => rfl
    have eb : (its.toArray.size == its2.toArray.size) = true := by rw [hsz]; exact beq_self_eq_true _
    rw [ea, eb] at r
    exact SeqAt.EqAt.of_refs hab r
def rNePq (K : PySem.W.Frag) : R2 := fun x y H Q => ∃ (a b : Addr) (vs ws : List V), x = .ref a ∧ y = .ref b ∧ SqL K H a vs ∧ SqL K H b ws ∧ vs.length = ws.length ∧ (∀ (i : Nat) (v w : V), vs[i]? = some v → ws[i]? = some w → PqAt K H v w) ∧ Q (.bl false) H
theorem op_nePq (hu : X.A.units + 64 < cLine) : OpR X (compareOp .NotEq) (rNePq X.K) := by
  intro pins s σ H x y u v Q I ru rv h
  obtain ⟨a, b, vs, ws, rfl, rfl, ha, hb, e1, h1, q⟩ := h
  cases (show u = Value.ref a from ru)
  cases (show v = Value.ref b from rv)
  obtain ⟨its, r1, p1, _⟩ := I.list ha
  obtain ⟨its2, r2, p2, _⟩ := I.list hb
  have l1 := r1.length
  have l2 := r2.length
  have hsz : its.toArray.size = its2.toArray.size := by
    rw [List.size_toArray, List.size_toArray]
    omega
  have r := SeqAt.RcNeAt.lists (A := X.A) (e := fun _ => true) p1.isList p2.isList hsz (by omega) fun j j1 j2 => by
    rw [List.size_toArray] at j1 j2
    have g1 : vs[j]? = some vs[j] := List.getElem?_eq_getElem (by omega)
    have g2 : ws[j]? = some ws[j] := List.getElem?_eq_getElem (by omega)
    obtain ⟨u, eu, ru⟩ := r1.get g1
    obtain ⟨v, ev, rv⟩ := r2.get g2
    have f1 : its.toArray[j] = u := by
      have := (List.getElem?_eq_some_iff.mp eu).2
      simpa using this
    have f2 : its2.toArray[j] = v := by
      have := (List.getElem?_eq_some_iff.mp ev).2
      simpa using this
    rw [f1, f2]
    exact eqAt_pq I (by show X.A.units + 1 + 50 < cLine; omega) (h1 j _ _ g1 g2) ru rv
  have ea : (List.range its.toArray.size).all (fun _ => true) = true := List.all_eq_true.mpr fun _ _ => rfl
  rw [ea] at r
  exact r _ _ _ _ (fin_bl I q rfl)
end
end L2
namespace L2
open PySem PySem.Spec PyProof.Rows
@[reducible] def IsZipB (h : Heap) (z TI TO : Addr) (m : Value) (b : Bool) : Prop := h.get? z = some { cls := .type "zip", data := .fields #[m, .bool b, .bool false, .ref TI, .ref TO] }
theorem wpAny_alive {α : Type} {M : Model} {A : Around} {Q : α → Shared → Prop} {E : Value → Shared → Prop} {s : Shared} {a : Addr} {k : Option Obj → Sem α} (h : wpAny M A (k (s.heap.get? a)) Q E s) : wpAny M A (loadIfAlive a >>= k) Q E s := by
  intro Γ p hΓ
  have := h Γ p hΓ
  show Sem.wp M Γ (Sem.loadIfAlive a _) _ _ p s
  rw [Sem.wp_loadIfAlive]
  exact this
section
variable {prog : Program} {w : World} {A : Around} {E : Value → Shared → Prop} {s : Shared} {z TI TO i1 i2 l1 l2 t : Addr} {P1 P2 : Nat → Heap → Prop} {f1 f2 : Nat → Option Value} {k1 k2 : Nat} {x y : Value} {b : Bool}
theorem zipB_free {Q : Bool → Shared → Prop} (hz : IsZipB s.heap z TI TO (rawInt t) b) (ht : ∃ o, s.heap.get? t = some o)
    (hQ : ∀ g, IsZipB g z TI TO (rawInt t) true → Heap.SameBut z s.heap g → Q false { s with heap := g }) : wpAny (model prog w) A (Builtin.SmallTypes.ownedTupleIsFree (.ref z)) Q E s := by
  obtain ⟨o, ho⟩ := ht
  unfold Builtin.SmallTypes.ownedTupleIsFree
  refine wpAny_bind (wpAny_field hz rfl (x := rawInt t) rfl ?_)
  refine wpAny_alive ?_
  show wpAny _ _ (if (s.heap.get? ((t : Int).toNat)).isNone = true then _ else _) _ _ _
  rw [Int.toNat_natCast, ho, if_neg (show ¬ ((some o).isNone = true) from Bool.false_ne_true)]
  refine wpAny_bind (wpAny_field hz rfl (x := .bool b) rfl ?_)
  cases b with
  | false =>
    rw [if_pos (by decide)]
    refine wpAny_bind (wpAny_setField_rec hz (by simp) fun g z1 b1 => wpAny_pure ?_)
    exact hQ g z1 b1
  | true =>
    rw [if_neg (by decide)]
    exact wpAny_pure (hQ s.heap hz ⟨rfl, fun _ _ => rfl⟩)
theorem zipB_item {Q : Option Value → Shared → Prop} (F1 : Feed i1 l1 P1 f1) (F2 : Feed i2 l2 P2 f2) (D : ZipApart z TI TO i1 i2 l1 l2) (hz : IsZipB s.heap z TI TO (rawInt t) b) (ht : ∃ o, s.heap.get? t = some o) (hI : IsPair s.heap TI (.ref i1) (.ref i2))
    (p1 : P1 k1 s.heap) (p2 : P2 k2 s.heap) (hx : f1 k1 = some x) (hy : f2 k2 = some y)
    (hQ : ∀ g, IsZipB g z TI TO (rawInt t) true → P1 (k1 + 1) g → P2 (k2 + 1) g → IsPair g s.heap.objs.size x y →
      (∀ c o, c ≠ z → c ≠ i1 → c ≠ i2 → s.heap.get? c = some o → g.get? c = some o) → Q (some (.ref s.heap.objs.size)) { s with heap := g }) :
    wpAny (model prog w) A (pyNext (.ref z)) Q E s := by
  have ty : s.TypeIs (.ref z) "zip" := ⟨_, hz, rfl⟩
  unfold pyNext
  refine wpAny_bind (wpAny_attempt (wpAny_callSpecial?_slot (name := Str.ofString "__next__") ty PySem.F.slot_zip_next (wpAny_call_entry PySem.F.slot_zip_next ty PySem.F.entry_zip_next ?_ (PySem.F.args_zip_next_1 _))))
  show wpAny _ _ (field (.ref z) 2 >>= _) _ _ _
  refine wpAny_bind (wpAny_field hz rfl (x := .bool false) rfl ?_)
  show wpAny _ _ (field (.ref z) 3 >>= _) _ _ _
  refine wpAny_bind (wpAny_field hz rfl (x := .ref TI) rfl (wpAny_bind (wpAny_seqItems hI rfl ?_)))
  show wpAny _ _ (Builtin.SmallTypes.ownedTupleIsFree (.ref z) >>= _) _ _ _
  refine wpAny_bind (zipB_free hz ht fun g1 z1 b1 => ?_)
  rw [if_neg Bool.false_ne_true]
  refine wpAny_bind ?_
  simp only [List.forIn_toArray, List.forIn_cons, List.forIn_nil]
  refine wpAny_bind (wpAny_bind (wpAny_holding ?_))
  show wpAny _ _ (Builtin.SmallTypes.nextOf (.ref i1) >>= _) _ _ _
  have q1 : P1 k1 g1 := F1.keep _ _ _ p1 fun c o hc e => b1.extBut _ _ (by rcases hc with rfl | rfl; exact D.i1z; exact D.l1z) e
  refine wpAny_bind (F1.item q1 hx fun g2 r1 b2 => wpAny_pure ?_)
  refine wpAny_pure ?_
  refine wpAny_bind (wpAny_bind (wpAny_holding ?_))
  show wpAny _ _ (Builtin.SmallTypes.nextOf (.ref i2) >>= _) _ _ _
  have q2 : P2 k2 g2 := F2.keep _ _ _ p2 fun c o hc e => b2.extBut _ _ (by rcases hc with rfl | rfl; exact D.i12.symm; exact D.l2i1) (b1.extBut _ _ (by rcases hc with rfl | rfl; exact D.i2z; exact D.l2z) e)
  refine wpAny_bind (F2.item q2 hy fun g3 r2 b3 => wpAny_pure ?_)
  refine wpAny_pure ?_
  refine wpAny_pure ?_
  refine wpAny_bind (wpAny_newTuple ?_ (by show 2 ≤ sizeLine; decide))
  have sz : g3.objs.size = s.heap.objs.size := by rw [b3.1, b2.1, b1.1]
  have z3 : IsZipB g3 z TI TO (rawInt t) true := b3.extBut _ _ D.i2z.symm (b2.extBut _ _ D.i1z.symm z1)
  refine wpAny_pure ⟨_, rfl, wpAny_pure ?_⟩
  show Q (some (.ref g3.objs.size)) _
  have T4 : IsPair (g3.push { cls := .type "tuple", data := .seq #[x, y] }) g3.objs.size x y := Heap.get?_push_size _ rfl
  rw [sz] at T4
  rw [sz]
  refine hQ (g3.push { cls := .type "tuple", data := .seq #[x, y] }) (Heap.get?_push_of_some _ z3) ?_ ?_ T4 fun c o n1 n2 n3 e => Heap.get?_push_of_some _ (b3.extBut _ _ n3 (b2.extBut _ _ n2 (b1.extBut _ _ n1 e)))
  · exact F1.keep _ _ _ r1 fun c o hc e => Heap.get?_push_of_some _ (b3.extBut _ _ (by rcases hc with rfl | rfl; exact D.i12; exact D.l1i2) e)
  · exact F2.keep _ _ _ r2 fun c o hc e => Heap.get?_push_of_some _ e
theorem zipB_end {Q : Option Value → Shared → Prop} (hh : A.handled = none) (F1 : Feed i1 l1 P1 f1) (D : ZipApart z TI TO i1 i2 l1 l2) (hz : IsZipB s.heap z TI TO (rawInt t) b) (ht : ∃ o, s.heap.get? t = some o) (hI : IsPair s.heap TI (.ref i1) (.ref i2))
    (p1 : P1 k1 s.heap) (hx : f1 k1 = none)
    (hQ : ∀ g, (∀ c o, c ≠ z → c ≠ i1 → c ≠ i2 → s.heap.get? c = some o → g.get? c = some o) → Q none { s with heap := g }) : wpAny (model prog w) A (pyNext (.ref z)) Q E s := by
  have ty : s.TypeIs (.ref z) "zip" := ⟨_, hz, rfl⟩
  have last : ∀ (g : Heap) (e : Addr), (∀ c o, c ≠ z → c ≠ i1 → c ≠ i2 → s.heap.get? c = some o → g.get? c = some o) → (∃ o, g.get? e = some o ∧ o.cls = .type "StopIteration") →
      wpAny (model prog w) A (do let b ← isInstance (.ref e) (.type "StopIteration"); if b = true then pure none else throw (.ref e)) Q E { s with heap := g } := fun g e k1 k2 => by
    obtain ⟨o, ho, hc⟩ := k2
    refine wpAny_bind (wpAny_isInstance (T := "StopIteration") (b := true) ⟨o, ho, hc⟩ isSubtype_stop ?_)
    exact wpAny_pure (hQ g k1)
  unfold pyNext
  refine wpAny_bind (wpAny_attempt (wpAny_callSpecial?_slot (name := Str.ofString "__next__") ty PySem.F.slot_zip_next (wpAny_call_entry PySem.F.slot_zip_next ty PySem.F.entry_zip_next ?_ (PySem.F.args_zip_next_1 _))))
  show wpAny _ _ (field (.ref z) 2 >>= _) _ _ _
  refine wpAny_bind (wpAny_field hz rfl (x := .bool false) rfl ?_)
  show wpAny _ _ (field (.ref z) 3 >>= _) _ _ _
  refine wpAny_bind (wpAny_field hz rfl (x := .ref TI) rfl (wpAny_bind (wpAny_seqItems hI rfl ?_)))
  show wpAny _ _ (Builtin.SmallTypes.ownedTupleIsFree (.ref z) >>= _) _ _ _
  refine wpAny_bind (zipB_free hz ht fun g1 z1 b1 => ?_)
  rw [if_neg Bool.false_ne_true]
  refine wpAny_bind ?_
  simp only [List.forIn_toArray, List.forIn_cons, List.forIn_nil]
  refine wpAny_bind (wpAny_bind (wpAny_holding ?_))
  show wpAny _ _ (Builtin.SmallTypes.nextOf (.ref i1) >>= _) _ _ _
  have q1 : P1 k1 g1 := F1.keep _ _ _ p1 fun c o hc e => b1.extBut _ _ (by rcases hc with rfl | rfl; exact D.i1z; exact D.l1z) e
  refine wpAny_bind (F1.stop hh q1 hx fun g2 e b2 he => ?_)
  exact last g2 e (fun c o n1 n3 _ q => b2 _ _ n3 (b1.extBut _ _ n1 q)) he
end
end L2
namespace L2
open PySem PySem.Spec PyProof.Rows
theorem zip_no_len : typeLookup (.type "zip") (Str.ofString "__len__") = pure none := by
  first | rfl | (decide +kernel)
theorem zip_no_hint : typeLookup (.type "zip") (Str.ofString "__length_hint__") = pure none := by
  first | rfl | (decide +kernel)
theorem zip_hint {prog : Program} {w : World} {A : Around} {E : Value → Shared → Prop} {s : Shared} {z : Addr} {Q : Bool → Shared → Prop} (ty : s.TypeIs (.ref z) "zip") (h : Q true s) : wpAny (model prog w) A (Builtin.List.listLengthHint (.ref z)) Q E s := by
  unfold Builtin.List.listLengthHint
  refine wpAny_bind (wpAny_specialOf ty zip_no_len ?_)
  show wpAny _ _ (if _ then _ else _) _ _ _
  rw [if_neg (by decide +kernel)]
  show wpAny _ _ (if _ then _ else _) _ _ _
  rw [if_neg (by decide +kernel)]
  refine wpAny_bind (wpAny_specialOf ty zip_no_hint ?_)
  exact wpAny_pure h
section
variable {X : Cx} {pins : List (Addr × Obj)} {σ : L2.St}
structure ZlS (X : Cx) (pins : List (Addr × Obj)) (σ : L2.St) (z TI TO i1 i2 a b S : Addr) (us vs : List Value) (xs ys : List V) (H1 H : Hp) (s : Shared) (i : Nat) : Prop where
  I : Inv X pins σ H s
  f : ∀ c ∈ [z, TI, TO, i1, i2], FpOk X pins H c
  lt : ∀ c ∈ [z, TI, TO, i1, i2], c < s.heap.objs.size
  zs : (i = 0 ∧ IsZip s.heap z TI TO .none ∧ ∃ p q, IsPair s.heap TO p q) ∨ ∃ (t : Addr) (d : Bool), IsZipB s.heap z TI TO (rawInt t) d ∧ ∃ o, s.heap.get? t = some o
  ti : IsPair s.heap TI (.ref i1) (.ref i2)
  p1 : s.heap.IsListIter i1 a i ∧ s.heap.IsList a us.toArray
  p2 : s.heap.IsListIter i2 b i ∧ s.heap.IsList b vs.toArray
  bt : BtA S H1 H
  ts : ∃ ts : List Addr, H S = some (.lst (ts.map V.ref)) ∧ ts.length = i ∧ ∀ (j : Nat) (t : Addr) (x y : V), ts[j]? = some t → xs[j]? = some x → ys[j]? = some y → H t = some (.tup [x, y])
theorem zl_loop {z TI TO i1 i2 a b S : Addr} {us vs : List Value} {xs ys : List V} {H1 : Hp} {A : Around} {R : Result → Shared → Prop} (D : ZipApart z TI TO i1 i2 a b) (aS : a ≠ S) (bS : b ≠ S) (r1 : Vals xs us) (r2 : Vals ys vs) (hl : xs.length = ys.length) (hz : xs.length ≤ sizeLine) (hh : A.in1.handled = none)
    (hR : ∀ (H : Hp) (s : Shared) (ts : List Addr), Inv X pins σ H s → BtA S H1 H → H S = some (.lst (ts.map V.ref)) → ts.length = xs.length → (∀ (j : Nat) (t : Addr) (x y : V), ts[j]? = some t → xs[j]? = some x → ys[j]? = some y → H t = some (.tup [x, y])) → R (.ok (.ret .none)) s) :
    ∀ (k i : Nat) (H : Hp) (s : Shared), xs.length - i = k → i ≤ xs.length → ZlS X pins σ z TI TO i1 i2 a b S us vs xs ys H1 H s i → codeAny (model X.prog X.w) A (.builtin "list.extend.loop" { pos := [.ref S, .ref z, .none] }) R s
  | 0, i, H, s, hk, hi, st => by
    have hin : i = xs.length := by omega
    refine codeAny_builtin PySem.F.entry_extend_loop ?_
    rw [Around.under_plainId PySem.F.plain_extend_loop]
    show wpAny _ _ (pyNext (.ref z) >>= _) _ _ s
    refine wpAny_bind ?_
    have l1 := r1.length
    have stop : us.toArray[i]? = none := by simp; omega
    have fin : ∀ g : Heap, (∀ c o, c ∉ [z, TI, TO, i1, i2] → s.heap.get? c = some o → g.get? c = some o) → R (.ok (.ret .none)) { s with heap := g } := fun g hk => by
      obtain ⟨ts, h1, h2, h3⟩ := st.ts
      exact hR H _ ts (st.I.turnedAll (t' := s.toks) (ch := [z, TI, TO, i1, i2]) (fun c o hc e => hk c o hc e) st.f) st.bt h1 (by omega) h3
    have nc : ∀ {c : Addr}, c ∉ [z, TI, TO, i1, i2] → c ≠ z ∧ c ≠ TO ∧ c ≠ i1 ∧ c ≠ i2 := fun {c} hc => by
      simp only [List.mem_cons, List.not_mem_nil, or_false, not_or] at hc
      exact ⟨hc.1, hc.2.2.1, hc.2.2.2.1, hc.2.2.2.2⟩
    rcases st.zs with ⟨_, hz0, p, q, hO⟩ | ⟨t, d, hzB, ht⟩
    · refine zipF_end hh (feed_list D.l1i1 us.toArray) (feed_list D.l2i2 vs.toArray) D hz0 st.ti hO st.p1 st.p2 (.inl stop) fun g hk => wpAny_pure ?_
      exact fin g fun c o hc e => hk c o (nc hc).1 (nc hc).2.1 (nc hc).2.2.1 (nc hc).2.2.2 e
    · refine zipB_end hh (feed_list D.l1i1 us.toArray) D hzB ht st.ti st.p1 stop fun g hk => wpAny_pure ?_
      exact fin g fun c o hc e => hk c o (nc hc).1 (nc hc).2.2.1 (nc hc).2.2.2 e
  | k + 1, i, H, s, hk, hi, st => by
    have hlt : i < xs.length := by omega
    refine codeAny_builtin PySem.F.entry_extend_loop ?_
    rw [Around.under_plainId PySem.F.plain_extend_loop]
    show wpAny _ _ (pyNext (.ref z) >>= _) _ _ s
    refine wpAny_bind ?_
    have hx : xs[i]? = some xs[i] := List.getElem?_eq_getElem hlt
    have hy : ys[i]? = some (ys[i]'(by omega)) := List.getElem?_eq_getElem (by omega)
    generalize xs[i] = x at hx
    generalize ys[i]'(by omega) = y at hy
    obtain ⟨u, hu, ru⟩ := r1.get hx
    obtain ⟨v, hv, rv⟩ := r2.get hy
    have go : ∀ g : Heap, (∃ (t : Addr) (d : Bool), IsZipB g z TI TO (rawInt t) d ∧ ∃ o, g.get? t = some o) → (g.IsListIter i1 a (i + 1) ∧ g.IsList a us.toArray) → (g.IsListIter i2 b (i + 1) ∧ g.IsList b vs.toArray) → IsPair g s.heap.objs.size u v → IsPair g TI (.ref i1) (.ref i2) → (∀ c o, c ∉ [z, TI, TO, i1, i2] → s.heap.get? c = some o → g.get? c = some o) →
        wpAny (model X.prog X.w) A.in1 (Builtin.List.listUpdate (.ref S) (fun w => w.push (.ref s.heap.objs.size)) >>= fun _ => again (.builtin "list.extend.loop" { pos := [.ref S, .ref z, .none] })) (fun fin s' => match fin with | .done f => R (.ok f) s' | .again c' => c'.quiet = true ∧ codeAny (model X.prog X.w) A c' R s') (fun e s' => R (.error e) s') { s with heap := g } := by
      intro g zg q1 q2 pr ti hk'
      have I1 := st.I.turnedLaid (t' := s.toks) (h' := g) (p := s.heap.objs.size) (o := .tup [x, y]) hk' st.f (Nat.le_refl _) ⟨two_le, [u, v], .cons ru (.cons rv .nil), ⟨_, pr, rfl, _, rfl⟩⟩
      obtain ⟨ts, h1, h2, h3⟩ := st.ts
      have fr : H s.heap.objs.size = none := st.I.hok.fresh (Nat.le_refl _)
      have nS : S ≠ s.heap.objs.size := ne_of_none h1 fr
      have h1' : (upd H s.heap.objs.size (.tup [x, y])) S = some (.lst (ts.map V.ref)) := by rw [upd_ne nS]; exact h1
      obtain ⟨zz, its, nn, r, hl', e⟩ := I1.lstM h1'
      have hits : its.length = i := by rw [← hl', List.length_map]; exact h2
      have I2 := I1.lset (t' := s.toks) (its' := its ++ [.ref s.heap.objs.size]) (ys := (ts ++ [s.heap.objs.size]).map V.ref) (f := fun w => w.push (.ref s.heap.objs.size)) h1' e (by simp) (by rw [List.map_append]; exact r.append (.cons rfl .nil)) (by rw [List.length_map, List.length_append, List.length_singleton]; omega)
      show wpAny _ _ (updateSeq S _ >>= _) _ _ _
      refine wpAny_bind (wpAny_updateSeq e rfl (wpAny_pure ⟨plainId_quiet PySem.F.plain_extend_loop _, ?_⟩) (by rw [List.size_toArray]; omega) (by rw [Array.size_push, List.size_toArray]; omega))
      have oth : ∀ c o, c ≠ S → g.get? c = some o → (g.update S (Obj.mapSeq fun w => w.push (.ref s.heap.objs.size))).get? c = some o := fun c o hc e => (Heap.get?_update_other g _ (Ne.symm hc)).trans e
      have cS : ∀ c ∈ [z, TI, TO, i1, i2], c ≠ S := fun c hc z => by
        have := (st.f c hc).1
        rw [z, h1] at this
        cases this
      have pr' := oth _ _ nS.symm pr
      refine zl_loop D aS bS r1 r2 hl hz hh hR k (i + 1) _ _ (by omega) (by omega) ⟨I2, fun c hc => ?_, fun c hc => Nat.lt_trans (st.lt c hc) (Heap.lt_size pr'), .inr ?_, oth _ _ (cS TI (by simp)) ti, ?_, ?_, ?_, ?_⟩
      · obtain ⟨c1, c2⟩ := st.f c hc
        refine ⟨?_, c2⟩
        rw [upd_ne (cS c hc), upd_ne (Nat.ne_of_lt (st.lt c hc))]
        exact c1
      · obtain ⟨t, d, zt, o, ot⟩ := zg
        refine ⟨t, d, oth _ _ (cS z (by simp)) zt, ?_⟩
        by_cases tS : t = S
        · rw [tS]
          exact ⟨_, Heap.get?_update_self _ e rfl⟩
        · exact ⟨o, oth _ _ tS ot⟩
      · exact (feed_list D.l1i1 us.toArray).keep _ _ _ q1 fun c o hc e => oth c o (by rcases hc with rfl | rfl; exact cS _ (by simp); exact aS) e
      · exact (feed_list D.l2i2 vs.toArray).keep _ _ _ q2 fun c o hc e => oth c o (by rcases hc with rfl | rfl; exact cS _ (by simp); exact bS) e
      · intro c o hc e
        rw [upd_ne hc, upd_ne (ne_of_none (st.bt c o hc e) fr)]
        exact st.bt c o hc e
      · refine ⟨ts ++ [s.heap.objs.size], upd_same, by rw [List.length_append, h2]; rfl, fun j t x' y' e1 e2 e3 => ?_⟩
        by_cases hj : j < ts.length
        · rw [List.getElem?_append_left hj] at e1
          have ht := h3 j t x' y' e1 e2 e3
          rw [upd_ne (fun z => by rw [z, h1] at ht; cases ht), upd_ne (ne_of_none ht fr)]
          exact ht
        · rw [List.getElem?_append_right (by omega)] at e1
          have hj2 : j - ts.length = 0 := by
            have := (List.getElem?_eq_some_iff.mp e1).1
            simp at this
            omega
          rw [hj2] at e1
          cases e1
          have : j = i := by omega
          subst this
          rw [hx] at e2
          rw [hy] at e3
          cases e2
          cases e3
          rw [upd_ne nS.symm, upd_same]
    have nc : ∀ {c : Addr}, c ∉ [z, TI, TO, i1, i2] → c ≠ z ∧ c ≠ TO ∧ c ≠ i1 ∧ c ≠ i2 := fun {c} hc => by
      simp only [List.mem_cons, List.not_mem_nil, or_false, not_or] at hc
      exact ⟨hc.1, hc.2.2.1, hc.2.2.2.1, hc.2.2.2.2⟩
    rcases st.zs with ⟨_, hz0, p, q, hO⟩ | ⟨t, d, hzB, ht⟩
    · refine zipF_item (feed_list D.l1i1 us.toArray) (feed_list D.l2i2 vs.toArray) D hz0 st.ti hO st.p1 st.p2 (x := u) (y := v) (by simpa using hu) (by simpa using hv) fun g a1 a2 a3 a4 a5 hk => ?_
      exact go g ⟨_, false, a1, _, a5⟩ a3 a4 a5 (hk _ _ D.TIz D.TITO D.TIi1 D.TIi2 st.ti) fun c o hc e => hk c o (nc hc).1 (nc hc).2.1 (nc hc).2.2.1 (nc hc).2.2.2 e
    · obtain ⟨ot, hot⟩ := ht
      refine zipB_item (feed_list D.l1i1 us.toArray) (feed_list D.l2i2 vs.toArray) D hzB ⟨ot, hot⟩ st.ti st.p1 st.p2 (x := u) (y := v) (by simpa using hu) (by simpa using hv) fun g a1 a3 a4 a5 hk => ?_
      refine go g ⟨t, true, a1, ?_⟩ a3 a4 a5 (hk _ _ D.TIz D.TIi1 D.TIi2 st.ti) fun c o hc e => hk c o (nc hc).1 (nc hc).2.2.1 (nc hc).2.2.2 e
      by_cases c1 : t = z
      · rw [c1]; exact ⟨_, a1⟩
      · by_cases c2 : t = i1
        · obtain ⟨o, e, _⟩ := a3.1
          rw [c2]; exact ⟨o, e⟩
        · by_cases c3 : t = i2
          · obtain ⟨o, e, _⟩ := a4.1
            rw [c3]; exact ⟨o, e⟩
          · exact ⟨ot, hk _ _ c1 c2 c3 hot⟩
theorem call_list_zip {H : Hp} {s : Shared} {z TI TO i1 i2 a b : Addr} {us vs : List Value} {xs ys : List V} {A : Around} {E : Value → Shared → Prop} {Q : Value → Shared → Prop} (D : ZipApart z TI TO i1 i2 a b) (I : Inv X pins σ H s) (hf : ∀ c ∈ [z, TI, TO, i1, i2], FpOk X pins H c) (lt : ∀ c ∈ [z, TI, TO, i1, i2], c < s.heap.objs.size)
    (hz0 : IsZip s.heap z TI TO .none) (hO : ∃ p q, IsPair s.heap TO p q) (hti : IsPair s.heap TI (.ref i1) (.ref i2)) (p1 : s.heap.IsListIter i1 a 0 ∧ s.heap.IsList a us.toArray) (p2 : s.heap.IsListIter i2 b 0 ∧ s.heap.IsList b vs.toArray)
    (r1 : Vals xs us) (r2 : Vals ys vs) (hl : xs.length = ys.length) (hz : xs.length ≤ sizeLine) (hh : A.handled = none)
    (hQ : ∀ (H' : Hp) (s' : Shared) (S : Addr) (ts : List Addr), Inv X pins σ H' s' → H S = none → Same H H' → H' S = some (.lst (ts.map V.ref)) → ts.length = xs.length → (∀ (j : Nat) (t : Addr) (x y : V), ts[j]? = some t → xs[j]? = some x → ys[j]? = some y → H' t = some (.tup [x, y])) → Q (.ref S) s') :
    wpAny (model X.prog X.w) A (call (.type "list") [.ref z]) Q E s := by
  refine callType_codes PySem.F.called_list (PySem.F.typeCall_list_1 (.ref z)) PySem.F.entry_list_init (code_list_new (.ref z) (Q₁ := fun obj s₁ => obj = .ref s.heap.objs.size ∧ s₁ = { s with heap := s.heap.push { cls := .type "list", data := .seq #[] } }) ⟨rfl, rfl⟩) fun obj s₁ h₁ => ?_
  obtain ⟨rfl, rfl⟩ := h₁
  have fr : H s.heap.objs.size = none := I.hok.fresh (Nat.le_refl _)
  have hS := Heap.get?_push_size s.heap (o := { cls := .type "list", data := .seq #[] }) rfl
  have I1 := I.lnew (t' := s.toks) (its := []) (ys := []) .nil (Nat.zero_le _)
  refine ⟨⟨_, hS, rfl⟩, PySem.F.args_list_init_2 _ _, ?_⟩
  generalize hSn : s.heap.objs.size = S at fr hS I1
  have I2 := I1.lset (t' := s.toks) (its := []) (its' := []) (ys := []) (n := 0) (f := fun _ => #[]) upd_same hS rfl .nil (Nat.zero_le _)
  show wpAny _ _ (Builtin.List.listItems (.ref S) >>= _) _ _ _
  refine wpAny_bind ?_
  show wpAny _ _ (seqItems? (.ref S) >>= _) _ _ _
  refine wpAny_bind (wpAny_seqItems hS rfl (wpAny_pure ?_))
  show wpAny _ _ (updateSeq S _ >>= _) _ _ _
  refine wpAny_bind (wpAny_updateSeq hS rfl ?_ (by decide) (by decide))
  refine wpAny_bind (wpAny_letGo ?_)
  show wpAny _ _ (Builtin.List.listExtendWith (.ref S) (.ref z) .none) _ _ _
  have zS : z ≠ S := by
    rw [← hSn]
    exact Nat.ne_of_lt (lt z (by simp))
  have up : ∀ c o, s.heap.get? c = some o → ((s.heap.push { cls := .type "list", data := .seq #[] }).update S (Obj.mapSeq fun _ => #[])).get? c = some o := fun c o e => (Heap.get?_update_other _ _ (by rw [← hSn]; exact (Nat.ne_of_lt (Heap.lt_size e)).symm)).trans (Heap.get?_push_of_some _ e)
  have eS : ((s.heap.push { cls := .type "list", data := .seq #[] }).update S (Obj.mapSeq fun _ => #[])).get? S = some { cls := .type "list", data := .seq #[] 0 } := Heap.get?_update_self _ hS rfl
  generalize (s.heap.push { cls := .type "list", data := .seq #[] }).update S (Obj.mapSeq fun _ => #[]) = h2 at I2 up eS
  have I2 : Inv X pins σ (upd (upd H S (.lst [])) S (.lst [])) { s with heap := h2 } := I2
  have z2 := up _ _ hz0
  unfold Builtin.List.listExtendWith
  refine wpAny_bind (wpAny_typeOf (T := "zip") ⟨_, z2, rfl⟩ ?_)
  rw [if_neg (by
    have : Builtin.List.listSameRef (.ref S) (.ref z) = false := by
      simp [Builtin.List.listSameRef, zS.symm]
    rw [this]
    decide)]
  refine wpAny_bind (wpAny_pyIter_zip z2 ?_)
  refine wpAny_bind (wpAny_holding (zip_hint ⟨_, z2, rfl⟩ ?_))
  rw [if_pos (by rfl)]
  refine wpAny_bind (wpAny_rule ?_)
  unfold Builtin.List.listTouch
  show wpAny _ _ ((updateSeq S _ >>= fun _ => updateSeq S _) >>= _) _ _ _
  refine wpAny_bind (wpAny_bind (wpAny_updateSeq eS rfl ?_ (by decide) (by decide)))
  have e3 := Heap.get?_update_self (Obj.mapSeq fun x => x.push Value.none) eS rfl
  refine wpAny_updateSeq e3 rfl ?_ (by decide) (by decide)
  have I3 := I2.lset (t' := s.toks) (its := []) (its' := [.none]) (ys := [.non]) (f := fun x => x.push Value.none) upd_same eS rfl (.cons rfl .nil) (by decide)
  have I4 := I3.lset (t' := s.toks) (its := [.none]) (its' := []) (ys := []) (f := fun x => x.pop) upd_same e3 rfl .nil (by decide)
  have up4 : ∀ c o, c ≠ S → h2.get? c = some o → ((h2.update S (Obj.mapSeq fun x => x.push Value.none)).update S (Obj.mapSeq fun x => x.pop)).get? c = some o := fun c o hc e => (Heap.get?_update_other _ _ (Ne.symm hc)).trans ((Heap.get?_update_other _ _ (Ne.symm hc)).trans e)
  refine wpAny_pure ⟨plainId_quiet PySem.F.plain_extend_loop _, ?_⟩
  have e4 : Same H (upd (upd (upd (upd H S (.lst [])) S (.lst [])) S (.lst [.non])) S (.lst [])) := fun c o e => by
    have n := ne_of_none e fr
    rw [upd_ne n, upd_ne n, upd_ne n, upd_ne n]
    exact e
  have l4 : (upd (upd (upd (upd H S (.lst [])) S (.lst [])) S (.lst [.non])) S (.lst [])) S = some (.lst []) := upd_same
  have n4 : ∀ c, c ≠ S → H c = none → (upd (upd (upd (upd H S (.lst [])) S (.lst [])) S (.lst [.non])) S (.lst [])) c = none := fun c n e => by
    rw [upd_ne n, upd_ne n, upd_ne n, upd_ne n]
    exact e
  have I4' : Inv X pins σ (upd (upd (upd (upd H S (.lst [])) S (.lst [])) S (.lst [.non])) S (.lst [])) { s with heap := (h2.update S (Obj.mapSeq fun x => x.push Value.none)).update S (Obj.mapSeq fun x => x.pop) } := I4
  have all : ∀ c o, s.heap.get? c = some o → ((h2.update S (Obj.mapSeq fun x => x.push Value.none)).update S (Obj.mapSeq fun x => x.pop)).get? c = some o := fun c o e => up4 c o (by rw [← hSn]; exact Nat.ne_of_lt (Heap.lt_size e)) (up c o e)
  generalize upd (upd (upd (upd H S (.lst [])) S (.lst [])) S (.lst [.non])) S (.lst []) = H4 at e4 l4 I4' n4
  clear I4 I3 I2 I1
  show codeAny _ _ _ _ { s with heap := (h2.update S (Obj.mapSeq fun x => x.push Value.none)).update S (Obj.mapSeq fun x => x.pop) }
  generalize (h2.update S (Obj.mapSeq fun x => x.push Value.none)).update S (Obj.mapSeq fun x => x.pop) = h4 at all I4'
  have aS : a ≠ S := by
    obtain ⟨_, e, _⟩ := p1.2
    rw [← hSn]
    exact Nat.ne_of_lt (Heap.lt_size e)
  have bS : b ≠ S := by
    obtain ⟨_, e, _⟩ := p2.2
    rw [← hSn]
    exact Nat.ne_of_lt (Heap.lt_size e)
  refine zl_loop (H1 := H) D aS bS r1 r2 hl hz (show A.in1.in1.handled = none from hh) (fun H' s' ts I' bt h1 h2 h3 => ⟨rfl, hQ H' s' S ts I' fr (fun c o e => bt c o (ne_of_none e fr) e) h1 h2 h3⟩) xs.length 0 H4 _ rfl (Nat.zero_le _) ⟨I4', fun c hc => ?_, fun c hc => ?_, .inl ⟨rfl, all _ _ hz0, ?_⟩, all _ _ hti, ?_, ?_, fun c o _ e => e4 c o e, [], l4, rfl, fun j t x y e => by simp at e⟩
  · obtain ⟨c1, c2⟩ := hf c hc
    exact ⟨n4 c (by rw [← hSn]; exact Nat.ne_of_lt (lt c hc)) c1, c2⟩
  · have : ∃ o, s.heap.get? c = some o := by
      obtain ⟨p, q, hO⟩ := hO
      obtain ⟨o1, e1, _⟩ := p1.1
      obtain ⟨o2, e2, _⟩ := p2.1
      have hc' : c = z ∨ c = TI ∨ c = TO ∨ c = i1 ∨ c = i2 := by simpa using hc
      rcases hc' with rfl | rfl | rfl | rfl | rfl
      · exact ⟨_, hz0⟩
      · exact ⟨_, hti⟩
      · exact ⟨_, hO⟩
      · exact ⟨_, e1⟩
      · exact ⟨_, e2⟩
    obtain ⟨o, e⟩ := this
    exact Heap.lt_size (all _ _ e)
  · obtain ⟨p, q, hO⟩ := hO
    exact ⟨p, q, all _ _ hO⟩
  · exact (feed_list D.l1i1 us.toArray).keep _ _ _ p1 fun c o _ e => all c o e
  · exact (feed_list D.l2i2 vs.toArray).keep _ _ _ p2 fun c o _ e => all c o e
def tListZip (K : PySem.W.Frag) (ta : TA) : TE := fun σ H Q => ta σ H fun vs H1 => ∃ (a b : Addr) (xs ys : List V), vs = [.ref a, .ref b] ∧ SqL K H1 a xs ∧ SqL K H1 b ys ∧ xs.length = ys.length ∧
  ∀ (S : Addr) (H' : Hp) (ts : List Addr), Same H1 H' → H1 S = none → H' S = some (.lst (ts.map V.ref)) → ts.length = xs.length → (∀ (j : Nat) (t : Addr) (x y : V), ts[j]? = some t → xs[j]? = some x → ys[j]? = some y → H' t = some (.tup [x, y])) → Q (.ref S) H'
theorem pe_listZip {e1 e2 : Expr} {ta : TA} {p pos p2 pos2 : Pos} (hc : X.calm = true) (hg : Gl X "zip") (hm : X.mg "zip" = none) (hg2 : Gl X "list") (hm2 : X.mg "list" = none) (ha : PA X [e1, e2] ta)
    (hs : starEach [e1, e2] X.env = [(false, eval e1 X.env), (false, eval e2 X.env)] := by rfl) (hs2 : starEach [e2] X.env = [(false, eval e2 X.env)] := by rfl)
    (he : starEach [Expr.Call (.Name "zip" p) [e1, e2] [] pos] X.env = (false, eval (.Call (.Name "zip" p) [e1, e2] [] pos) X.env) :: starEach [] X.env := by rfl) (hpl : (backTo pos2 (starEach [] X.env)).any (·.1) = false := by rfl) :
    PE X (.Call (.Name "list" p2) [.Call (.Name "zip" p) [e1, e2] [] pos] [] pos2) (tListZip X.K ta) := by
  intro pins s σ H Q I h
  refine wpAny_Call_Name_kw (ld_blt I hg2 hm2 Boot.«list» ?_ (by decide) (by decide))
  refine PyProof.Rows.callWith_type1 ?_ he hpl
  rw [he]
  show wpAny _ _ (spliced ((false, eval (.Call (.Name "zip" p) [e1, e2] [] pos) X.env) :: backTo pos2 (starEach [] X.env))) _ _ s
  refine Calls.spliced_cons ?_
  refine Call_ (ld_blt I hg hm Boot.«zip» (PyProof.Rows.callWith_type1 (thn (ha pos pins s σ H _ I h) fun us s1 ⟨vs, H1, I1, r1, q1⟩ => ?_) (by rw [hs, hs2]) (by rw [hs2]; rfl)))
  obtain ⟨a, b, xs, ys, e, hx, hy, hl, q⟩ := q1
  subst e
  cases r1 with
  | cons r rr =>
    cases rr with
    | cons r' rr =>
      cases rr
      cases r
      cases r'
      obtain ⟨its, rv, p1, hz1⟩ := I1.list hx
      obtain ⟨its2, rv2, p2, hz2⟩ := I1.list hy
      have l1 : a < s1.heap.objs.size := by obtain ⟨_, e, _⟩ := p1.isList; exact Heap.lt_size e
      have l2 : b < s1.heap.objs.size := by obtain ⟨_, e, _⟩ := p2.isList; exact Heap.lt_size e
      refine call_zip_2 p1.isList p2.isList fun h' hz hTI hTO hi1 hi2 hsz hk => ?_
      refine Calls.spliced_nil ?_
      have fp : ∀ c ∈ [s1.heap.objs.size + 4, s1.heap.objs.size + 2, s1.heap.objs.size + 3, s1.heap.objs.size, s1.heap.objs.size + 1], s1.heap.objs.size ≤ c ∧ c < h'.objs.size := fun c hc => by
        simp only [List.mem_cons, List.not_mem_nil, or_false] at hc
        rcases hc with e | e | e | e | e <;> rw [e] <;> omega
      refine call_list_zip (zipApart_new l1 l2) (I1.kept (t' := s1.toks) hk) (fun c hc => I1.fpOk (fp c hc).1 (I1.hok.fresh (fp c hc).1)) (fun c hc => (fp c hc).2) hz ⟨_, _, hTO⟩ hTI ⟨hi1, ?_⟩ ⟨hi2, ?_⟩ rv rv2 hl hz1 (I1.ok.hd hc) fun H' s' S ts I' fS e1 e2 e3 e4 => ⟨.ref S, H', I', rfl, q S H' ts e1 fS e2 e3 e4⟩
      · obtain ⟨o, e, c⟩ := p1.isList
        exact ⟨o, hk _ _ e, c⟩
      · obtain ⟨o, e, c⟩ := p2.isList
        exact ⟨o, hk _ _ e, c⟩
end
end L2
namespace L2
open PySem PySem.Spec PySem.W PyProof.Rows
def ivD : Dt → Int
  | .int n => n
  | _ => 0
def rcD : Dt → Dt
  | .tup ds => .tup ds
  | _ => .tup []
def rank3D (d : Dt) : Dt := .tup [.int (kdN d), .int (ivD d), rcD d]
section
variable {X : Cx} {pins : List (Addr × Obj)} {σ : L2.St} {H : Hp} {s : Shared}
theorem rank3_at (I : Inv X pins σ H s) {v : V} {u : Value} {d : Dt} (h : DatAt X.K H v (rank3D d)) (r : RelV v u) :
    ∃ a t t2 o n v3 u3, u = Value.ref a ∧ s.heap.get? a = some o ∧ o.cls = .type "tuple" ∧ o.data = .seq [Value.int (kdN d) t, Value.int (ivD d) t2, u3].toArray n ∧ DatAt X.K H v3 (rcD d) ∧ RelV v3 u3 := by
  obtain ⟨a, ws, rfl, h1, h2⟩ := DatAt.un (ds := [.int (kdN d), .int (ivD d), rcD d]) h
  obtain ⟨v1, vr, rfl, q1, h3⟩ := h2.un
  obtain ⟨v2, vr2, rfl, q2, h4⟩ := h3.un
  obtain ⟨v3, vr3, rfl, q3, h5⟩ := h4.un
  cases h5.un0
  have e1 := q1.int_eq
  subst e1
  have e2 := q2.int_eq
  subst e2
  obtain ⟨its, rv, ⟨o, e, c, n, dd⟩, _⟩ := I.tuple h1
  cases (show u = Value.ref a from r)
  cases rv with
  | cons rx rr =>
    cases rr with
    | cons ry rr =>
      cases rr with
      | cons rz rr =>
        cases rr
        obtain ⟨t, rfl⟩ := (show ∃ t, _ = Value.int (kdN d) t from rx)
        obtain ⟨t2, rfl⟩ := (show ∃ t, _ = Value.int (ivD d) t from ry)
        exact ⟨a, t, t2, o, n, v3, _, rfl, e, c, dd, q3, rz⟩
theorem ranks3_tups (I : Inv X pins σ H s) : ∀ (ds : List Dt) (vs : List V) (us : List Value), DatsAt X.K H vs (ds.map rank3D) → Vals vs us → ∃ fs, KatTups s.heap us fs ∧ fs.length = us.length ∧ ∀ f ∈ fs, ∃ x t, f = Value.int x t
  | [], vs, us, h, r => by
    have e := h.un0
    subst e
    cases r
    exact ⟨[], .nil, rfl, fun f hf => nomatch hf⟩
  | p :: ps, vs, us, h, r => by
    obtain ⟨v, w', rfl, h1, h2⟩ := DatsAt.un (d := rank3D p) (ds := ps.map rank3D) h
    cases r with
    | cons r1 r2 =>
      obtain ⟨a, t, t2, o, n, v3, u3, rfl, e1, e2, e3, _, _⟩ := rank3_at I h1 r1
      obtain ⟨fs, k1, k2, k3⟩ := ranks3_tups I ps _ _ h2 r2
      refine ⟨Value.int (kdN p) t :: fs, .cons e1 e2 e3 (by simp) k1, by simp [k2], fun f hf => ?_⟩
      rcases List.mem_cons.mp hf with q | q
      · exact ⟨_, _, q⟩
      · exact k3 f q
theorem rc_cmp {d e : Dt} (hd : Oc d) (he : Oc e) : Cmp (rcD d) (rcD e) := by
  cases hd with
  | non => cases he <;> simp [rcD, Cmp, Cmps]
  | int n => cases he <;> simp [rcD, Cmp, Cmps]
  | recd fs =>
    cases he with
    | non => cases fs <;> simp [rcD, Cmp, Cmps]
    | int n => cases fs <;> simp [rcD, Cmp, Cmps]
    | recd gs => simp [rcD, Cmp, cmps_pairs]
theorem oc_lt3 {d e : Dt} (hd : Oc d) (he : Oc e) : Dt.lt d e = if kdN d = kdN e then (if ivD d = ivD e then Dt.lt (rcD d) (rcD e) else decide (ivD d < ivD e)) else decide (kdN d < kdN e) := by
  cases hd with
  | non => cases he <;> simp [Dt.lt, Dt.lts, kdN, ivD, rcD]
  | int n =>
    cases he with
    | non => simp [Dt.lt, kdN]
    | int m =>
      by_cases h : n = m
      · subst h
        simp [Dt.lt, Dt.lts, kdN, ivD, rcD]
      · simp [Dt.lt, Dt.lts, kdN, ivD, rcD, h]
        try exact decide_eq_decide.mpr Iff.rfl
    | recd gs => simp [Dt.lt, kdN]
  | recd fs =>
    cases he with
    | non => simp [Dt.lt, kdN]
    | int m => simp [Dt.lt, kdN]
    | recd gs => simp [kdN, ivD, rcD]
theorem rc_hgt {d : Dt} (hd : Oc d) : (rcD d).hgt ≤ 2 := by
  have := hd.hgt
  cases hd <;> simp_all [rcD, Dt.hgts, Dt.hgt]
theorem ask_rank3 {A : Around} (hA : A.units + 64 < cLine) {ds : List Dt} (oc : ∀ d ∈ ds, Oc d) : AskOk X pins σ A ds (ds.map rank3D) Dt.lt := by
  refine ⟨tuples' ((Value.type "int") != (Value.type "tuple")), fun H' s' ks kits I' dk rk' h2 => ⟨fun Q hq => ?_, fun i j C hi hj hC => ?_⟩⟩
  · obtain ⟨fs, k1, k2, k3⟩ := ranks3_tups I' ds ks kits dk rk'
    have l1 := dk.length
    rw [List.length_map] at l1
    have l2 := rk'.length
    refine kat_kind (T := Value.type "int") k1 (by omega) (fun v hv => ?_) (by decide +kernel) hq
    obtain ⟨x, t, rfl⟩ := k3 v hv
    exact .now
  · have gi : ∀ {m : Nat}, m < ds.length → ∃ a t t2 o n v3 u3, kits.getD m Value.none = Value.ref a ∧ s'.heap.get? a = some o ∧ o.data = .seq [Value.int (kdN (ds.getD m .non)) t, Value.int (ivD (ds.getD m .non)) t2, u3].toArray n ∧ DatAt X.K H' v3 (rcD (ds.getD m .non)) ∧ RelV v3 u3 := fun {m} hm => by
      have e1 : (ds.map rank3D)[m]? = some (rank3D (ds.getD m .non)) := by simp [List.getD_eq_getElem?_getD, hm]
      obtain ⟨v, ev, hv⟩ := dk.get e1
      obtain ⟨u, eu, ru⟩ := rk'.get ev
      obtain ⟨a, t, t2, o, n, v3, u3, rfl, f1, _, f3, f4, f5⟩ := rank3_at I' hv ru
      exact ⟨a, t, t2, o, n, v3, u3, getD_of eu, f1, f3, f4, f5⟩
    have om : ∀ {m : Nat}, m < ds.length → Oc (ds.getD m .non) := fun {m} hm => by
      rw [getD_of (List.getElem?_eq_getElem hm)]
      exact oc _ (List.getElem_mem hm)
    obtain ⟨a1, t1, p1, o1, n1, v1, u1, e1, g1, d1, q1, r1⟩ := gi hi
    obtain ⟨a2, t2, p2, o2, n2, v2, u2, e2, g2, d2, q2, r2⟩ := gi hj
    have oi := om hi
    have oj := om hj
    show wpAny _ _ (keyLt' _ (kits.getD i Value.none) (kits.getD j Value.none)) C _ s'
    rw [e1, e2]
    generalize ds.getD i .non = d at d1 q1 oi hC
    generalize ds.getD j .non = e at d2 q2 oj hC
    refine kat_lt g1 d1 g2 d2 ?_
    rw [oc_lt3 oi oj] at hC
    show KatLex _ _ _ _ _ C [(Value.int (kdN d) t1, Value.int (kdN e) t2), (Value.int (ivD d) p1, Value.int (ivD e) p2), (u1, u2)] 0 s'
    refine kat_cons (SeqAt.EqAt.int_int _ _ _ _ _ _ _ _ (kat_go (fun b1 => kat_yes ?_) fun b1 => kat_no ?_))
    · have ek : kdN d = kdN e := by simpa using b1
      rw [if_pos ek] at hC
      rw [decide_eq_false (show ¬ ([Value.int (kdN d) t1, Value.int (ivD d) p1, u1].toArray.size < [Value.int (kdN e) t2, Value.int (ivD e) p2, u2].toArray.size) from Nat.lt_irrefl 3)]
      refine kat_cons (eqAt_dat I' 2 A (.int (ivD d)) (.int (ivD e)) (.int (ivD d)) (.int (ivD e)) _ _ (by simp [Dt.hgt]) (by omega) (.int _) (.int _) ⟨p1, rfl⟩ ⟨p2, rfl⟩ _ _ _ _ (kat_go (fun b2 => kat_yes ?_) fun b2 => kat_no ?_))
      · have ei : ivD d = ivD e := Dt.int.inj ((Dt.beq_iff _ _).mp b2)
        rw [if_pos ei] at hC
        refine kat_cons (eqAt_dat I' 2 A (rcD d) (rcD e) v1 v2 u1 u2 (rc_hgt oi) (by omega) q1 q2 r1 r2 _ _ _ _ (kat_go (fun b3 => kat_yes (kat_nil ?_)) fun b3 => kat_no ?_))
        · have er := (Dt.beq_iff _ _).mp b3
          rw [er, Dt.lt_self] at hC
          exact hC
        · exact kat_one _ _ (ltAt_dat I' 2 A (rcD d) (rcD e) v1 v2 u1 u2 (rc_hgt oi) (by omega) (rc_cmp oi oj) q1 q2 r1 r2 _ hC)
      · have ei : ivD d ≠ ivD e := fun z => by
          rw [z, Dt.beq_self] at b2
          cases b2
        rw [if_neg ei] at hC
        refine kat_one _ _ (ltAt_dat I' 2 A (.int (ivD d)) (.int (ivD e)) (.int (ivD d)) (.int (ivD e)) _ _ (by simp [Dt.hgt]) (by omega) (by simp [Cmp]) (.int _) (.int _) ⟨p1, rfl⟩ ⟨p2, rfl⟩ _ ?_)
        have : Dt.lt (.int (ivD d)) (.int (ivD e)) = decide (ivD d < ivD e) := by simp [Dt.lt]
        rw [this]
        exact hC
    · have ek : kdN d ≠ kdN e := by simpa using b1
      rw [if_neg ek] at hC
      exact oneLt_int hC
end
section
variable {X : Cx} {pins : List (Addr × Obj)} {σ : L2.St} {H : Hp} {s : Shared} {a : Addr} {kvs : List (Dt × V × V)}
theorem d_sorted3 {f : Addr} {fd : FuncData} {px : Str} {sp : Sp} {k : Nat} {E : Value → Shared → Prop} {Q : Value → Shared → Prop} (F : FnOk X.prog X.w X.K X.mg X.base CX0 k f fd [px] sp) (hr : Room (k + 2) X.A) (hb : Binds X.K fd [px] [])
    (hsp : ∀ (H' : Hp) (v : V) (d : Dt) (Q : VK), Oc d → DatAt X.K H' v d → (∀ u H'', Same H' H'' → DatAt X.K H'' u (rank3D d) → Q u H'') → sp [v] H' Q fun _ _ _ => False)
    (I : Inv X pins σ H s) (M : DkM X.K X.w H a kvs) (few : kvs.length < 64)
    (q : ∀ (D : Addr) (H' : Hp) (es : List (Dt × V × V)) (s' : Shared), Same H H' → H D = none → es.Perm kvs → (es.map (·.1)).Pairwise (fun x y => Dt.lt x y = true) → H' D = some (.lst (es.map (·.2.1))) → Inv X pins σ H' s' → Q (.ref D) s') :
    wpAny (model X.prog X.w) X.A (call (.builtin "sorted") [.ref a] [(Str.ofString "key", .ref f)]) Q E s := by
  obtain ⟨⟨far, ob, es, ep, ks, e1, e2, e3, e4, p⟩, _, _⟩ := (show ObjOk X.prog X.w H s.heap a (DkO X.w a kvs) from I.hok a _ M.at_)
  have kl : kvs.length = ks.length := Paired.length p
  have sz : es.size = ks.length := by rw [← Array.length_toList, e4, List.length_map]
  have s64 : (64 : Nat) ≤ sizeLine := by decide
  have rm : Room k X.A.in1.in1 := (show Room (k + 1) X.A.in1 from hr.in1).in1
  refine call_function_entry_kw kind_sorted plain_sorted entry_sorted (ksk_s1 _ _) ?_
  unfold Builtin.«sorted»
  refine wpAny_bind (m := checkCount "sorted" 1 1 _) (wpAny_pure (wpAny_bind (kdu_collect (es_src (es := es) (ep := ep) far) hr.hd ⟨ob, e1, e2, e3⟩ (by omega) fun h1 tk acc kept items => ?_)))
  have ea : acc.toList = ks.map (·.2.1) := acc_keys e4 items.1 fun j v e => items.2 j v e
  rw [ea]
  have I1 : Inv X pins σ H { s with heap := h1, toks := tk } := I.kept kept
  have lfree : H h1.objs.size = none := I1.hok.fresh (Nat.le_refl _)
  refine wpAny_bind (wpAny_newList ?_ (by rw [List.length_map]; omega))
  have I2 := I1.laid (t' := tk) (a := h1.objs.size) (o := .lst (kvs.map (·.2.1))) (h' := h1.push (seqObj "list" (ks.map (·.2.1)).toArray 0)) (fun b o q => Heap.get?_push_of_some _ q) (Nat.le_refl _)
    ⟨by rw [List.length_map]; omega, _, 0, dk_vals p, Heap.get?_push_size _ rfl⟩
  have dat : DatsAt X.K H (kvs.map (·.2.1)) (kvs.map (·.1)) := dk_dats M.dat
  refine wpAny_bind (wpAny_holding (wpAny_call_entry_kw slot_list_sort ⟨_, Heap.get?_push_size _ rfl, rfl⟩ entry_list_sort ?body (ksk_l1 _ _)))
  case body =>
    refine lsortK (A := X.A.in1.in1) (ds := kvs.map (·.1)) (rk := rank3D) (lt := Dt.lt) F rm rfl hb (fun H' v d Q hd h1 h2 => hsp H' v d Q ?_ h1 h2) I2 upd_same (dat.same (.upd lfree)) (by rw [List.length_map]; exact few) (ask_rank3 rm.units fun d hd => ?_) (lo_of M.nd) fun H' s' pm I' but at' pp ps => ?_
    · obtain ⟨x, hx, rfl⟩ := List.mem_map.mp hd
      exact M.oc x hx
    · obtain ⟨x, hx, rfl⟩ := List.mem_map.mp hd
      exact M.oc x hx
    · refine ⟨_, rfl, wpAny_pure ⟨_, rfl, ?_⟩⟩
      rw [List.length_map] at pp
      have lt : ∀ i ∈ pm, i < kvs.length := fun i hi => List.mem_range.mp (pp.mem_iff.mp hi)
      refine q h1.objs.size H' (pm.map fun i => kvs.getD i (.non, .non, .non)) s' (fun b o e => but b o (ne_of_none e lfree) (by rw [upd_ne (ne_of_none e lfree)]; exact e)) lfree (pick_perm pp) ?_ ?_ I'
      · rw [List.map_map]
        have e : (pm.map fun i => (kvs.map (·.1)).getD i Dt.non) = pm.map ((·.1) ∘ fun i => kvs.getD i (.non, .non, .non)) := List.map_congr_left fun i hi => by
          show (kvs.map (·.1)).getD i Dt.non = (kvs.getD i (.non, .non, .non)).1
          simp [List.getD_eq_getElem?_getD, lt i hi]
        rw [← e]
        exact ps
      · rw [at', List.map_map]
        refine congrArg some (congrArg HO.lst (List.map_congr_left fun i hi => ?_))
        show (kvs.map (·.2.1)).getD i .non = (kvs.getD i (.non, .non, .non)).2.1
        simp [List.getD_eq_getElem?_getD, lt i hi]
theorem pe_sortedK3 {x : Str} {p pos kpos : Pos} {e ef : Expr} {ta tk : TA} {f : Addr} {fd : FuncData} {px : Str} {sp : Sp} {k : Nat} (F : FnOk X.prog X.w X.K X.mg X.base CX0 k f fd [px] sp) (hr : Room (k + 2) X.A) (hb : Binds X.K fd [px] [])
    (hsp : ∀ (H' : Hp) (v : V) (d : Dt) (Q : VK), Oc d → DatAt X.K H' v d → (∀ u H'', Same H' H'' → DatAt X.K H'' u (rank3D d) → Q u H'') → sp [v] H' Q fun _ _ _ => False)
    (hg : Gl X x) (hm : X.mg x = none) (hv : bootBuiltins x = some (.builtin "sorted")) (ha : PA X [e] ta) (hk : PK X [⟨some "key", ef, kpos⟩] tk) (hn : x ≠ "__name__" := by decide) (hdb : (x == ("__debug__" : Str)) = false := by decide)
    (h1 : backTo pos (starEach [e] X.env) = (false, eval e X.env) :: backTo pos (starEach [] X.env) := by rfl) (h2 : (backTo pos (starEach [e] X.env)).any (·.1) = false := by rfl) :
    PE X (.Call (.Name x p) [e] [⟨some "key", ef, kpos⟩] pos) (tSortK X.K X.w f ta tk) := by
  intro pins s σ H Q I h
  refine wpAny_Call_Name_kw (ld_blt I hg hm hv ?_ hn hdb)
  refine callWith_kw (thn (ha pos pins s σ H _ I h) fun us s1 ⟨vs, H1, I1, r1, q1⟩ => thn (hk pos pins s1 σ H1 _ I1 q1) fun ws s2 ⟨zs, H2, I2, r2, q2⟩ => ?_) h1 h2
  obtain ⟨a, kvs, rfl, rfl, M, few, q⟩ := q2
  obtain ⟨u1, rfl, z1⟩ := vals1 r1
  obtain ⟨u2, rfl, z2⟩ := vals1 r2
  cases (show u1 = Value.ref a from z1)
  cases (show u2 = Value.ref f from z2)
  exact d_sorted3 F hr hb hsp I2 M few fun D H' es s' e1 e2 e3 e4 e5 I' => ⟨.ref D, H', I', rfl, q D H' es e1 e2 e3 e4 e5⟩
end
end L2
namespace K40
open PySem L2 FW PyProof.Rows
open M44 hiding Prt site Gv Gs hvs way
def top (i : Nat) : Stmt := PySem.Challenge.pw_flipwright_k40_weighed_by_rows.main.body.getD i (.Pass ⟨0, 0, 0, 0⟩)
abbrev s_greatest_divisor : Stmt := top 6
abbrev s_fraction : Stmt := top 7
abbrev s_plus : Stmt := top 8
abbrev s_times : Stmt := top 9
abbrev s_rank : Stmt := top 11
abbrev s_in_order : Stmt := top 12
abbrev s_gathered : Stmt := top 13
abbrev s_mixed : Stmt := top 14
abbrev s_weights_of : Stmt := top 15
abbrev s_draw_shares : Stmt := top 16
abbrev s_weighed_question : Stmt := top 18
abbrev s_weighed : Stmt := top 19
abbrev s_law_cell_at : Stmt := top 21
abbrev s_law_whole : Stmt := top 22
abbrev s_law_mix : Stmt := top 23
abbrev s_law_same : Stmt := top 24
abbrev s_law_word : Stmt := top 25
abbrev s_law_outcome : Stmt := top 26
abbrev s_law_divisor : Stmt := top 27
abbrev s_law_is_share : Stmt := top 28
abbrev s_law_rank : Stmt := top 29
abbrev s_law_widths : Stmt := top 30
abbrev s_law_draws : Stmt := top 31
abbrev s_law_site : Stmt := top 32
abbrev s_law_lists : Stmt := top 33
abbrev s_law_copy : Stmt := top 34
abbrev s_law_lead : Stmt := top 35
abbrev s_law_rows : Stmt := top 36
abbrev s_law_weights : Stmt := top 37
abbrev s_law_due : Stmt := top 38
abbrev s_law_good : Stmt := top 39
abbrev s_law : Stmt := top 40
theorem sc_greatest_divisor : FnScope ["one", "other", "rest"] ["one", "other"] (defScope s_greatest_divisor) := ⟨rfl, rfl, rfl, by decide +kernel, rfl, by decide +kernel, by decide +kernel⟩
theorem sc_fraction : FnScope ["top", "bottom", "divisor"] ["top", "bottom"] (defScope s_fraction) := ⟨rfl, rfl, rfl, by decide +kernel, rfl, by decide +kernel, by decide +kernel⟩
theorem sc_plus : FnScope ["one", "other", "shared", "lacking", "top", "divisor"] ["one", "other"] (defScope s_plus) := ⟨rfl, rfl, rfl, by decide +kernel, rfl, by decide +kernel, by decide +kernel⟩
theorem sc_times : FnScope ["one", "other", "first", "second"] ["one", "other"] (defScope s_times) := ⟨rfl, rfl, rfl, by decide +kernel, rfl, by decide +kernel, by decide +kernel⟩
theorem sc_rank : FnScope ["outcome"] ["outcome"] (defScope s_rank) := ⟨rfl, rfl, rfl, by decide +kernel, rfl, by decide +kernel, by decide +kernel⟩
theorem sc_in_order : FnScope ["outcomes", "kept", "outcome"] ["outcomes"] (defScope s_in_order) := ⟨rfl, rfl, rfl, by decide +kernel, rfl, by decide +kernel, by decide +kernel⟩
theorem sc_gathered : FnScope ["pairs", "shares", "outcome", "share"] ["pairs"] (defScope s_gathered) := ⟨rfl, rfl, rfl, by decide +kernel, rfl, by decide +kernel, by decide +kernel⟩
theorem sc_mixed : FnScope ["parts", "pairs", "weight", "part", "outcome", "share"] ["parts"] (defScope s_mixed) := ⟨rfl, rfl, rfl, by decide +kernel, rfl, by decide +kernel, by decide +kernel⟩
theorem sc_weights_of : FnScope ["draw"] ["draw"] (defScope s_weights_of) := ⟨rfl, rfl, rfl, by decide +kernel, rfl, by decide +kernel, by decide +kernel⟩
theorem sc_draw_shares : FnScope ["draw", "weights"] ["draw"] (defScope s_draw_shares) := ⟨rfl, rfl, rfl, by decide +kernel, rfl, by decide +kernel, by decide +kernel⟩
theorem sc_weighed_question : FnScope ["draw", "tables"] ["draw", "tables"] (defScope s_weighed_question) := ⟨rfl, rfl, rfl, by decide +kernel, rfl, by decide +kernel, by decide +kernel⟩
theorem sc_weighed : FnScope ["parts", "draws", "tables", "part"] ["parts", "draws"] (defScope s_weighed) := ⟨rfl, rfl, rfl, by decide +kernel, rfl, by decide +kernel, by decide +kernel⟩
theorem sc_law_cell_at : FnScope ["_law_script", "_law_k"] ["_law_script", "_law_k"] (defScope s_law_cell_at) := ⟨rfl, rfl, rfl, by decide +kernel, rfl, by decide +kernel, by decide +kernel⟩
theorem sc_law_whole : FnScope ["_law_found"] ["_law_found"] (defScope s_law_whole) := ⟨rfl, rfl, rfl, by decide +kernel, rfl, by decide +kernel, by decide +kernel⟩
theorem sc_law_mix : FnScope ["_law_cell", "_law_k", "_law_figure"] ["_law_cell", "_law_k"] (defScope s_law_mix) := ⟨rfl, rfl, rfl, by decide +kernel, rfl, by decide +kernel, by decide +kernel⟩
theorem sc_law_same : FnScope ["_law_found", "_law_due_here", "_law_k"] ["_law_found", "_law_due_here"] (defScope s_law_same) := ⟨rfl, rfl, rfl, by decide +kernel, rfl, by decide +kernel, by decide +kernel⟩
theorem sc_law_word : FnScope ["_law_figure", "_law_letters", "_law_word_here", "_law_k"] ["_law_figure"] (defScope s_law_word) := ⟨rfl, rfl, rfl, by decide +kernel, rfl, by decide +kernel, by decide +kernel⟩
theorem sc_law_outcome : FnScope ["_law_cell", "_law_fields", "_law_k"] ["_law_cell"] (defScope s_law_outcome) := ⟨rfl, rfl, rfl, by decide +kernel, rfl, by decide +kernel, by decide +kernel⟩
theorem sc_law_divisor : FnScope ["_law_one", "_law_other"] ["_law_one", "_law_other"] (defScope s_law_divisor) := ⟨rfl, rfl, rfl, by decide +kernel, rfl, by decide +kernel, by decide +kernel⟩
theorem sc_law_is_share : FnScope ["_law_found"] ["_law_found"] (defScope s_law_is_share) := ⟨rfl, rfl, rfl, by decide +kernel, rfl, by decide +kernel, by decide +kernel⟩
theorem sc_law_rank : FnScope ["_law_outcome_here"] ["_law_outcome_here"] (defScope s_law_rank) := ⟨rfl, rfl, rfl, by decide +kernel, rfl, by decide +kernel, by decide +kernel⟩
theorem sc_law_widths : FnScope ["_law_script", "_law_cell", "_law_some"] ["_law_script"] (defScope s_law_widths) := ⟨rfl, rfl, rfl, by decide +kernel, rfl, by decide +kernel, by decide +kernel⟩
theorem sc_law_draws : FnScope ["_law_script", "_law_widths_here", "_law_draws_here", "_law_turn", "_law_cell", "_law_draw", "_law_k", "_law_figure"] ["_law_script", "_law_widths_here"] (defScope s_law_draws) := ⟨rfl, rfl, rfl, by decide +kernel, rfl, by decide +kernel, by decide +kernel⟩
theorem sc_law_site : FnScope ["_law_entry"] ["_law_entry"] (defScope s_law_site) := ⟨rfl, rfl, rfl, by decide +kernel, rfl, by decide +kernel, by decide +kernel⟩
theorem sc_law_lists : FnScope ["_law_script", "_law_widths_here", "_law_parts", "_law_k", "_law_cell", "_law_turn", "_law_some", "_law_children"] ["_law_script", "_law_widths_here"] (defScope s_law_lists) := ⟨rfl, rfl, rfl, by decide +kernel, rfl, by decide +kernel, by decide +kernel⟩
theorem sc_law_copy : FnScope ["_law_parts"] ["_law_parts"] (defScope s_law_copy) := ⟨rfl, rfl, rfl, by decide +kernel, rfl, by decide +kernel, by decide +kernel⟩
theorem sc_law_lead : FnScope ["_law_parts", "_law_place", "_law_row", "_law_entry"] ["_law_parts", "_law_place", "_law_row"] (defScope s_law_lead) := ⟨rfl, rfl, rfl, by decide +kernel, rfl, by decide +kernel, by decide +kernel⟩
theorem sc_law_rows : FnScope ["_law_widths_here", "_law_rows_here", "_law_many", "_law_longer", "_law_row", "_law_turn"] ["_law_widths_here"] (defScope s_law_rows) := ⟨rfl, rfl, rfl, by decide +kernel, rfl, by decide +kernel, by decide +kernel⟩
theorem sc_law_weights : FnScope ["_law_rows_here", "_law_draws_here", "_law_found", "_law_row", "_law_weight", "_law_k"] ["_law_rows_here", "_law_draws_here"] (defScope s_law_weights) := ⟨rfl, rfl, rfl, by decide +kernel, rfl, by decide +kernel, by decide +kernel⟩
theorem sc_law_due : FnScope ["_law_parts", "_law_place", "_law_rows_here", "_law_weights_here", "_law_found", "_law_k", "_law_outcome_here"] ["_law_parts", "_law_place", "_law_rows_here", "_law_weights_here"] (defScope s_law_due) := ⟨rfl, rfl, rfl, by decide +kernel, rfl, by decide +kernel, by decide +kernel⟩
theorem sc_law_good : FnScope ["_law_found", "_law_due_here", "_law_whole_here", "_law_outcomes", "_law_k", "_law_pair"] ["_law_found", "_law_due_here", "_law_whole_here"] (defScope s_law_good) := ⟨rfl, rfl, rfl, by decide +kernel, rfl, by decide +kernel, by decide +kernel⟩
theorem sc_law : FnScope ["_law_script", "_law_widths_here", "_law_draws_here", "_law_parts", "_law_rows_here", "_law_weights_here", "_law_handed", "_law_also", "_law_found", "_law_place", "_law_kept"] ["_law_script"] (defScope s_law) := ⟨rfl, rfl, rfl, by decide +kernel, rfl, by decide +kernel, by decide +kernel⟩
structure Txt (K : PySem.W.Frag) (mg : Str → Option Value) (cN : Addr) : Prop where
  NOUGHT : mg "NOUGHT" = some (.ref cN)
  nought : ∀ H, SqT K H cN [.int 0, .int 1]
  abs_ : mg "abs" = none
  len_ : mg "len" = none
  max_ : mg "max" = none
  min_ : mg "min" = none
  sum_ : mg "sum" = none
  zip_ : mg "zip" = none
  range_ : mg "range" = none
  isinstance_ : mg "isinstance" = none
  int_ : mg "int" = none
  bool_ : mg "bool" = none
  str_ : mg "str" = none
  tuple_ : mg "tuple" = none
  list_ : mg "list" = none
  sorted_ : mg "sorted" = none
section
variable {P : Program} {w : World} {K : PySem.W.Frag} {mg : Str → Option Value} {base : Heap} {cN : Addr}
def sp_gcd : Sp := fun vs H Q _ => ∃ a b, vs = [.int a, .int b] ∧ Q (.int (g a b)) H
def tupQ (H : Hp) (Q : VK) (x y : Int) : Prop := ∀ r H', Same H H' → H' r = some (.tup [.int x, .int y]) → Q (.ref r) H'
def sp_plus (K : PySem.W.Frag) : Sp := fun vs H Q _ => ∃ p q a b c d, vs = [.ref p, .ref q] ∧ SqT K H p [.int a, .int b] ∧ SqT K H q [.int c, .int d] ∧ 0 < b ∧ 0 < d ∧ Sm a ∧ Sm b ∧ Sm c ∧ Sm d ∧
  tupQ H Q (plusM a b c d).1 (plusM a b c d).2
def sp_times (K : PySem.W.Frag) : Sp := fun vs H Q _ => ∃ p q a b c d, vs = [.ref p, .ref q] ∧ SqT K H p [.int a, .int b] ∧ SqT K H q [.int c, .int d] ∧ 0 < b ∧ 0 < d ∧ Sm a ∧ Sm b ∧ Sm c ∧ Sm d ∧
  tupQ H Q (timesM a b c d).1 (timesM a b c d).2
def datQ (K : PySem.W.Frag) (H : Hp) (Q : VK) (d : Dt) : Prop := ∀ v H', Same H H' → DatAt K H' v d → Q v H'
def lstQ (K : PySem.W.Frag) (H : Hp) (Q : VK) (ds : List Dt) : Prop := ∀ D H', Same H H' → H D = none → LsM K H' D ds → Q (.ref D) H'
abbrev Srt (es : List Dt) : Prop := es.Pairwise fun x y => Dt.lt x y = true
def sp_rank (K : PySem.W.Frag) : Sp := fun vs H Q _ => ∃ v o, vs = [v] ∧ DatAt K H v o ∧ Oc o ∧ datQ K H Q (rankD o)
def sp_in_order (K : PySem.W.Frag) : Sp := fun vs H Q _ => ∃ a ws ds, ∃ cov : List Dt, vs = [.ref a] ∧ SqL K H a ws ∧ DatsAt K H ws ds ∧ (∀ d ∈ ds, Oc d) ∧ ds.length ≤ 1000 ∧ (∀ d ∈ ds, d ∈ cov) ∧ cov.length < 64 ∧
  ∀ es, Srt es → (∀ x, x ∈ es ↔ x ∈ ds) → lstQ K H Q es
theorem gcd_end {x a b : Int} (h0 : 0 ≤ x) (h : Int.gcd x 0 = Int.gcd a b) : x = g a b := by
  rw [Int.gcd_zero_right] at h
  show x = ((Int.gcd a b : Nat) : Int)
  rw [← h]
  omega
theorem gcd_start {a b : Int} : Int.gcd (if a < 0 then -a else a) (if b < 0 then -b else b) = Int.gcd a b := by
  split <;> split <;> simp
theorem abs_nn (a : Int) : 0 ≤ (if a < 0 then -a else a) := by split <;> omega
theorem abs_g_le {a b : Int} (h : b ≠ 0) : (g a b).natAbs ≤ b.natAbs := by
  show (((Int.gcd a b : Nat) : Int)).natAbs ≤ b.natAbs
  rw [Int.natAbs_natCast]
  exact Int.gcd_le_natAbs_right a h
theorem ok_greatest_divisor {f : Addr} {fd : FuncData} (A : FnAt K mg "greatest_divisor" s_greatest_divisor ["one", "other"] f fd) (T : Txt K mg cN) : FnOk P w K mg base CX0 1 f fd ["one", "other"] sp_gcd := by
  refine A.F.ok sc_greatest_divisor (fun vs H Q E h => ?_) (fun cdv Ar outer s H vs Q E hr h => ?_)
  · obtain ⟨a, b, rfl, _⟩ := h
    rfl
  · obtain ⟨a, b, rfl, k⟩ := h
    refine ⟨_, (pss_cons (ps_set (i := 0) sc_greatest_divisor.nd rfl (Or.inl rfl) (pe_callB call_abs (by rfl) T.abs_ Boot.«abs» (pa_cons (pv 0) pa_nil)))
      (pss_cons (ps_set (i := 1) sc_greatest_divisor.nd rfl (Or.inl rfl) (pe_callB call_abs (by rfl) T.abs_ Boot.«abs» (pa_cons (pv 1) pa_nil)))
      (pss_cons (ps_while PassesOwn.never (pt_cmpR op_ne (pv 1) pe_int (nomark _)) (pss_cons (ps_set (i := 2) sc_greatest_divisor.nd rfl (Or.inl rfl) (pe_op op_mod (pv 0) (pv 1)))
      (pss_cons (ps_set (i := 0) sc_greatest_divisor.nd rfl (Or.inl rfl) (pv 1))
      (pss_one (ps_set (i := 1) sc_greatest_divisor.nd rfl (Or.inl rfl) (pv 2))))))
      (pss_one (ps_ret (pv 0)))))), ?_⟩
    refine ⟨_, rfl, _, rfl, _, rfl, _, rfl, ?_⟩
    refine while_by (fun σ H' => H' = H ∧ ∃ (x y : Int) (o : Option V), σ = [some (.int x), some (.int y), o] ∧ 0 ≤ x ∧ 0 ≤ y ∧ Int.gcd x y = Int.gcd a b)
      (fun σ _ => match σ with | [_, some (.int y), _] => y.toNat | _ => 0) ⟨rfl, _, _, none, rfl, abs_nn a, abs_nn b, gcd_start⟩ ?_ ?_
    · rintro σ H' ⟨rfl, x, y, o, rfl, hx, hy, hg⟩
      refine ⟨_, rfl, rfl, _, rfl, ?_⟩
      refine iteBB (fun hc => ?_) (fun hc => ?_)
      rotate_left
      · have h0 : y = 0 := by simpa using hc
        subst h0
        refine ⟨_, rfl, ?_⟩
        rw [gcd_end hx hg]
        exact k
      · have h0 : ¬ y = 0 := by simpa using hc
        refine ⟨_, rfl, _, rfl, _, _, rfl, rfl, (by show (0 : Int) < y; omega), _, rfl, _, rfl, ⟨rfl, _, _, _, rfl, hy, Int.emod_nonneg _ h0, ?_⟩, ?_⟩
        · rw [← hg, g_step]
        · show (x % y).toNat < y.toNat
          have := Int.emod_lt_of_pos x (show 0 < y by omega)
          omega
    · rintro σ H' Q1 Q2 hq ⟨v, e, h1, b, e2, h2⟩
      exact ⟨v, e, h1, b, e2, hq _ _ h2⟩
theorem kit_ii : PySem.W.kitOne K (.type "int") (.type "int") = some true := by rfl
theorem sm_ediv {x y : Int} (h : Sm x) (d : y ∣ x) : Sm (x / y) := h.le (abs_ediv_le d)
theorem ok_plus {f fG : Addr} {fd fdG : FuncData} (A : FnAt K mg "plus" s_plus ["one", "other"] f fd) (A_greatest_divisor : FnAt K mg "greatest_divisor" s_greatest_divisor ["one", "other"] fG fdG) (T : Txt K mg cN) :
    FnOk P w K mg base CX0 2 f fd ["one", "other"] (sp_plus K) := by
  have G_greatest_divisor : FnOk P w K mg base CX0 1 fG fdG _ sp_gcd := ok_greatest_divisor A_greatest_divisor T
  refine A.F.ok sc_plus (fun vs H Q E h => ?_) (fun cdv Ar outer s H vs Q E hr h => ?_)
  · obtain ⟨p, q, a, b, c, d, rfl, _⟩ := h
    rfl
  · obtain ⟨p, q, a, b, c, d, rfl, hp, hq, hb, hd, sa, sb, sc, sd, k⟩ := h
    refine ⟨_, (pss_cons (ps_set (i := 2) sc_plus.nd rfl (Or.inl rfl) (pe_call G_greatest_divisor (hr.mono (by decide)) rfl A_greatest_divisor.m A_greatest_divisor.F.kp A_greatest_divisor.b .nil pass0 (pa_cons (pe_ix ix_tup (pv 0) pe_int (fun _ _ => rfl)) (pa_cons (pe_ix ix_tup (pv 1) pe_int (fun _ _ => rfl)) pa_nil))))
      (pss_cons (ps_set (i := 3) sc_plus.nd rfl (Or.inl rfl) (pe_op op_fdivP (pe_ix ix_tup (pv 1) pe_int (fun _ _ => rfl)) (pv 2)))
      (pss_cons (ps_set (i := 4) sc_plus.nd rfl (Or.inl rfl) (pe_op op_add (pe_op op_mulB (pe_ix ix_tup (pv 0) pe_int (fun _ _ => rfl)) (pv 3)) (pe_op op_mulB (pe_ix ix_tup (pv 1) pe_int (fun _ _ => rfl)) (pe_op op_fdivP (pe_ix ix_tup (pv 0) pe_int (fun _ _ => rfl)) (pv 2)))))
      (pss_cons (ps_set (i := 5) sc_plus.nd rfl (Or.inl rfl) (pe_call G_greatest_divisor (hr.mono (by decide)) rfl A_greatest_divisor.m A_greatest_divisor.F.kp A_greatest_divisor.b .nil pass0 (pa_cons (pv 4) (pa_cons (pv 2) pa_nil))))
      (pss_one (ps_ret (pe_tup (pa_cons (pe_op op_fdivP (pv 4) (pv 5)) (pa_cons (pe_op op_mulB (pe_op op_fdivP (pe_ix ix_tup (pv 0) pe_int (fun _ _ => rfl)) (pv 5)) (pv 3)) pa_nil))))))))), ?_⟩
    have gp : 0 < g b d := g_pos (by omega)
    have sg : Sm (g b d) := sd.le (abs_g_le (by omega))
    have db : g b d ∣ b := Int.gcd_dvd_left ..
    have dd : g b d ∣ d := Int.gcd_dvd_right ..
    have s1 : Sm (d / g b d) := sm_ediv sd dd
    have s2 : Sm (b / g b d) := sm_ediv sb db
    refine ⟨_, rfl, p, _, 1, .int b, rfl, rfl, hp, rfl, _, rfl, q, _, 1, .int d, rfl, rfl, hq, rfl, b, d, rfl, ?_⟩
    refine ⟨_, rfl, q, _, 1, .int d, rfl, rfl, hq, rfl, _, rfl, _, _, rfl, rfl, ⟨gp, sg.log⟩, ?_⟩
    refine ⟨_, rfl, p, _, 0, .int a, rfl, rfl, hp, rfl, _, rfl, _, _, rfl, rfl, sa.mul s1, _, rfl, q, _, 0, .int c, rfl, rfl, hq, rfl, _, rfl, p, _, 1, .int b, rfl, rfl, hp, rfl, _, rfl, _, _, rfl, rfl, ⟨gp, sg.log⟩, _, _, rfl, rfl, sc.mul s2, _, _, rfl, rfl, ?_⟩
    refine ⟨_, rfl, _, rfl, _, _, rfl, ?_⟩
    generalize ht : a * (d / g b d) + c * (b / g b d) = t
    have gp2 : 0 < g t (g b d) := g_pos (by omega)
    have sg2 : Sm (g t (g b d)) := sg.le (abs_g_le (by omega))
    have d2 : g t (g b d) ∣ b := Int.dvd_trans (Int.gcd_dvd_right ..) db
    refine ⟨_, rfl, _, rfl, _, _, rfl, rfl, ⟨gp2, sg2.log⟩, _, rfl, p, _, 1, .int b, rfl, rfl, hp, rfl, _, rfl, _, _, rfl, rfl, ⟨gp2, sg2.log⟩, _, rfl, _, _, rfl, rfl, (sm_ediv sb d2).mul s1, two_le, fun r hr => ?_⟩
    refine k r _ (.upd hr) ?_
    rw [upd_same]
    subst ht
    rfl
theorem ok_times {f fG : Addr} {fd fdG : FuncData} (A : FnAt K mg "times" s_times ["one", "other"] f fd) (A_greatest_divisor : FnAt K mg "greatest_divisor" s_greatest_divisor ["one", "other"] fG fdG) (T : Txt K mg cN) :
    FnOk P w K mg base CX0 2 f fd ["one", "other"] (sp_times K) := by
  have G_greatest_divisor : FnOk P w K mg base CX0 1 fG fdG _ sp_gcd := ok_greatest_divisor A_greatest_divisor T
  refine A.F.ok sc_times (fun vs H Q E h => ?_) (fun cdv Ar outer s H vs Q E hr h => ?_)
  · obtain ⟨p, q, a, b, c, d, rfl, _⟩ := h
    rfl
  · obtain ⟨p, q, a, b, c, d, rfl, hp, hq, hb, hd, sa, sb, sc, sd, k⟩ := h
    refine ⟨_, (pss_cons (ps_set (i := 2) sc_times.nd rfl (Or.inl rfl) (pe_call G_greatest_divisor (hr.mono (by decide)) rfl A_greatest_divisor.m A_greatest_divisor.F.kp A_greatest_divisor.b .nil pass0 (pa_cons (pe_ix ix_tup (pv 0) pe_int (fun _ _ => rfl)) (pa_cons (pe_ix ix_tup (pv 1) pe_int (fun _ _ => rfl)) pa_nil))))
      (pss_cons (ps_set (i := 3) sc_times.nd rfl (Or.inl rfl) (pe_call G_greatest_divisor (hr.mono (by decide)) rfl A_greatest_divisor.m A_greatest_divisor.F.kp A_greatest_divisor.b .nil pass0 (pa_cons (pe_ix ix_tup (pv 1) pe_int (fun _ _ => rfl)) (pa_cons (pe_ix ix_tup (pv 0) pe_int (fun _ _ => rfl)) pa_nil))))
      (pss_one (ps_ret (pe_tup (pa_cons (pe_op op_mulB (pe_op op_fdivP (pe_ix ix_tup (pv 0) pe_int (fun _ _ => rfl)) (pv 2)) (pe_op op_fdivP (pe_ix ix_tup (pv 1) pe_int (fun _ _ => rfl)) (pv 3))) (pa_cons (pe_op op_mulB (pe_op op_fdivP (pe_ix ix_tup (pv 0) pe_int (fun _ _ => rfl)) (pv 3)) (pe_op op_fdivP (pe_ix ix_tup (pv 1) pe_int (fun _ _ => rfl)) (pv 2))) pa_nil))))))), ?_⟩
    have gp1 : 0 < g a d := g_pos (by omega)
    have sg1 : Sm (g a d) := sd.le (abs_g_le (by omega))
    have gp2 : 0 < g c b := g_pos (by omega)
    have sg2 : Sm (g c b) := sb.le (abs_g_le (by omega))
    have M1 : IntMulOk (a / g a d) (c / g c b) := (sm_ediv sa (Int.gcd_dvd_left ..)).mul (sm_ediv sc (Int.gcd_dvd_left ..))
    have M2 : IntMulOk (b / g c b) (d / g a d) := (sm_ediv sb (Int.gcd_dvd_right ..)).mul (sm_ediv sd (Int.gcd_dvd_right ..))
    refine ⟨_, rfl, p, _, 0, .int a, rfl, rfl, hp, rfl, _, rfl, q, _, 1, .int d, rfl, rfl, hq, rfl, a, d, rfl, ?_⟩
    refine ⟨_, rfl, q, _, 0, .int c, rfl, rfl, hq, rfl, _, rfl, p, _, 1, .int b, rfl, rfl, hp, rfl, c, b, rfl, ?_⟩
    refine ⟨_, rfl, p, _, 0, .int a, rfl, rfl, hp, rfl, _, rfl, _, _, rfl, rfl, ⟨gp1, sg1.log⟩, _, rfl, q, _, 0, .int c, rfl, rfl, hq, rfl, _, rfl, _, _, rfl, rfl, ⟨gp2, sg2.log⟩, _, _, rfl, rfl, M1, ?_⟩
    refine ⟨_, rfl, p, _, 1, .int b, rfl, rfl, hp, rfl, _, rfl, _, _, rfl, rfl, ⟨gp2, sg2.log⟩, _, rfl, q, _, 1, .int d, rfl, rfl, hq, rfl, _, rfl, _, _, rfl, rfl, ⟨gp1, sg1.log⟩, _, _, rfl, rfl, M2, two_le, fun r hr => ?_⟩
    exact k r _ (.upd hr) upd_same
theorem kit_ff {t n : String} (h : PySem.W.kitMeta n = true) (e : (fastBuiltinMro t).map (·.contains (.type n)) = some false) (hne : (Value.type t == Value.type n) = false) : PySem.W.kitOne K (.type t) (.type n) = some false := by
  unfold PySem.W.kitOne
  rw [hne]
  show PySem.W.kitCls K (.type t) (.type n) = some false
  show (if PySem.W.kitMeta n = true then PySem.W.subIn K (.type t) (.type n) else none) = some false
  rw [if_pos h]
  exact e
theorem snoc_ok {H1 H6 : Hp} {D : Addr} {ys : List V} {ds : List Dt} {v : V} {d : Dt} (hD : H1 D = none) (S6 : Same H1 H6) (e6 : H6 D = some (.lst ys)) (hy : DatsAt K H6 ys ds) (hv : DatAt K H6 v d) :
    Same H1 (upd H6 D (.lst (ys ++ [v]))) ∧ (upd H6 D (.lst (ys ++ [v]))) D = some (.lst (ys ++ [v])) ∧ DatsAt K (upd H6 D (.lst (ys ++ [v]))) (ys ++ [v]) (ds ++ [d]) := by
  refine ⟨fun b o e => ?_, upd_same, (hy.append (.cons hv .nil)).updL e6⟩
  rw [upd_ne (ne_of_none e hD)]
  exact S6 _ _ e
theorem kit_ti : PySem.W.kitOne K (.type "tuple") (.type "int") = some false := kit_ff (by decide +kernel) (by decide +kernel) (by decide +kernel)
theorem ok_rank {f : Addr} {fd : FuncData} (A : FnAt K mg "rank" s_rank ["outcome"] f fd) (T : Txt K mg cN) : FnOk P w K mg base CX0 1 f fd ["outcome"] (sp_rank K) := by
  refine A.F.ok sc_rank (fun vs H Q E h => ?_) (fun cdv Ar outer s H vs Q E hr h => ?_)
  · obtain ⟨v, o, rfl, _⟩ := h
    rfl
  · obtain ⟨v, o, rfl, hv, ho, k⟩ := h
    refine ⟨_, (pss_cons (ps_if (pt_cmpR op_isN (pv 0) pe_non (nomark _)) (pss_one (ps_ret (pe_tup (pa_cons pe_int pa_nil)))) pss_nil)
      (pss_cons (ps_if (pt_val (pe_callB call_isiD (by rfl) T.isinstance_ Boot.«isinstance» (pa_cons (pv 0) (pa_cons (pe_bltn rfl T.int_ Boot.«int» (v := .ty "int") rfl) pa_nil)))) (pss_one (ps_ret (pe_tup (pa_cons pe_int (pa_cons (pv 0) pa_nil))))) pss_nil)
      (pss_one (ps_ret (pe_tup (pa_cons pe_int (pa_cons (pv 0) pa_nil))))))), ?_⟩
    cases ho with
    | non =>
      have := hv.non_eq
      subst this
      exact ⟨_, rfl, rfl, _, rfl, iteT ⟨(by show 1 ≤ sizeLine; decide), fun t ht => k _ _ (.upd ht) (.tup (SqT.of upd_same) (.cons (.int 0) .nil))⟩⟩
    | int n =>
      have := hv.int_eq
      subst this
      exact ⟨_, rfl, rfl, _, rfl, iteF ⟨_, rfl, _, _, _, _, rfl, hv, kit_ii, _, rfl, iteT ⟨_, rfl, two_le, fun t ht => k _ _ (.upd ht) (.tup (SqT.of upd_same) (.cons (.int 1) (.cons (.int n) .nil)))⟩⟩⟩
    | recd fs =>
      obtain ⟨r, vs, rfl, h1, h2⟩ := hv.un
      exact ⟨_, rfl, rfl, _, rfl, iteF ⟨_, rfl, _, _, _, _, rfl, hv, kit_ti, _, rfl, iteF ⟨_, rfl, two_le, fun t ht => k _ _ (.upd ht) (.tup (SqT.of upd_same) (.cons (.int 2) (.cons (hv.same (.upd ht)) .nil)))⟩⟩⟩
theorem nd_le : ∀ {l c : List Dt}, l.Nodup → (∀ x ∈ l, x ∈ c) → l.length ≤ c.length
  | [], _, _, _ => Nat.zero_le _
  | x :: l, c, h, m => by
    obtain ⟨c1, c2, rfl⟩ := List.append_of_mem (m x (List.mem_cons_self ..))
    rw [List.nodup_cons] at h
    have := nd_le (c := c1 ++ c2) h.2 fun y hy => by
      have hm := m y (List.mem_cons_of_mem _ hy)
      rcases List.mem_append.mp hm with z | z
      · exact List.mem_append_left _ z
      · rcases List.mem_cons.mp z with z | z
        · subst z; exact absurd hy h.1
        · exact List.mem_append_right _ z
    simp only [List.length_append, List.length_cons] at this ⊢
    omega
set_option maxHeartbeats 2000000 in
theorem ok_in_order {f fR : Addr} {fd fdR : FuncData} (A : FnAt K mg "in_order" s_in_order ["outcomes"] f fd) (A_rank : FnAt K mg "rank" s_rank ["outcome"] fR fdR) (T : Txt K mg cN) : FnOk P w K mg base CX0 4 f fd ["outcomes"] (sp_in_order K) := by
  have G_rank : FnOk P w K mg base CX0 1 fR fdR _ (sp_rank K) := ok_rank A_rank T
  refine A.F.ok sc_in_order (fun vs H Q E h => ?_) (fun cdv Ar outer s H vs Q E hr h => ?_)
  · obtain ⟨a, ws, ds, cov, rfl, _⟩ := h
    rfl
  · obtain ⟨a, ws, ds, cov, rfl, hl, hd, oc, few, hc, cl, k⟩ := h
    refine ⟨_, (pss_cons (ps_set (i := 1) sc_in_order.nd rfl (Or.inl rfl) pe_dnewD)
      (pss_cons (ps_for PassesOwn.never rfl (pi_list (pv 0)) (pg_name (i := 2) sc_in_order.nd rfl (Or.inl rfl)) (pss_one (ps_asg pe_bl (pg_sub (pv 1) (pv 2) (st_dk hr.units)))))
      (pss_one (ps_ret (pe_sortedK G_rank (hr.mono (by decide)) A_rank.b (fun H' v d Q o h q => ⟨v, d, rfl, h, o, q⟩) rfl T.sorted_ Boot.«sorted» (pa_cons (pv 1) pa_nil) (pk_cons (pe_glob rfl A_rank.m (v := .ref fR) rfl) pk_nil)))))), ?_⟩
    have hlen := hd.length
    intro p hp
    refine ⟨_, rfl, a, rfl, ⟨_, (Same.upd hp).seq hl⟩, for_list (K := K) (a := a) (xs := ws) (fun i σ H' => Same H H' ∧ ∃ kvs o2, σ = [some (.ref a), some (.ref p), o2] ∧ DkM K w H' p kvs ∧ ∀ x, x ∈ kvs.map (·.1) ↔ x ∈ ds.take i)
      ⟨.upd hp, [], none, rfl, ⟨upd_same, (fun _ h => nomatch h), (fun _ h => nomatch h), .nil⟩, fun x => by simp⟩ (fun i σ H' _ z => z.1.seq hl) ?_ ?_⟩
    · rintro i x σ H' hx ⟨S1, kvs, o2, rfl, M, mem⟩
      obtain ⟨d, ed, hxd⟩ := (hd.same S1).get' hx
      have dm := List.mem_of_getElem? ed
      have sub : kvs.length ≤ 1000 := by
        have := nd_le M.nd fun y hy => hc y (List.mem_of_mem_take ((mem y).mp hy))
        rw [List.length_map] at this
        omega
      refine ⟨_, rfl, _, rfl, p, kvs, d, rfl, M, sub, hxd, oc d dm, ?_⟩
      refine ⟨fun b o e => ?_, _, _, rfl, M.put hxd (oc d dm), fun y => ?_⟩
      · rw [upd_ne (ne_of_none e hp)]
        exact S1 _ _ e
      · rw [putD_keys, take_snoc' ed]
        split
        · rename_i hh
          have hm := (mem d).mp (hasD_iff.mp hh)
          rw [mem y, List.mem_append, List.mem_singleton]
          exact ⟨.inl, fun z => z.elim (fun z => z) fun z => z ▸ hm⟩
        · rw [List.mem_append, List.mem_append, mem y]
    · rintro σ H' ⟨S1, kvs, o2, rfl, M, mem⟩
      rw [List.take_of_length_le (by omega)] at mem
      have sub : kvs.length < 64 := by
        have := nd_le M.nd fun y hy => hc y ((mem y).mp hy)
        rw [List.length_map] at this
        omega
      refine ⟨_, rfl, p, kvs, rfl, rfl, M, sub, fun D H2 es S2 hD pm srt at2 => ?_⟩
      refine k (es.map (·.1)) srt (fun x => ?_) D H2 (S1.trans S2) (S1.free hD) ⟨_, at2, dk_dats fun x hx => (M.dat x (pm.mem_iff.mp hx)).same S2⟩
      rw [← mem x]
      exact (pm.map _).mem_iff
def wOf (rows : List (Dt × Int)) (o : Dt) : Int := sumW (rows.filter fun r => Dt.beq r.1 o)
theorem wOf_snoc (rows : List (Dt × Int)) (r : Dt × Int) (o : Dt) : wOf (rows ++ [r]) o = wOf rows o + (if Dt.beq r.1 o = true then r.2 else 0) := by
  unfold wOf
  rw [List.filter_append, sumW_append]
  cases h : Dt.beq r.1 o with
  | true =>
    have e : [r].filter (fun r => Dt.beq r.1 o) = [r] := by simp [List.filter, h]
    rw [e, if_pos rfl, sumW_cons, sumW_nil]
    omega
  | false =>
    have e : [r].filter (fun r => Dt.beq r.1 o) = [] := by simp [List.filter, h]
    rw [e, if_neg Bool.false_ne_true, sumW_nil]
theorem wOf_bd : ∀ {rows : List (Dt × Int)} (o : Dt), (∀ r ∈ rows, 0 ≤ r.2) → 0 ≤ wOf rows o ∧ wOf rows o ≤ sumW rows
  | [], o, _ => ⟨Int.le_refl 0, Int.le_refl 0⟩
  | r :: rows, o, h => by
    have ih := wOf_bd (rows := rows) o fun q hq => h q (List.mem_cons_of_mem _ hq)
    have h0 := h r (List.mem_cons_self ..)
    unfold wOf at ih ⊢
    rw [sumW_cons, List.filter_cons]
    split
    · rw [sumW_cons]
      omega
    · omega
theorem wOf_none {rows : List (Dt × Int)} {o : Dt} (h : o ∉ rows.map (·.1)) : wOf rows o = 0 := by
  unfold wOf
  have : rows.filter (fun r => Dt.beq r.1 o) = [] := List.filter_eq_nil_iff.mpr fun r hr z => h (List.mem_map.mpr ⟨r, hr, (Dt.beq_iff _ _).mp z⟩)
  rw [this]
  rfl
theorem putD_val {α : Type} {ks : List (Dt × α × α)} {k : Dt} {key v : α} {x : Dt × α × α} (h : x ∈ putD ks k key v) : (x ∈ ks ∧ x.1 ≠ k) ∨ (x.1 = k ∧ x.2.2 = v) := by
  unfold putD at h
  split at h
  · obtain ⟨y, hy, rfl⟩ := List.mem_map.mp h
    split
    · rename_i hb
      exact .inr ⟨(Dt.beq_iff _ _).mp hb, rfl⟩
    · rename_i hb
      exact .inl ⟨hy, fun z => hb ((Dt.beq_iff _ _).mpr z)⟩
  · rename_i hn
    rcases List.mem_append.mp h with h | h
    · exact .inl ⟨h, fun z => hn (hasD_iff.mpr (List.mem_map.mpr ⟨x, h, z⟩))⟩
    · cases List.mem_singleton.mp h
      exact .inr ⟨rfl, rfl⟩
def gath (S : Int) (rows : List (Dt × Int)) (es : List Dt) : List (Dt × Int) := (es.filter fun o => !decide (wOf rows o = 0)).map fun o => (o, wOf rows o)
def sp_gathered (K : PySem.W.Frag) : Sp := fun vs H Q _ => ∃ a ws rows S, ∃ cov : List Dt, vs = [.ref a] ∧ SqL K H a ws ∧ DatsAt K H ws (rows.map (parD S)) ∧ Sc S rows ∧ (∀ r ∈ rows, Oc r.1) ∧ rows.length ≤ 1000 ∧ (∀ r ∈ rows, r.1 ∈ cov) ∧ cov.length < 64 ∧
  ∀ es, Srt es → (∀ x, x ∈ es ↔ x ∈ rows.map (·.1)) → lstQ K H Q ((gath S rows es).map (parD S))
set_option maxHeartbeats 4000000 in
theorem ok_gathered {f fP fG fO fR : Addr} {fd fdP fdG fdO fdR : FuncData} (A : FnAt K mg "gathered" s_gathered ["pairs"] f fd) (A_plus : FnAt K mg "plus" s_plus ["one", "other"] fP fdP) (A_greatest_divisor : FnAt K mg "greatest_divisor" s_greatest_divisor ["one", "other"] fG fdG)
    (A_in_order : FnAt K mg "in_order" s_in_order ["outcomes"] fO fdO) (A_rank : FnAt K mg "rank" s_rank ["outcome"] fR fdR) (T : Txt K mg cN) : FnOk P w K mg base CX0 5 f fd ["pairs"] (sp_gathered K) := by
  have G_plus : FnOk P w K mg base CX0 2 fP fdP _ (sp_plus K) := ok_plus A_plus A_greatest_divisor T
  have G_in_order : FnOk P w K mg base CX0 4 fO fdO _ (sp_in_order K) := ok_in_order A_in_order A_rank T
  refine A.F.ok sc_gathered (fun vs H Q E h => ?_) (fun cdv Ar outer s H vs Q E hr h => ?_)
  · obtain ⟨a, ws, rows, S, cov, rfl, _⟩ := h
    rfl
  · obtain ⟨a, ws, rows, S, cov, rfl, hl, hd, sc, oc, few, hc, cl, k⟩ := h
    refine ⟨_, (pss_cons (ps_set (i := 1) sc_gathered.nd rfl (Or.inr rfl) pe_dnewD)
      (pss_cons (ps_for PassesOwn.never rfl (pi_list (pv 0)) (pg_tup rfl (pgs_cons (pg_name (i := 2) sc_gathered.nd rfl (Or.inl rfl)) (pgs_cons (pg_name (i := 3) sc_gathered.nd rfl (Or.inl rfl)) pgs_nil))) (pss_one (ps_asg (pe_call G_plus (hr.mono (by decide)) rfl A_plus.m A_plus.F.kp A_plus.b .nil pass0 (pa_cons (pe_bmD PySem.F.slot_dict_get PySem.F.type_dict_get (mt_getD hr.units) (pv 1) (pa_cons (pv 2) (pa_cons (pe_glob rfl T.NOUGHT (v := .ref cN) rfl) pa_nil))) (pa_cons (pv 3) pa_nil))) (pg_sub (pv 1) (pv 2) (st_dk hr.units)))))
      (pss_one (ps_ret (pe_comp rfl (Nc := ["outcome", "shares"]) (caps1 1 1 [(".0", .local), ("outcome", .local), ("NOUGHT", .globalImplicit), ("shares", .cell)] rfl rfl rfl (by decide +kernel) (by decide +kernel) rfl (by decide +kernel) rfl rfl rfl rfl) (pi_list (pe_call G_in_order (hr.mono (by decide)) rfl A_in_order.m A_in_order.F.kp A_in_order.b .nil pass0 (pa_cons (pe_callTy (call_listD rfl) (by rfl) T.list_ Boot.«list» (pa_cons (pv 1) pa_nil)) pa_nil))) (fun _ _ _ _ => (pg_name (i := 0) (show List.Nodup (["outcome", "shares"] : List Str) by decide +kernel) rfl (Or.inl rfl))) (fun _ _ _ _ => by exact (pts_one (pt_cmpR (op_neDK (K := K) rfl hr.units) (pe_ix (ix_dkK (K := K) (w := w) rfl rfl hr.units) (pv 1) (pv 0) (fun _ _ => rfl)) (pe_glob rfl T.NOUGHT (v := .ref cN) rfl) (nomark _)))) (fun _ _ _ _ => by exact (pe_tup (pa_cons (pv 0) (pa_cons (pe_ix (ix_dkK (K := K) (w := w) rfl rfl hr.units) (pv 1) (pv 0) (fun _ _ => rfl)) pa_nil))))))))), ?_⟩
    have hlen := hd.length
    rw [List.length_map] at hlen
    intro p hp
    refine ⟨_, rfl, a, rfl, ⟨_, (Same.upd hp).seq hl⟩, for_list (K := K) (a := a) (xs := ws) (fun i σ H' => Same H H' ∧ ∃ kvs o2 o3, σ = [some (.ref a), some (.ref p), o2, o3] ∧ DkM K w H' p kvs ∧ (∀ x, x ∈ kvs.map (·.1) ↔ x ∈ (rows.take i).map (·.1)) ∧ ∀ x ∈ kvs, DatAt K H' x.2.2 (frD (low (wOf (rows.take i) x.1) S)))
      ⟨.upd hp, [], none, none, rfl, ⟨upd_same, (fun _ h => nomatch h), (fun _ h => nomatch h), .nil⟩, fun x => by simp, fun _ h => nomatch h⟩ (fun i σ H' _ z => z.1.seq hl) ?_ ?_⟩
    · rintro i x σ H' hx ⟨S1, kvs, o2, o3, rfl, M, mem, dat⟩
      obtain ⟨d, ed, hxd⟩ := (hd.same S1).get' hx
      obtain ⟨r, er, rfl⟩ := map_get ed
      obtain ⟨q, va, vb, rfl, h1, h2, h3⟩ := DatAt.pr (p := (r.1, frD (low r.2 S))) hxd
      have rm := List.mem_of_getElem? er
      have sub : kvs.length ≤ 1000 := by
        have := nd_le M.nd fun y hy => by
          obtain ⟨r', hr', e'⟩ := List.mem_map.mp ((mem y).mp hy)
          rw [← e']
          exact hc r' (List.mem_of_mem_take hr')
        rw [List.length_map] at this
        omega
      have hr2 := sc.nn r rm
      have nnT : ∀ r ∈ rows.take i, 0 ≤ r.2 := fun r hr => sc.nn r (List.mem_of_mem_take hr)
      have b0 := wOf_bd (rows := rows.take i) r.1 nnT
      have b1 := sumW_take sc.nn i
      have b2 := sumW_mem sc.nn r rm
      have t := sc.top
      have m1 := low_sm b0.1 (Int.le_trans b0.2 (Int.le_trans b1.2 t)) sc.pos sc.big
      have m2 := low_sm hr2 (Int.le_trans b2 t) sc.pos sc.big
      refine ⟨q, _, rfl, h1, rfl, _, _, rfl, _, _, rfl, rfl, ?_⟩
      refine ⟨_, rfl, ⟨p, kvs, rfl, M⟩, _, rfl, p, kvs, _, _, r.1, rfl, rfl, M, h2, oc r rm, fun j e ej ek => ?_, fun no => ?_⟩
      · have hu : DatAt K H' e.2.2 (frD (low (wOf (rows.take i) r.1) S)) := ek ▸ dat e (List.mem_of_getElem? ej)
        generalize e.2.2 = u at hu
        obtain ⟨ru, rfl, su⟩ := hu.fr
        obtain ⟨rs, rfl, ss⟩ := DatAt.fr (p := low r.2 S) h3
        refine ⟨_, rfl, ru, rs, _, _, _, _, rfl, su, ss, (low_Low sc.pos).pos, (low_Low sc.pos).pos, m1.1, m1.2, m2.1, m2.2, fun r1 H2 S2 hr1 => ?_⟩
        rw [plus_low sc.pos] at hr1
        have M2 := M.same S2
        refine ⟨_, rfl, _, rfl, p, kvs, r.1, rfl, M2, sub, h2.same S2, oc r rm, ?_⟩
        refine ⟨fun b o e => ?_, _, _, _, rfl, M2.put (h2.same S2) (oc r rm), fun y => ?_, fun x hx => ?_⟩
        · rw [upd_ne (ne_of_none e hp)]
          exact S2 _ _ (S1 _ _ e)
        · rw [putD_keys, take_snoc' er, List.map_append, List.mem_append]
          split
          · rename_i hh
            have hm := (mem r.1).mp (hasD_iff.mp hh)
            rw [mem y]
            exact ⟨.inl, fun z => z.elim (fun z => z) fun z => (List.mem_singleton.mp z) ▸ hm⟩
          · rw [List.mem_append, mem y]
            rfl
        · refine DatAt.updX (show H2 p = some (.ext _) from M2.at_) ?_
          rw [take_snoc' er, wOf_snoc]
          rcases putD_val hx with ⟨hx1, hx2⟩ | ⟨hx1, hx2⟩
          · rw [if_neg (fun z => hx2 ((Dt.beq_iff _ _).mp z).symm), Int.add_zero]
            exact (dat x hx1).same S2
          · rw [hx1, hx2, if_pos (Dt.beq_self _)]
            exact datAt_fr (SqT.of hr1)
      · have hu : DatAt K H' (.ref cN) (frD (low (wOf (rows.take i) r.1) S)) := by
          rw [wOf_none fun z => no ((mem _).mpr z), low_zero sc.pos]
          exact datAt_fr (T.nought H')
        generalize (V.ref cN) = u at hu
        obtain ⟨ru, rfl, su⟩ := hu.fr
        obtain ⟨rs, rfl, ss⟩ := DatAt.fr (p := low r.2 S) h3
        refine ⟨_, rfl, ru, rs, _, _, _, _, rfl, su, ss, (low_Low sc.pos).pos, (low_Low sc.pos).pos, m1.1, m1.2, m2.1, m2.2, fun r1 H2 S2 hr1 => ?_⟩
        rw [plus_low sc.pos] at hr1
        have M2 := M.same S2
        refine ⟨_, rfl, _, rfl, p, kvs, r.1, rfl, M2, sub, h2.same S2, oc r rm, ?_⟩
        refine ⟨fun b o e => ?_, _, _, _, rfl, M2.put (h2.same S2) (oc r rm), fun y => ?_, fun x hx => ?_⟩
        · rw [upd_ne (ne_of_none e hp)]
          exact S2 _ _ (S1 _ _ e)
        · rw [putD_keys, take_snoc' er, List.map_append, List.mem_append]
          split
          · rename_i hh
            have hm := (mem r.1).mp (hasD_iff.mp hh)
            rw [mem y]
            exact ⟨.inl, fun z => z.elim (fun z => z) fun z => (List.mem_singleton.mp z) ▸ hm⟩
          · rw [List.mem_append, mem y]
            rfl
        · refine DatAt.updX (show H2 p = some (.ext _) from M2.at_) ?_
          rw [take_snoc' er, wOf_snoc]
          rcases putD_val hx with ⟨hx1, hx2⟩ | ⟨hx1, hx2⟩
          · rw [if_neg (fun z => hx2 ((Dt.beq_iff _ _).mp z).symm), Int.add_zero]
            exact (dat x hx1).same S2
          · rw [hx1, hx2, if_pos (Dt.beq_self _)]
            exact datAt_fr (SqT.of hr1)
    · rintro σ H1 ⟨S1, kvs, o2, o3, rfl, M, mem, dat⟩
      rw [List.take_of_length_le (by omega)] at mem dat
      have memc : ∀ y ∈ kvs.map (·.1), y ∈ cov := fun y hy => by
        obtain ⟨r', hr', e'⟩ := List.mem_map.mp ((mem y).mp hy)
        rw [← e']
        exact hc r' hr'
      have sub : kvs.length < 64 := by
        have := nd_le M.nd memc
        rw [List.length_map] at this
        omega
      refine ⟨_, rfl, p, kvs, rfl, M, by omega, fun D1 hD1 => ?_⟩
      have T1 := Same.upd (o := .lst (kvs.map (·.2.1))) hD1
      have e1 : (upd H1 D1 (.lst (kvs.map (·.2.1)))) D1 = some (.lst (kvs.map (·.2.1))) := upd_same
      generalize upd H1 D1 (.lst (kvs.map (·.2.1))) = H2 at T1 e1
      have M2 := M.same T1
      refine ⟨D1, _, kvs.map (·.1), cov, rfl, SqL.of e1, dk_dats M2.dat, fun d hd => ?_, by rw [List.length_map]; omega, memc, cl, fun es srt memE D2 H3 S3 hD2 ls2 => ?_⟩
      · obtain ⟨x, hx, rfl⟩ := List.mem_map.mp hd
        exact M.oc x hx
      have M3 := M2.same S3
      have dat3 : ∀ x ∈ kvs, DatAt K H3 x.2.2 (frD (low (wOf rows x.1) S)) := fun x hx => (dat x hx).same (T1.trans S3)
      obtain ⟨w2, e2, d2⟩ := ls2
      have l2 := d2.length
      have lE : es.length ≤ cov.length := nd_le (srt.imp fun {x y} h z => by rw [z, Dt.lt_self] at h; cases h) fun x hx => memc x ((memE x).mp hx)
      have ocE : ∀ d ∈ es, Oc d := fun d hd => by
        obtain ⟨x, hx, rfl⟩ := List.mem_map.mp ((memE d).mp hd)
        exact M.oc x hx
      refine ⟨D2, rfl, ⟨_, SqL.of e2⟩, fun D hD => ?_⟩
      refine comp_list (K := K) (a := D2) (D := D) (xs := w2) (fun i σ ys H' => (∃ o1, σ = [o1, some (.ref p)]) ∧ Same H3 H' ∧ H' D = some (.lst ys) ∧ DatsAt K H' ys ((gath S rows (es.take i)).map (parD S)))
        ⟨⟨none, rfl⟩, .upd hD, upd_same, .nil⟩ ?_ ?_ ?_
      · rintro i σ ys H' hi ⟨_, S4, eD, hy⟩
        have e3 := hy.length
        unfold gath at e3
        rw [List.length_map, List.length_map] at e3
        have e4 := List.length_filter_le (fun o => !decide (wOf rows o = 0)) (es.take i)
        rw [List.length_take] at e4
        exact ⟨SqL.of (S4 _ _ e2), eD, Nat.lt_of_le_of_lt (show ys.length ≤ 1000 by omega) (by decide)⟩
      · rintro i x σ ys H' hx ⟨⟨o1, rfl⟩, S4, eD, hy⟩ N hN
        obtain ⟨d, ed, hxd⟩ := (d2.same S4).get' hx
        have dm := List.mem_of_getElem? ed
        obtain ⟨kv, hkv, ekv⟩ := List.mem_map.mp ((memE d).mp dm)
        obtain ⟨j, hj⟩ := List.getElem?_of_mem hkv
        have M4 := M3.same S4
        have hval : DatAt K H' kv.2.2 (frD (low (wOf rows d) S)) := by
          rw [← ekv]
          exact (dat3 kv hkv).same S4
        refine ⟨_, rfl, _, rfl, p, kvs, d, j, kv, rfl, M4, hxd, ocE d dm, hj, ekv, ?_⟩
        refine ⟨_, _, hval, datAt_fr (p := (0, 1)) (T.nought H'), Nat.le_trans (hgt_frD _) (by decide), _, rfl, iteBB (fun hc2 => ?_) (fun hc2 => ?_)⟩
        · have nz : wOf rows d ≠ 0 := fun z => by
            rw [z, low_zero sc.pos, Dt.beq_self] at hc2
            cases hc2
          refine ⟨_, rfl, _, rfl, _, rfl, p, kvs, d, j, kv, rfl, M4, hxd, ocE d dm, hj, ekv, two_le, fun t ht => ?_⟩
          have S5 : Same H' (upd H' t (.tup [x, kv.2.2])) := .upd ht
          have e5 := S5 _ _ eD
          refine ⟨e5, hN _ _ _ ?_⟩
          obtain ⟨w1, w2', w3⟩ := snoc_ok (v := .ref t) (d := parD S (d, wOf rows d)) hD (S4.trans S5) e5 (hy.same S5) (datAt_pr (p := (d, frD (low (wOf rows d) S))) (SqT.of upd_same) (hxd.same S5) (hval.same S5))
          refine ⟨⟨_, rfl⟩, w1, w2', ?_⟩
          unfold gath
          rw [take_snoc' ed, List.filter_append, List.map_append, List.map_append]
          have ef : [d].filter (fun o => !decide (wOf rows o = 0)) = [d] := by simp [List.filter, nz]
          rw [ef]
          exact w3
        · have nz : wOf rows d = 0 := by
            have : Dt.beq (frD (low (wOf rows d) S)) (frD (0, 1)) = true := by simpa using hc2
            exact low_is_zero sc.pos (frD_inj ((Dt.beq_iff _ _).mp this))
          refine hN _ _ _ ⟨⟨_, rfl⟩, S4, eD, ?_⟩
          unfold gath
          rw [take_snoc' ed, List.filter_append]
          have ef : [d].filter (fun o => !decide (wOf rows o = 0)) = [] := by simp [List.filter, nz]
          rw [ef, List.append_nil]
          exact hy
      · rintro σ ys H' ⟨_, S4, eD, hy⟩
        rw [List.take_of_length_le (by omega)] at hy
        have ST := ((S1.trans T1).trans S3)
        exact k es srt (fun x => (memE x).trans (mem x)) D H' (ST.trans S4) (ST.free hD) ⟨ys, eD, hy⟩
theorem nought_mk {K : PySem.W.Frag} {a : Addr} {o : Obj} (hk : K.lookup a = some o) (h : o.cls = .type "tuple" ∧ ∃ n t0 t1, o.data = .seq #[.int 0 t0, .int 1 t1] n) : ∀ H, SqT K H a [.int 0, .int 1] := by
  intro H
  obtain ⟨h1, n, t0, t1, h2⟩ := h
  exact .inr ⟨o, _, n, hk, h1, h2, (by show 2 ≤ sizeLine; decide), .cons ⟨t0, rfl⟩ (.cons ⟨t1, rfl⟩ .nil)⟩
abbrev Pa := Int × Addr × List (Dt × Int)
def allR (ps : List Pa) : List (Dt × Int) := ps.flatMap fun p => p.2.2.map fun r => (r.1, p.1 * r.2)
theorem allR_app (a b : List Pa) : allR (a ++ b) = allR a ++ allR b := by
  unfold allR
  rw [List.flatMap_append]
theorem allR_one (p : Pa) : allR [p] = p.2.2.map fun r => (r.1, p.1 * r.2) := by
  unfold allR
  simp
theorem allR_mem {ps : List Pa} {q : Dt × Int} (h : q ∈ allR ps) : ∃ p ∈ ps, ∃ r ∈ p.2.2, q = (r.1, p.1 * r.2) := by
  unfold allR at h
  obtain ⟨p, hp, hq⟩ := List.mem_flatMap.mp h
  obtain ⟨r, hr, e⟩ := List.mem_map.mp hq
  exact ⟨p, hp, r, hr, e.symm⟩
def PM (K : PySem.W.Frag) (H : Hp) (a : Addr) (Sa Sb : Int) (ps : List Pa) : Prop :=
  ∃ vs, H a = some (.lst vs) ∧ vs.length = ps.length ∧ ∀ (i : Nat) (v : V) (p : Pa), vs[i]? = some v → ps[i]? = some p → PrL K H v (frD (low p.1 Sa)) p.2.1 (p.2.2.map (parD Sb))
structure PBd (Sa Sb : Int) (ps : List Pa) (cov : List Dt) : Prop where
  sa : 0 < Sa ∧ Sa ≤ 10 ^ 160
  sb : 0 < Sb ∧ Sb ≤ 10 ^ 160
  wt : ∀ p ∈ ps, 0 ≤ p.1 ∧ p.1 ≤ 10 ^ 160
  rw_ : ∀ p ∈ ps, ∀ r ∈ p.2.2, Oc r.1 ∧ 0 ≤ r.2 ∧ r.2 ≤ 10 ^ 160
  sc : Sc (Sa * Sb) (allR ps)
  few : (allR ps).length ≤ 1000
  cv : ∀ r ∈ allR ps, r.1 ∈ cov
  cl : cov.length < 64
def sp_mixed (K : PySem.W.Frag) : Sp := fun vs H Q _ => ∃ a Sa Sb ps cov, vs = [.ref a] ∧ PM K H a Sa Sb ps ∧ PBd Sa Sb ps cov ∧
  ∀ es, Srt es → (∀ x, x ∈ es ↔ x ∈ (allR ps).map (·.1)) → lstQ K H Q ((gath (Sa * Sb) (allR ps) es).map (parD (Sa * Sb)))
theorem allR_take {ps : List Pa} {i : Nat} {p : Pa} (h : ps[i]? = some p) : allR (ps.take (i + 1)) = allR (ps.take i) ++ p.2.2.map fun r => (r.1, p.1 * r.2) := by
  rw [take_snoc' h, allR_app, allR_one]
theorem allR_pre (ps : List Pa) (i : Nat) : (allR (ps.take i)).length ≤ (allR ps).length := by
  have e : allR ps = allR (ps.take i) ++ allR (ps.drop i) := by rw [← allR_app, List.take_append_drop]
  rw [e, List.length_append]
  omega
theorem low_times {W V S T : Int} (hS : 0 < S) (hT : 0 < T) : timesM (low W S).1 (low W S).2 (low V T).1 (low V T).2 = low (W * V) (S * T) := ((isQ_low (W := W) hS).times (isQ_low (W := V) hT) hS hT).low (Int.mul_pos hS hT)
set_option maxHeartbeats 4000000 in
theorem ok_mixed {f f1 f2 f3 f4 f5 f6 : Addr} {fd d1 d2 d3 d4 d5 d6 : FuncData} (A : FnAt K mg "mixed" s_mixed ["parts"] f fd) (A_times : FnAt K mg "times" s_times ["one", "other"] f1 d1) (A_gathered : FnAt K mg "gathered" s_gathered ["pairs"] f2 d2) (A_plus : FnAt K mg "plus" s_plus ["one", "other"] f3 d3) (A_greatest_divisor : FnAt K mg "greatest_divisor" s_greatest_divisor ["one", "other"] f4 d4)
    (A_in_order : FnAt K mg "in_order" s_in_order ["outcomes"] f5 d5) (A_rank : FnAt K mg "rank" s_rank ["outcome"] f6 d6) (T : Txt K mg cN) : FnOk P w K mg base CX0 6 f fd ["parts"] (sp_mixed K) := by
  have G_times : FnOk P w K mg base CX0 2 f1 d1 _ (sp_times K) := ok_times A_times A_greatest_divisor T
  have G_gathered : FnOk P w K mg base CX0 5 f2 d2 _ (sp_gathered K) := ok_gathered A_gathered A_plus A_greatest_divisor A_in_order A_rank T
  refine A.F.ok sc_mixed (fun vs H Q E h => ?_) (fun cdv Ar outer s H vs Q E hr h => ?_)
  · obtain ⟨a, Sa, Sb, ps, cov, rfl, _⟩ := h
    rfl
  · obtain ⟨a, Sa, Sb, ps, cov, rfl, pm, B, k⟩ := h
    refine ⟨_, (pss_cons (ps_set (i := 1) sc_mixed.nd rfl (Or.inl rfl) (pe_lst pa_nil))
      (pss_cons (ps_for PassesOwn.never rfl (pi_list (pv 0)) (pg_tup rfl (pgs_cons (pg_name (i := 2) sc_mixed.nd rfl (Or.inl rfl)) (pgs_cons (pg_name (i := 3) sc_mixed.nd rfl (Or.inl rfl)) pgs_nil))) (pss_one (ps_for PassesOwn.never rfl (pi_list (pv 3)) (pg_tup rfl (pgs_cons (pg_name (i := 4) sc_mixed.nd rfl (Or.inl rfl)) (pgs_cons (pg_name (i := 5) sc_mixed.nd rfl (Or.inl rfl)) pgs_nil))) (pss_one (ps_expr (pe_bm PySem.F.plainAttrs_list PySem.F.slot_list_append PySem.F.type_list_append mt_append (pv 1) (pa_cons (pe_tup (pa_cons (pv 4) (pa_cons (pe_call G_times (hr.mono (by decide)) rfl A_times.m A_times.F.kp A_times.b .nil pass0 (pa_cons (pv 2) (pa_cons (pv 5) pa_nil))) pa_nil))) pa_nil)))))))
      (pss_one (ps_ret (pe_call G_gathered (hr.mono (by decide)) rfl A_gathered.m A_gathered.F.kp A_gathered.b .nil pass0 (pa_cons (pv 1) pa_nil)))))), ?_⟩
    obtain ⟨vs, ea, lv, itm⟩ := pm
    refine ⟨Nat.zero_le _, fun D hD => ?_⟩
    refine ⟨_, rfl, a, rfl, ⟨_, SqL.of (Same.upd hD _ _ ea)⟩, for_list (K := K) (a := a) (xs := vs) (fun i σ H' => Same H H' ∧ ∃ ys o2 o3 o4 o5, σ = [some (.ref a), some (.ref D), o2, o3, o4, o5] ∧ H' D = some (.lst ys) ∧ DatsAt K H' ys ((allR (ps.take i)).map (parD (Sa * Sb))))
      ⟨.upd hD, [], none, none, none, none, rfl, upd_same, .nil⟩ (fun i σ H' _ z => SqL.of (z.1 _ _ ea)) ?_ ?_⟩
    · rintro i x σ H1 hx ⟨S1, ys, o2, o3, o4, o5, rfl, eD, hy⟩
      have hi : i < ps.length := by
        have := (List.getElem?_eq_some_iff.mp hx).1
        omega
      have ep : ps[i]? = some ps[i] := List.getElem?_eq_getElem hi
      generalize ps[i] = p at ep
      have pmem := List.mem_of_getElem? ep
      obtain ⟨r, u, rfl, sr, hu, ⟨us, eu, du⟩⟩ := itm i x p hx ep
      have lu := du.length
      rw [List.length_map] at lu
      refine ⟨r, _, rfl, S1.tup sr, rfl, _, _, rfl, _, _, rfl, rfl, ?_⟩
      refine ⟨_, rfl, p.2.1, rfl, ⟨_, SqL.of (S1 _ _ eu)⟩, for_list (K := K) (a := p.2.1) (xs := us) (fun j σ H' => Same H H' ∧ ∃ ys o4 o5, σ = [some (.ref a), some (.ref D), some u, some (.ref p.2.1), o4, o5] ∧ H' D = some (.lst ys) ∧ DatsAt K H' ys ((allR (ps.take i) ++ (p.2.2.take j).map fun r => (r.1, p.1 * r.2)).map (parD (Sa * Sb))))
        ⟨S1, ys, _, _, rfl, eD, by rw [List.take_zero, List.map_nil, List.append_nil]; exact hy⟩ (fun j σ H' _ z => SqL.of (z.1 _ _ eu)) ?_ ?_⟩
      · rintro j y σ H2 hy2 ⟨S2, zs, o4, o5, rfl, eD2, hz⟩
        obtain ⟨d, ed, hyd⟩ := (du.same S2).get' hy2
        obtain ⟨q, eq, rfl⟩ := map_get ed
        have qmem := List.mem_of_getElem? eq
        obtain ⟨t, va, vb, rfl, g1, g2, g3⟩ := DatAt.pr (p := (q.1, frD (low q.2 Sb))) hyd
        obtain ⟨ru, rfl, su⟩ := (hu.same S2).fr
        obtain ⟨rs, rfl, ss⟩ := DatAt.fr (p := low q.2 Sb) g3
        have bw := B.wt p pmem
        have br := B.rw_ p pmem q qmem
        have m1 := low_sm bw.1 bw.2 B.sa.1 B.sa.2
        have m2 := low_sm br.2.1 br.2.2 B.sb.1 B.sb.2
        have lz := hz.length
        have hj : j < p.2.2.length := (List.getElem?_eq_some_iff.mp eq).1
        have fz : zs.length ≤ 1000 := by
          have h1 := allR_pre ps (i + 1)
          have h2 := B.few
          rw [allR_take ep, List.length_append, List.length_map] at h1
          rw [List.length_map, List.length_append, List.length_map, List.length_take] at lz
          omega
        refine ⟨t, _, rfl, g1, rfl, _, _, rfl, _, _, rfl, rfl, ?_⟩
        refine ⟨_, rfl, .inl ⟨rfl, _, SqL.of eD2⟩, _, rfl, _, rfl, _, rfl, ru, rs, _, _, _, _, rfl, su, ss, (low_Low B.sa.1).pos, (low_Low B.sb.1).pos, m1.1, m1.2, m2.1, m2.2, fun r1 H3 S3 hr1 => ⟨two_le, fun t2 ht2 => ?_⟩⟩
        rw [low_times B.sa.1 B.sb.1] at hr1
        have S4 : Same H2 (upd H3 t2 (.tup [va, .ref r1])) := S3.updR ht2
        have et2 : (upd H3 t2 (.tup [va, .ref r1])) t2 = some (.tup [va, .ref r1]) := upd_same
        have hr2 := (Same.upd (o := .tup [va, .ref r1]) ht2) _ _ hr1
        generalize upd H3 t2 (.tup [va, .ref r1]) = H4 at S4 et2 hr2
        refine ⟨D, zs, _, rfl, rfl, S4 _ _ eD2, Nat.lt_of_le_of_lt fz (by decide), ?_⟩
        obtain ⟨w1, w2, w3⟩ := snoc_ok (v := .ref t2) (d := parD (Sa * Sb) (q.1, p.1 * q.2)) hD (S2.trans S4) (S4 _ _ eD2) (hz.same S4) (datAt_pr (p := (q.1, frD (low (p.1 * q.2) (Sa * Sb)))) (SqT.of et2) (g2.same S4) (datAt_fr (SqT.of hr2)))
        refine ⟨w1, _, _, _, rfl, w2, ?_⟩
        have e9 : allR (ps.take i) ++ (p.2.2.take (j + 1)).map (fun r => (r.1, p.1 * r.2)) = (allR (ps.take i) ++ (p.2.2.take j).map fun r => (r.1, p.1 * r.2)) ++ [(q.1, p.1 * q.2)] := by
          rw [take_snoc' eq, List.map_append, ← List.append_assoc]
          rfl
        rw [e9, List.map_append]
        exact w3
      · rintro σ H2 ⟨S2, zs, o4, o5, rfl, eD2, hz⟩
        refine ⟨S2, zs, _, _, _, _, rfl, eD2, ?_⟩
        have e9 : p.2.2.take us.length = p.2.2 := List.take_of_length_le (by omega)
        rw [e9] at hz
        rw [allR_take ep]
        exact hz
    · rintro σ H1 ⟨S1, ys, o2, o3, o4, o5, rfl, eD, hy⟩
      rw [List.take_of_length_le (by omega)] at hy
      refine ⟨_, rfl, D, ys, allR ps, Sa * Sb, cov, rfl, SqL.of eD, hy, B.sc, fun r hr => ?_, B.few, B.cv, B.cl, fun es srt mem D2 H2 S2 hD2 ls => k es srt mem D2 H2 (S1.trans S2) (S1.free hD2) ls⟩
      obtain ⟨p, hp, q, hq, e⟩ := allR_mem hr
      rw [e]
      exact (B.rw_ p hp q hq).1
abbrev pI (p : Int × Int) : Dt := .tup [.int p.1, .int p.2]
abbrev mI (d : List (Int × Int)) : List Dt := d.map pI
abbrev wts (d : List (Int × Int)) : List Int := d.map (·.2)
abbrev nI (c : Nat) : V := .int (c : Int)
structure Gd (d : List (Int × Int)) : Prop where
  l0 : 0 < d.length
  l1 : d.length ≤ 6
  w : ∀ a ∈ wts d, 0 < a ∧ a ≤ 1000000
theorem Gd.ne {d : List (Int × Int)} (h : Gd d) : wts d ≠ [] := fun z => by
  have l := congrArg List.length z
  rw [List.length_map] at l
  have h0 := h.l0
  rw [l] at h0
  exact absurd h0 (by decide)
theorem Gd.pos {d : List (Int × Int)} (h : Gd d) : ∀ a ∈ wts d, 0 < a := fun a ha => (h.w a ha).1
theorem sum_le {m : Int} : ∀ {ws : List Int}, (∀ a ∈ ws, a ≤ m) → ws.sum ≤ ws.length * m
  | [], _ => by simp
  | x :: r, h => by
    have h1 := h x (by simp)
    have h2 := sum_le (ws := r) fun a ha => h a (List.mem_cons_of_mem _ ha)
    rw [List.sum_cons, List.length_cons]
    have e : ((r.length + 1 : Nat) : Int) * m = r.length * m + m := by
      rw [Int.natCast_add, Int.add_mul]
      simp
    omega
theorem Gd.sm {d : List (Int × Int)} (h : Gd d) : 0 < (wts d).sum ∧ (wts d).sum ≤ 6000000 := by
  refine ⟨sum_pos h.pos h.ne, ?_⟩
  have := sum_le (m := 1000000) fun a ha => (h.w a ha).2
  rw [List.length_map] at this
  have := h.l1
  omega
def sp_frac : Sp := fun vs H Q _ => ∃ t b, vs = [.int t, .int b] ∧ 0 < b ∧ Sm b ∧ tupQ H Q (low t b).1 (low t b).2
def sp_ws (K : PySem.W.Frag) : Sp := fun vs H Q _ => ∃ a ds, vs = [.ref a] ∧ LsM K H a (mI ds) ∧ ds.length ≤ 6 ∧ ∀ D H', Same H H' → H D = none → H' D = some (.lst ((wts ds).map V.int)) → Q (.ref D) H'
theorem small_mul {x y : Int} (h : -(2 ^ 62) ≤ y ∧ y ≤ 2 ^ 62) : IntMulOk x y := .of_right (intBits_le_64 (by omega) (by omega))
theorem log_small {x : Int} (h : -(2 ^ 62) ≤ x ∧ x ≤ 2 ^ 62) : x.natAbs.log2 < 9000 := Sm.log (show x.natAbs < 2 ^ 2000 from Nat.lt_of_lt_of_le (show x.natAbs < 2 ^ 63 by omega) (Nat.pow_le_pow_right (by decide) (by decide)))
theorem iz_at {α β γ : Type} {f : α → β → γ} {a : List α} {b : List β} {i : Nat} {x : α} {y : β} (h1 : a[i]? = some x) (h2 : b[i]? = some y) : (List.zipWith f a b)[i]? = some (f x y) := by
  rw [List.getElem?_zipWith, h1, h2]
theorem ok_fraction {f fG : Addr} {fd fdG : FuncData} (A : FnAt K mg "fraction" s_fraction ["top", "bottom"] f fd) (A_greatest_divisor : FnAt K mg "greatest_divisor" s_greatest_divisor ["one", "other"] fG fdG) (T : Txt K mg cN) : FnOk P w K mg base CX0 2 f fd ["top", "bottom"] sp_frac := by
  have G_greatest_divisor : FnOk P w K mg base CX0 1 fG fdG _ sp_gcd := ok_greatest_divisor A_greatest_divisor T
  refine A.F.ok (k := 1) sc_fraction (fun vs H Q E h => ?_) (fun cdv Ar outer s H vs Q E hr h => ?_)
  · obtain ⟨t, b, rfl, _⟩ := h
    rfl
  · obtain ⟨t, b, rfl, hb, sb, k⟩ := h
    refine ⟨_, (pss_cons (ps_if (pt_cmpR op_eq (pv 1) pe_int (nomark _)) pss_no pss_nil)
      (pss_cons (ps_set (i := 2) sc_fraction.nd rfl (Or.inl rfl) (pe_call G_greatest_divisor (hr.mono (by decide)) rfl A_greatest_divisor.m A_greatest_divisor.F.kp A_greatest_divisor.b .nil pass0 (pa_cons (pv 0) (pa_cons (pv 1) pa_nil))))
      (pss_cons (ps_if (pt_cmpR op_lt (pv 1) pe_int (nomark _)) (pss_one (ps_set (i := 2) sc_fraction.nd rfl (Or.inl rfl) (pe_un un_neg (pv 2)))) pss_nil)
      (pss_one (ps_ret (pe_tup (pa_cons (pe_op op_fdivP (pv 0) (pv 2)) (pa_cons (pe_op op_fdivP (pv 1) (pv 2)) pa_nil)))))))), ?_⟩
    refine ⟨_, rfl, rfl, _, rfl, iteBB (fun hc => absurd (show b = 0 by simpa using hc) (by omega)) (fun _ => ?_)⟩
    refine ⟨_, rfl, _, rfl, t, b, rfl, ?_⟩
    have gp : 0 < g t b := g_pos (by omega)
    have cd : ∀ x, CDivP x (g t b) := fun x => ⟨gp, (sb.le (abs_g_le (by omega))).log⟩
    refine ⟨_, rfl, _, _, rfl, rfl, _, rfl, iteBB (fun hn => absurd (show b < 0 by simpa using hn) (by omega)) (fun _ => ?_)⟩
    refine ⟨_, rfl, _, rfl, _, _, rfl, rfl, cd _, _, rfl, _, rfl, _, _, rfl, rfl, cd _, two_le, fun r hr => ?_⟩
    refine k r _ (.upd hr) ?_
    rw [upd_same]
    rfl
theorem ok_weights_of {f : Addr} {fd : FuncData} (A : FnAt K mg "weights_of" s_weights_of ["draw"] f fd) : FnOk P w K mg base CX0 1 f fd ["draw"] (sp_ws K) := by
  refine A.F.ok sc_weights_of (fun vs H Q E h => ?_) (fun cdv Ar outer s H vs Q E hr h => ?_)
  · obtain ⟨a, ds, rfl, _⟩ := h
    rfl
  · obtain ⟨a, ds, rfl, la, hl, k⟩ := h
    refine ⟨_, (pss_one (ps_ret (pe_comp rfl (Nc := ["number", "weight"]) (caps0 rfl (by decide +kernel) (by decide +kernel) (by decide +kernel)) (pi_list (pv 0)) (fun _ _ _ _ => by exact (pg_tupK (K := K) (n := 2) rfl rfl (pgs_cons (pg_name (i := 0) (show List.Nodup (["number", "weight"] : List Str) by decide +kernel) rfl (Or.inl rfl)) (pgs_cons (pg_name (i := 1) (show List.Nodup (["number", "weight"] : List Str) by decide +kernel) rfl (Or.inl rfl)) pgs_nil)))) (fun _ _ _ _ => pts_nil) (fun _ _ _ _ => (pv 1))))), ?_⟩
    obtain ⟨us, eu, du⟩ := la
    have lu := du.length
    rw [List.length_map] at lu
    refine ⟨_, rfl, a, rfl, ⟨_, SqL.of eu⟩, fun D hD => ?_⟩
    refine comp_list (K := K) (a := a) (D := D) (xs := us) (fun i σ ys H' => (∃ o1 o2, σ = [o1, o2]) ∧ Same H H' ∧ H' D = some (.lst ys) ∧ ys = ((wts ds).take i).map V.int)
      ⟨⟨none, none, rfl⟩, .upd hD, upd_same, rfl⟩ ?_ ?_ ?_
    · rintro i σ ys H' hi ⟨_, S, eD, rfl⟩
      exact ⟨SqL.of (S _ _ eu), eD, Nat.lt_of_le_of_lt (show (((wts ds).take i).map V.int).length ≤ 100 by rw [List.length_map, List.length_take, List.length_map]; omega) (by decide)⟩
    · rintro i x σ ys H' hx ⟨⟨o1, o2, rfl⟩, S, eD, rfl⟩ N hN
      obtain ⟨d, ed, hxd⟩ := (du.same S).get' hx
      obtain ⟨p, ep, rfl⟩ := map_get ed
      obtain ⟨q, va, vb, rfl, g1, g2, g3⟩ := DatAt.pr (p := (.int p.1, .int p.2)) hxd
      rw [g3.int_eq] at g1
      refine ⟨q, _, rfl, g1, rfl, _, _, rfl, _, _, rfl, rfl, ?_⟩
      refine iteT (B := True) ?_
      refine ⟨_, rfl, eD, hN _ _ _ ⟨⟨_, _, rfl⟩, fun b o eb => ?_, upd_same, ?_⟩⟩
      · rw [upd_ne (ne_of_none eb hD)]
        exact S _ _ eb
      · rw [take_snoc' (show (wts ds)[i]? = some p.2 by rw [List.getElem?_map, ep]; rfl), List.map_append]
        rfl
    · rintro σ ys H' ⟨_, S, eD, rfl⟩
      rw [List.take_of_length_le (by rw [List.length_map]; omega)] at eD
      exact k D H' S hD eD
end
end K40
namespace L2
open PySem PySem.Spec PyProof.Rows
section
variable {X : Cx} {K : PySem.W.Frag}
theorem call_sumK (hK : X.K = K) (hc : X.calm = true) : CallR X (.builtin "sum") (fun xs H Q => ∃ (p : Addr) (ns : List Int), xs = [.ref p] ∧ SqL K H p (ns.map V.int) ∧ Q (.int ns.sum) H) := by
  subst hK
  exact call_sum hc
end
end L2
namespace K40
open PySem L2 FW PyProof.Rows
open M44 hiding Prt site Gv Gs hvs way
inductive Prt
  | lf (o : Dt)
  | ask (k : Nat) (ch : List Nat)
def site (L : Nat) : Prt → Nat
  | .lf _ => L
  | .ask k _ => k
inductive PrtAt (K : PySem.W.Frag) (Z : Addr) (H : Hp) : V → Prt → Prop
  | lf (r : Addr) (u : V) (o : Dt) (s : SqT K H r [.str "leaf", u]) (hu : DatAt K H u o) : PrtAt K Z H (.ref r) (.lf o)
  | ask (r l : Addr) (k : Nat) (ch : List Nat) (s : SqT K H r [.str "ask", nI k, .ref l]) (hl : H l = some (.lst (ch.map nI))) (ne : l ≠ Z) : PrtAt K Z H (.ref r) (.ask k ch)
theorem PrtAt.same {K : PySem.W.Frag} {Z : Addr} {H H' : Hp} {v : V} {p : Prt} (h : PrtAt K Z H v p) (e : Same H H') : PrtAt K Z H' v p := by
  cases h with
  | lf r u o s hu => exact .lf r u o (e.tup s) (hu.same e)
  | ask r l k ch s hl ne => exact .ask r l k ch (e.tup s) (e _ _ hl) ne
theorem PrtAt.push {K : PySem.W.Frag} {Z : Addr} {H : Hp} {v : V} {p : Prt} {xs ys : List V} (h : PrtAt K Z H v p) (e : H Z = some (.lst xs)) : PrtAt K Z (upd H Z (.lst ys)) v p := by
  cases h with
  | lf r u o s hu => exact .lf r u o (sqT_upd e s) (hu.but (.lst e) .upd)
  | ask r l k ch s hl ne => exact .ask r l k ch (sqT_upd e s) (by rw [upd_ne ne]; exact hl) ne
theorem PrtAt.look {K : PySem.W.Frag} {Z : Addr} {H : Hp} {v : V} {p : Prt} (h : PrtAt K Z H v p) (L : Nat) : ∃ r, v = .ref r ∧ ((∃ u, SqT K H r [.str "leaf", u] ∧ site L p = L) ∨ ∃ l, SqT K H r [.str "ask", nI (site L p), .ref l]) := by
  cases h with
  | lf r u o s hu => exact ⟨r, rfl, .inl ⟨u, s, rfl⟩⟩
  | ask r l k ch s hl ne => exact ⟨r, rfl, .inr ⟨l, s⟩⟩
structure PrsAt (K : PySem.W.Frag) (H : Hp) (A : Addr) (vs : List V) (ps : List Prt) : Prop where
  a : H A = some (.lst vs)
  l : vs.length = ps.length
  p : ∀ (i : Nat) (v : V) (p : Prt), vs[i]? = some v → ps[i]? = some p → PrtAt K A H v p
theorem PrsAt.same {K : PySem.W.Frag} {H H' : Hp} {A : Addr} {vs : List V} {ps : List Prt} (h : PrsAt K H A vs ps) (e : Same H H') : PrsAt K H' A vs ps := ⟨e _ _ h.a, h.l, fun i v p e1 e2 => (h.p i v p e1 e2).same e⟩
theorem PrsAt.at {K : PySem.W.Frag} {H : Hp} {A : Addr} {vs : List V} {ps : List Prt} {i : Nat} {v : V} (h : PrsAt K H A vs ps) (e : vs[i]? = some v) : ∃ p, ps[i]? = some p ∧ PrtAt K A H v p := by
  have hi := (List.getElem?_eq_some_iff.mp e).1
  rw [h.l] at hi
  exact ⟨ps[i], List.getElem?_eq_getElem hi, h.p i v _ e (List.getElem?_eq_getElem hi)⟩
abbrev Dw (P : List (List (Int × Int))) : List (List Int) := P.map fun d => wts d
structure DrsAt (K : PySem.W.Frag) (H : Hp) (DA : Addr) (ps : List (Addr × List Dt)) (P : List (List (Int × Int))) : Prop where
  ll : LLM K H DA ps
  e : ps.map (·.2) = P.map mI
  g : ∀ d ∈ P, Gd d
  l : P.length ≤ 4
theorem DrsAt.same {K : PySem.W.Frag} {H H' : Hp} {DA : Addr} {ps : List (Addr × List Dt)} {P : List (List (Int × Int))} (h : DrsAt K H DA ps P) (e : Same H H') : DrsAt K H' DA ps P := ⟨h.ll.same e, h.e, h.g, h.l⟩
theorem DrsAt.len {K : PySem.W.Frag} {H : Hp} {DA : Addr} {ps : List (Addr × List Dt)} {P : List (List (Int × Int))} (h : DrsAt K H DA ps P) : (ps.map fun p => V.ref p.1).length = P.length := by
  have := congrArg List.length h.e
  rw [List.length_map, List.length_map] at this
  rw [List.length_map, this]
theorem DrsAt.at {K : PySem.W.Frag} {H : Hp} {DA : Addr} {ps : List (Addr × List Dt)} {P : List (List (Int × Int))} {k : Nat} {d : List (Int × Int)} (h : DrsAt K H DA ps P) (hd : P[k]? = some d) : ∃ q, ps[k]? = some q ∧ LsM K H q.1 (mI d) ∧ Gd d ∧ (Dw P)[k]? = some (wts d) := by
  have h1 : (ps.map (·.2))[k]? = some (mI d) := by rw [h.e, List.getElem?_map, hd]; rfl
  obtain ⟨q, h2, h3⟩ := map_get h1
  have lq := h.ll.it q (List.mem_of_getElem? h2)
  rw [h3] at lq
  exact ⟨q, h2, lq, h.g d (List.mem_of_getElem? hd), by rw [List.getElem?_map, hd]; rfl⟩
theorem DrsAt.of {K : PySem.W.Frag} {H : Hp} {DA : Addr} {ps : List (Addr × List Dt)} {P : List (List (Int × Int))} {i : Nat} {x : V} (h : DrsAt K H DA ps P) (hx : (ps.map fun p => V.ref p.1)[i]? = some x) : ∃ q d, x = .ref q ∧ P[i]? = some d ∧ LsM K H q (mI d) ∧ Gd d ∧ (Dw P)[i]? = some (wts d) := by
  have hi := (List.getElem?_eq_some_iff.mp hx).1
  rw [h.len] at hi
  obtain ⟨q, h1, h2, h3, h4⟩ := h.at (List.getElem?_eq_getElem hi)
  obtain ⟨q', h5, h6⟩ := map_get hx
  rw [h1] at h5
  cases h5
  exact ⟨q.1, _, h6.symm, List.getElem?_eq_getElem hi, h2, h3, h4⟩
theorem DrsAt.good {K : PySem.W.Frag} {H : Hp} {DA : Addr} {ps : List (Addr × List Dt)} {P : List (List (Int × Int))} (h : DrsAt K H DA ps P) : M44.Good (Dw P) := fun d hd => by
  obtain ⟨p, hp, rfl⟩ := List.mem_map.mp hd
  exact ⟨(h.g p hp).ne, (h.g p hp).pos⟩
theorem DrsAt.sums {K : PySem.W.Frag} {H : Hp} {DA : Addr} {ps : List (Addr × List Dt)} {P : List (List (Int × Int))} (h : DrsAt K H DA ps P) : ∀ d ∈ Dw P, d.sum ≤ 6000000 := fun d hd => by
  obtain ⟨p, hp, rfl⟩ := List.mem_map.mp hd
  exact (h.g p hp).sm.2
theorem dw_len (P : List (List (Int × Int))) : (Dw P).length = P.length := List.length_map ..
def Gp (P : List (List (Int × Int))) (ps : List Prt) : Prop := ∀ (i k : Nat) (ch : List Nat), ps[i]? = some (.ask k ch) → ∃ d, P[k]? = some d ∧ ch.length = d.length ∧ ∀ c ∈ ch, c < i ∧ ∃ p', ps[c]? = some p' ∧ k < site P.length p'
def Lv (cov : List Dt) (ps : List Prt) : Prop := ∀ (i : Nat) (o : Dt), ps[i]? = some (.lf o) → o ∈ cov ∧ Oc o
def sp_ds (K : PySem.W.Frag) : Sp := fun vs H Q _ => ∃ (a : Addr) (d : List (Int × Int)), vs = [.ref a] ∧ LsM K H a (mI d) ∧ Gd d ∧ ∀ D H', Same H H' → H D = none → LsM K H' D ((wts d).map fun w => frD (low w (wts d).sum)) → Q (.ref D) H'
section
variable {P : Program} {w : World} {K : PySem.W.Frag} {mg : Str → Option Value} {base : Heap} {cN : Addr}
theorem sm3 {x : Int} (h0 : 0 ≤ x) (h : x ≤ 6000000) : Sm x := Nat.lt_of_le_of_lt (show x.natAbs ≤ 6000000 by omega) (by decide)
set_option maxHeartbeats 1000000 in
theorem ok_draw_shares {f fW fF fG : Addr} {fd dW dF dG : FuncData} (A : FnAt K mg "draw_shares" s_draw_shares ["draw"] f fd) (A_weights_of : FnAt K mg "weights_of" s_weights_of ["draw"] fW dW) (A_fraction : FnAt K mg "fraction" s_fraction ["top", "bottom"] fF dF) (A_greatest_divisor : FnAt K mg "greatest_divisor" s_greatest_divisor ["one", "other"] fG dG) (T : Txt K mg cN) : FnOk P w K mg base CX0 3 f fd ["draw"] (sp_ds K) := by
  have G_weights_of : FnOk P w K mg base CX0 1 fW dW _ (sp_ws K) := ok_weights_of A_weights_of
  have G_fraction : FnOk P w K mg base CX0 2 fF dF _ sp_frac := ok_fraction A_fraction A_greatest_divisor T
  refine A.F.ok (k := 2) sc_draw_shares (fun vs H Q E h => ?_) (fun cdv Ar outer s H vs Q E hr h => ?_)
  · obtain ⟨a, d, rfl, _⟩ := h
    rfl
  · obtain ⟨a, d, rfl, la, gd, k⟩ := h
    refine ⟨_, (pss_cons (ps_set (i := 1) sc_draw_shares.nd rfl (Or.inr rfl) (pe_call G_weights_of (hr.mono (by decide)) rfl A_weights_of.m A_weights_of.F.kp A_weights_of.b .nil pass0 (pa_cons (pv 0) pa_nil)))
      (pss_one (ps_ret (pe_comp rfl (Nc := ["weight", "weights"]) (caps1 1 1 [(".0", .local), ("weight", .local), ("fraction", .globalImplicit), ("sum", .globalImplicit), ("weights", .cell)] rfl rfl rfl (by decide +kernel) (by decide +kernel) rfl (by decide +kernel) rfl rfl rfl rfl) (pi_list (pv 1)) (fun _ _ _ _ => (pg_name (i := 0) (show List.Nodup (["weight", "weights"] : List Str) by decide +kernel) rfl (Or.inl rfl))) (fun _ _ _ _ => pts_nil) (fun _ _ _ _ => by exact (pe_call G_fraction (hr.mono (by decide)) rfl A_fraction.m A_fraction.F.kp A_fraction.b .nil pass0 (pa_cons (pv 0) (pa_cons (pe_callB (call_sumK (K := K) rfl rfl) (by rfl) T.sum_ Boot.«sum» (pa_cons (pv 1) pa_nil)) pa_nil)))))))), ?_⟩
    refine ⟨_, rfl, a, d, rfl, la, gd.l1, fun B H1 S1 hB eB => ?_⟩
    refine ⟨_, rfl, B, rfl, ⟨_, SqL.of eB⟩, fun D hD => ?_⟩
    refine comp_list (K := K) (a := B) (D := D) (xs := (wts d).map V.int) (fun i σ ys H' => (∃ o1, σ = [o1, some (.ref B)]) ∧ Same H1 H' ∧ H' D = some (.lst ys) ∧ DatsAt K H' ys (((wts d).take i).map fun w => frD (low w (wts d).sum)))
      ⟨⟨none, rfl⟩, .upd hD, upd_same, .nil⟩ ?_ ?_ ?_
    · rintro i σ ys H' hi ⟨_, S, eD, dy⟩
      have := dy.length
      have l1 := gd.l1
      rw [List.length_map, List.length_take, List.length_map] at this
      exact ⟨SqL.of (S _ _ eB), eD, Nat.lt_of_le_of_lt (show ys.length ≤ 100 by omega) (by decide)⟩
    · rintro i x σ ys H' hx ⟨⟨o1, rfl⟩, S, eD, dy⟩ N hN
      obtain ⟨wt, ew, rfl⟩ := map_get hx
      refine iteT (B := True) ?_
      refine ⟨_, rfl, _, rfl, B, wts d, rfl, SqL.of (S _ _ eB), wt, (wts d).sum, rfl, gd.sm.1, sm3 (Int.le_of_lt gd.sm.1) gd.sm.2, fun r H2 S2 hr2 => ?_⟩
      have eD2 := S2 _ _ eD
      refine ⟨eD2, hN _ _ _ ?_⟩
      obtain ⟨w1, w2, w3⟩ := snoc_ok (v := .ref r) (d := frD (low wt (wts d).sum)) hD (S.trans S2) eD2 (dy.same S2) (datAt_fr (SqT.of hr2))
      refine ⟨⟨_, rfl⟩, w1, w2, ?_⟩
      rw [take_snoc' ew, List.map_append]
      exact w3
    · rintro σ ys H' ⟨_, S, eD, dy⟩
      rw [List.length_map, List.take_of_length_le (Nat.le_refl _)] at dy
      exact k D H' (S1.trans S) (S1.free hD) ⟨ys, eD, dy⟩
def psOf (d : List (Int × Int)) (cs : List (Addr × List (Dt × Int))) : List Pa := List.zipWith (fun w c => (w, c.1, c.2)) (wts d) cs
def sp_wq (K : PySem.W.Frag) : Sp := fun vs H Q _ => ∃ (q Z : Addr) (d : List (Int × Int)) (Sb : Int) (cs : List (Addr × List (Dt × Int))) (cov : List Dt), vs = [.ref q, .ref Z] ∧ LsM K H q (mI d) ∧ Gd d ∧ H Z = some (.lst (cs.map fun c => V.ref c.1)) ∧ cs.length = d.length ∧ (∀ c ∈ cs, LsM K H c.1 (c.2.map (parD Sb))) ∧ PBd (wts d).sum Sb (psOf d cs) cov ∧
  ∀ es, Srt es → (∀ x, x ∈ es ↔ x ∈ (allR (psOf d cs)).map (·.1)) → lstQ K H Q ((gath ((wts d).sum * Sb) (allR (psOf d cs)) es).map (parD ((wts d).sum * Sb)))
set_option maxHeartbeats 1000000 in
theorem ok_weighed_question {f f0 f7 f8 f1 f2 f3 f4 f5 f6 fF : Addr} {fd d0 d7 d8 d1 d2 d3 d4 d5 d6 dF : FuncData} (A : FnAt K mg "weighed_question" s_weighed_question ["draw", "tables"] f fd) (A_draw_shares : FnAt K mg "draw_shares" s_draw_shares ["draw"] f7 d7) (A_weights_of : FnAt K mg "weights_of" s_weights_of ["draw"] f8 d8) (A_fraction : FnAt K mg "fraction" s_fraction ["top", "bottom"] fF dF)
    (A_mixed : FnAt K mg "mixed" s_mixed ["parts"] f0 d0) (A_times : FnAt K mg "times" s_times ["one", "other"] f1 d1) (A_gathered : FnAt K mg "gathered" s_gathered ["pairs"] f2 d2) (A_plus : FnAt K mg "plus" s_plus ["one", "other"] f3 d3) (A_greatest_divisor : FnAt K mg "greatest_divisor" s_greatest_divisor ["one", "other"] f4 d4)
    (A_in_order : FnAt K mg "in_order" s_in_order ["outcomes"] f5 d5) (A_rank : FnAt K mg "rank" s_rank ["outcome"] f6 d6) (T : Txt K mg cN) : FnOk P w K mg base CX0 7 f fd ["draw", "tables"] (sp_wq K) := by
  have G_mixed : FnOk P w K mg base CX0 6 f0 d0 _ (sp_mixed K) := ok_mixed A_mixed A_times A_gathered A_plus A_greatest_divisor A_in_order A_rank T
  have G_draw_shares : FnOk P w K mg base CX0 3 f7 d7 _ (sp_ds K) := ok_draw_shares A_draw_shares A_weights_of A_fraction A_greatest_divisor T
  refine A.F.ok (k := 6) sc_weighed_question (fun vs H Q E h => ?_) (fun cdv Ar outer s H vs Q E hr h => ?_)
  · obtain ⟨q, Z, d, Sb, cs, cov, rfl, _⟩ := h
    rfl
  · obtain ⟨q, Z, d, Sb, cs, cov, rfl, lq, gd, eZ, lc, hc, pb, k⟩ := h
    refine ⟨_, (pss_one (ps_ret (pe_call G_mixed (hr.mono (by decide)) rfl A_mixed.m A_mixed.F.kp A_mixed.b .nil pass0 (pa_cons (pe_listZip rfl (by rfl) T.zip_ (by rfl) T.list_ (pa_cons (pe_call G_draw_shares (hr.mono (by decide)) rfl A_draw_shares.m A_draw_shares.F.kp A_draw_shares.b .nil pass0 (pa_cons (pv 0) pa_nil)) (pa_cons (pv 1) pa_nil))) pa_nil)))), ?_⟩
    refine ⟨_, rfl, q, d, rfl, lq, gd, fun D H1 S1 hD lD => ?_⟩
    obtain ⟨ws, eD, dD⟩ := lD
    have lw := dD.length
    rw [List.length_map, List.length_map] at lw
    refine ⟨_, rfl, D, Z, ws, _, rfl, SqL.of eD, SqL.of (S1 _ _ eZ), by rw [List.length_map]; omega, fun S H2 ts S2 fS eS lts hts => ?_⟩
    have lp : (psOf d cs).length = d.length := by
      unfold psOf
      rw [List.length_zipWith, List.length_map]
      omega
    refine ⟨S, (wts d).sum, Sb, psOf d cs, cov, rfl, ⟨_, eS, by rw [List.length_map]; omega, fun i v p e1 e2 => ?_⟩, pb, fun es srt mem D3 H3 S3 hD3 l3 => k es srt mem D3 H3 (S1.trans (S2.trans S3)) (S1.free (S2.free hD3)) l3⟩
    obtain ⟨t, et, rfl⟩ := map_get e1
    have hi : i < d.length := by
      have := (List.getElem?_eq_some_iff.mp e2).1
      omega
    have h1 : ws[i]? = some (ws[i]'(by omega)) := List.getElem?_eq_getElem (by omega)
    have h2 : cs[i]? = some (cs[i]'(by omega)) := List.getElem?_eq_getElem (by omega)
    have h3 : (wts d)[i]? = some ((wts d)[i]'(by rw [List.length_map]; omega)) := List.getElem?_eq_getElem (by rw [List.length_map]; omega)
    generalize ws[i]'(by omega) = x at h1
    generalize cs[i]'(by omega) = c at h2
    generalize (wts d)[i]'(by rw [List.length_map]; omega) = wt at h3
    have e3 : (psOf d cs)[i]? = some (wt, c.1, c.2) := iz_at h3 h2
    rw [e3] at e2
    cases e2
    obtain ⟨dd, hdd, hx⟩ := (dD.same S2).get' h1
    rw [List.getElem?_map, h3] at hdd
    cases hdd
    exact ⟨t, x, rfl, SqT.of (hts i t x (.ref c.1) et h1 (by rw [List.getElem?_map, h2]; rfl)), hx, (hc c (List.mem_of_getElem? h2)).same (S1.trans S2)⟩
end
end K40
namespace K40
open PySem L2 FW PyProof.Rows
open M44 hiding Prt site Gv Gs hvs way
def up (q : Int) (R : List (Dt × Int)) : List (Dt × Int) := R.map fun r => (r.1, r.2 * q)
theorem wOf_nil (o : Dt) : wOf [] o = 0 := rfl
theorem wOf_cons (r : Dt × Int) (rows : List (Dt × Int)) (o : Dt) : wOf (r :: rows) o = (if Dt.beq r.1 o = true then r.2 else 0) + wOf rows o := by
  unfold wOf
  rw [List.filter_cons]
  split
  · rw [sumW_cons]
  · omega
theorem wOf_append (a b : List (Dt × Int)) (o : Dt) : wOf (a ++ b) o = wOf a o + wOf b o := by
  unfold wOf
  rw [List.filter_append, sumW_append]
theorem wOf_up (q : Int) (o : Dt) : ∀ R : List (Dt × Int), wOf (up q R) o = wOf R o * q
  | [] => by simp [up, wOf_nil]
  | r :: R => by
    have ih := wOf_up q o R
    show wOf ((r.1, r.2 * q) :: up q R) o = _
    rw [wOf_cons, wOf_cons, ih, Int.add_mul]
    dsimp only
    split <;> simp
theorem sumW_up (q : Int) : ∀ R : List (Dt × Int), sumW (up q R) = sumW R * q
  | [] => by simp [up, sumW]
  | r :: R => by
    have ih := sumW_up q R
    show sumW ((r.1, r.2 * q) :: up q R) = _
    rw [sumW_cons, sumW_cons, ih, Int.add_mul]
theorem up_keys (q : Int) (R : List (Dt × Int)) : (up q R).map (·.1) = R.map (·.1) := by
  unfold up
  rw [List.map_map]
  rfl
theorem low_scale {W S q : Int} (hS : 0 < S) (hq : 0 < q) : low (W * q) (S * q) = low W S := by
  have e := low_eq (t := W) (b := S)
  refine (low_of (low_Low (t := W) hS) (Int.mul_pos hS hq) ?_).symm
  rw [← Int.mul_assoc, e, Int.mul_assoc, Int.mul_assoc, Int.mul_comm q]
theorem par_up {S q : Int} (hS : 0 < S) (hq : 0 < q) (R : List (Dt × Int)) : (up q R).map (parD (S * q)) = R.map (parD S) := by
  unfold up
  rw [List.map_map]
  refine List.map_congr_left fun r _ => ?_
  show prD (r.1, frD (low (r.2 * q) (S * q))) = prD (r.1, frD (low r.2 S))
  rw [low_scale hS hq]
theorem wOf_pos : ∀ {rows : List (Dt × Int)} {o : Dt}, (∀ r ∈ rows, 0 < r.2) → o ∈ rows.map (·.1) → 0 < wOf rows o
  | r :: rows, o, h, m => by
    rw [wOf_cons]
    have h0 := h r (List.mem_cons_self ..)
    have hn := (wOf_bd (rows := rows) o fun q hq => Int.le_of_lt (h q (List.mem_cons_of_mem _ hq))).1
    rcases List.mem_cons.mp (by simpa using m : o ∈ r.1 :: rows.map (·.1)) with z | z
    · rw [if_pos (by rw [z]; exact Dt.beq_self _)]
      omega
    · have := wOf_pos (fun q hq => h q (List.mem_cons_of_mem _ hq)) z
      split <;> omega
theorem ite_sum_le {k : Dt} {v : Int} (hv : 0 ≤ v) : ∀ {es : List Dt}, es.Nodup → (es.map fun o => if Dt.beq k o = true then v else 0).sum ≤ v ∧ (k ∉ es → (es.map fun o => if Dt.beq k o = true then v else 0).sum = 0)
  | [], _ => ⟨by simpa using hv, fun _ => rfl⟩
  | o :: es, h => by
    rw [List.nodup_cons] at h
    obtain ⟨h1, h2⟩ := ite_sum_le hv h.2
    rw [List.map_cons, List.sum_cons]
    by_cases e : Dt.beq k o = true
    · have e' := (Dt.beq_iff _ _).mp e
      subst e'
      rw [if_pos (Dt.beq_self _), h2 h.1]
      exact ⟨by omega, fun z => absurd (List.mem_cons_self ..) z⟩
    · rw [if_neg e]
      refine ⟨by omega, fun z => ?_⟩
      rw [h2 fun y => z (List.mem_cons_of_mem _ y)]
      rfl
theorem sum_map_add {α : Type} (f g : α → Int) : ∀ l : List α, (l.map fun x => f x + g x).sum = (l.map f).sum + (l.map g).sum
  | [] => rfl
  | x :: l => by
    rw [List.map_cons, List.sum_cons, List.map_cons, List.sum_cons, List.map_cons, List.sum_cons, sum_map_add f g l]
    omega
theorem keys_le {es : List Dt} (nd : es.Nodup) : ∀ {rows : List (Dt × Int)}, (∀ r ∈ rows, 0 ≤ r.2) → (es.map fun o => wOf rows o).sum ≤ sumW rows
  | [], _ => by
    have : (es.map fun o => wOf [] o).sum = 0 := by
      induction es with
      | nil => rfl
      | cons o es ih =>
        rw [List.nodup_cons] at nd
        rw [List.map_cons, List.sum_cons, ih nd.2, wOf_nil]
        rfl
    rw [this]
    exact Int.le_refl 0
  | r :: rows, h => by
    have ih := keys_le nd (rows := rows) fun q hq => h q (List.mem_cons_of_mem _ hq)
    have e : (es.map fun o => wOf (r :: rows) o) = es.map fun o => (if Dt.beq r.1 o = true then r.2 else 0) + wOf rows o := List.map_congr_left fun o _ => wOf_cons r rows o
    rw [e, sum_map_add, sumW_cons]
    have h2 := (ite_sum_le (k := r.1) (h r (List.mem_cons_self ..)) nd).1
    exact Int.add_le_add h2 ih
theorem sumW_keys (es : List Dt) (F : Dt → Int) : sumW (es.map fun o => (o, F o)) = (es.map F).sum := by
  unfold sumW
  rw [List.map_map]
  rfl
theorem wOf_keys (F : Dt → Int) (o : Dt) : ∀ {es : List Dt}, es.Nodup → (o ∈ es → wOf (es.map fun o => (o, F o)) o = F o) ∧ (o ∉ es → wOf (es.map fun o => (o, F o)) o = 0)
  | [], _ => ⟨(fun h => nomatch h), (fun _ => rfl)⟩
  | x :: es, h => by
    rw [List.nodup_cons] at h
    obtain ⟨h1, h2⟩ := wOf_keys F o h.2
    rw [List.map_cons, wOf_cons]
    dsimp only
    by_cases e : Dt.beq x o = true
    · have e' := (Dt.beq_iff _ _).mp e
      subst e'
      rw [if_pos (Dt.beq_self _), h2 h.1]
      exact ⟨fun _ => by omega, fun z => absurd (List.mem_cons_self ..) z⟩
    · have ne : o ≠ x := fun z => e (by rw [z]; exact Dt.beq_self _)
      rw [if_neg e]
      refine ⟨fun z => ?_, fun z => ?_⟩
      · rw [h1 ((List.mem_cons.mp z).resolve_left ne)]
        omega
      · rw [h2 fun y => z (List.mem_cons_of_mem _ y)]
        rfl
theorem psOf_cons (p : Int × Int) (d : List (Int × Int)) (c : Addr × List (Dt × Int)) (cs : List (Addr × List (Dt × Int))) : psOf (p :: d) (c :: cs) = (p.2, c.1, c.2) :: psOf d cs := rfl
theorem allR_cons (p : Pa) (ps : List Pa) : allR (p :: ps) = up p.1 p.2.2 ++ allR ps := by
  have e : allR (p :: ps) = allR [p] ++ allR ps := allR_app [p] ps
  rw [e, allR_one]
  unfold up
  congr 1
  exact List.map_congr_left fun r _ => by rw [Int.mul_comm]
theorem wOf_allR (o : Dt) : ∀ (d : List (Int × Int)) (cs : List (Addr × List (Dt × Int))), wOf (allR (psOf d cs)) o = (List.zipWith (fun w c => w * wOf c.2 o) (wts d) cs).sum
  | [], cs => by simp [psOf, allR, wOf_nil]
  | p :: d, [] => by simp [psOf, allR, wOf_nil]
  | p :: d, c :: cs => by
    rw [psOf_cons, allR_cons, wOf_append, wOf_allR o d cs, wOf_up]
    show wOf c.2 o * p.2 + _ = (p.2 * wOf c.2 o :: List.zipWith (fun w c => w * wOf c.2 o) (wts d) cs).sum
    rw [List.sum_cons, Int.mul_comm]
theorem sumW_allR {M : Int} : ∀ (d : List (Int × Int)) (cs : List (Addr × List (Dt × Int))), (∀ a ∈ wts d, 0 ≤ a) → 0 ≤ M → (∀ c ∈ cs, sumW c.2 ≤ M) → sumW (allR (psOf d cs)) ≤ (wts d).sum * M
  | [], cs, _, _, _ => by simp [psOf, allR, sumW]
  | p :: d, [], h, hM, _ => by
    have h1 : 0 ≤ (wts (p :: d)).sum := by
      have : ∀ l : List Int, (∀ a ∈ l, 0 ≤ a) → 0 ≤ l.sum := fun l => by
        induction l with
        | nil => intro _; exact Int.le_refl 0
        | cons x l ih =>
          intro h
          have := ih fun a ha => h a (List.mem_cons_of_mem _ ha)
          have := h x (List.mem_cons_self ..)
          rw [List.sum_cons]
          omega
      exact this _ h
    have : sumW (allR (psOf (p :: d) [])) = 0 := by simp [psOf, allR, sumW]
    rw [this]
    exact Int.mul_nonneg h1 hM
  | p :: d, c :: cs, h, hM, hc => by
    have ih := sumW_allR (M := M) d cs (fun a ha => h a (List.mem_cons_of_mem _ ha)) hM fun x hx => hc x (List.mem_cons_of_mem _ hx)
    rw [psOf_cons, allR_cons, sumW_append, sumW_up]
    show sumW c.2 * p.2 + _ ≤ (p.2 :: wts d).sum * M
    rw [List.sum_cons, Int.add_mul]
    have h0 : 0 ≤ p.2 := h p.2 (List.mem_cons_self ..)
    have h1 := Int.mul_le_mul_of_nonneg_right (hc c (List.mem_cons_self ..)) h0
    rw [Int.mul_comm M] at h1
    omega
theorem allR_keys (o : Dt) : ∀ (d : List (Int × Int)) (cs : List (Addr × List (Dt × Int))), cs.length = d.length → (o ∈ (allR (psOf d cs)).map (·.1) ↔ ∃ c ∈ cs, o ∈ c.2.map (·.1))
  | [], [], _ => by simp [psOf, allR]
  | p :: d, c :: cs, h => by
    have ih := allR_keys o d cs (by simpa using h)
    rw [psOf_cons, allR_cons, List.map_append, List.mem_append, ih, up_keys]
    simp only [List.mem_cons]
    constructor
    · rintro (h | ⟨x, hx, h⟩)
      · exact ⟨c, .inl rfl, h⟩
      · exact ⟨x, .inr hx, h⟩
    · rintro ⟨x, (rfl | hx), hm⟩
      · exact .inl hm
      · exact .inr ⟨x, hx, hm⟩
theorem allR_of {d : List (Int × Int)} {cs : List (Addr × List (Dt × Int))} {q : Dt × Int} (h : q ∈ allR (psOf d cs)) : ∃ w ∈ wts d, ∃ c ∈ cs, ∃ r ∈ c.2, q = (r.1, w * r.2) := by
  obtain ⟨p, hp, r, hr, e⟩ := allR_mem h
  unfold psOf at hp
  obtain ⟨j, w, c, h1, h2, h3⟩ := zw_get hp
  subst h3
  exact ⟨w, List.mem_of_getElem? h1, c, List.mem_of_getElem? h2, r, hr, e⟩
structure Tab (P : List (List (Int × Int))) (cov : List Dt) (p : Prt) (R : List (Dt × Int)) : Prop where
  srt : Srt (R.map (·.1))
  pos : ∀ r ∈ R, 0 < r.2
  oc : ∀ r ∈ R, r.1 ∈ cov ∧ Oc r.1
  sum : sumW R ≤ Ts (Dw P) (site P.length p)
theorem srt_nd {es : List Dt} (h : Srt es) : es.Nodup := h.imp fun {x y} h z => by rw [z, Dt.lt_self] at h; cases h
theorem Tab.nd {P : List (List (Int × Int))} {cov : List Dt} {p : Prt} {R : List (Dt × Int)} (h : Tab P cov p R) : (R.map (·.1)).Nodup := srt_nd h.srt
theorem Tab.few {P : List (List (Int × Int))} {cov : List Dt} {p : Prt} {R : List (Dt × Int)} (h : Tab P cov p R) : R.length ≤ cov.length := by
  have := nd_le h.nd fun x hx => by
    obtain ⟨r, hr, rfl⟩ := List.mem_map.mp hx
    exact (h.oc r hr).1
  rwa [List.length_map] at this
def siteAt (P : List (List (Int × Int))) (parts : List Prt) (c : Nat) : Nat := site P.length (parts.getD c (.lf .non))
def qq (P : List (List (Int × Int))) (parts : List Prt) (k c : Nat) : Int := prodI ((bet (Dw P) k (siteAt P parts c)).map List.sum)
structure StepOk (P : List (List (Int × Int))) (parts : List Prt) (Rs : List (List (Dt × Int))) (k : Nat) (ch : List Nat) (d : List (Int × Int)) (R : List (Dt × Int)) : Prop where
  keys : ∀ o, o ∈ R.map (·.1) ↔ ∃ c ∈ ch, o ∈ (Rs.getD c []).map (·.1)
  val : ∀ o, wOf R o = (List.zipWith (fun w c => w * (wOf (Rs.getD c []) o * qq P parts k c)) (wts d) ch).sum
inductive Rel (P : List (List (Int × Int))) (parts : List Prt) (Rs : List (List (Dt × Int))) : Prt → List (Dt × Int) → Prop
  | lf (o : Dt) : Rel P parts Rs (.lf o) [(o, 1)]
  | ask (k : Nat) (ch : List Nat) (d : List (Int × Int)) (R : List (Dt × Int)) (hd : P[k]? = some d) (h : StepOk P parts Rs k ch d R) : Rel P parts Rs (.ask k ch) R
theorem zw_congr {α β γ : Type} {f g : α → β → γ} : ∀ {as : List α} {bs : List β}, (∀ a, ∀ b ∈ bs, f a b = g a b) → List.zipWith f as bs = List.zipWith g as bs
  | [], _, _ => by simp
  | a :: as, [], _ => by simp
  | a :: as, b :: bs, h => by
    rw [List.zipWith_cons_cons, List.zipWith_cons_cons, h a b (List.mem_cons_self ..), zw_congr fun a b hb => h a b (List.mem_cons_of_mem _ hb)]
theorem getD_app {α : Type} {l : List α} {x z : α} {c : Nat} (h : c < l.length) : (l ++ [x]).getD c z = l.getD c z := by
  rw [List.getD_eq_getElem?_getD, List.getD_eq_getElem?_getD, List.getElem?_append_left h]
theorem StepOk.app {P : List (List (Int × Int))} {parts : List Prt} {Rs : List (List (Dt × Int))} {k : Nat} {ch : List Nat} {d : List (Int × Int)} {R R2 : List (Dt × Int)} (h : StepOk P parts Rs k ch d R) (hc : ∀ c ∈ ch, c < Rs.length) : StepOk P parts (Rs ++ [R2]) k ch d R := by
  refine ⟨fun o => (h.keys o).trans ⟨?_, ?_⟩, fun o => (h.val o).trans (congrArg List.sum (zw_congr fun a c hcc => by rw [getD_app (hc c hcc)]))⟩
  · rintro ⟨c, hcc, m⟩
    exact ⟨c, hcc, by rw [getD_app (hc c hcc)]; exact m⟩
  · rintro ⟨c, hcc, m⟩
    exact ⟨c, hcc, by rw [getD_app (hc c hcc)] at m; exact m⟩
structure Gt (P : List (List (Int × Int))) (cov : List Dt) (parts : List Prt) (Rs : List (List (Dt × Int))) : Prop where
  len : Rs.length ≤ parts.length
  it : ∀ (i : Nat) (p : Prt) (R : List (Dt × Int)), parts[i]? = some p → Rs[i]? = some R → Tab P cov p R ∧ Rel P parts Rs p R
theorem Gt.snoc {P : List (List (Int × Int))} {cov : List Dt} {parts : List Prt} {Rs : List (List (Dt × Int))} {p : Prt} {R : List (Dt × Int)} (gp : Gp P parts) (h : Gt P cov parts Rs) (hp : parts[Rs.length]? = some p) (t : Tab P cov p R) (r : Rel P parts Rs p R) : Gt P cov parts (Rs ++ [R]) := by
  have app : ∀ {i : Nat} {p' : Prt} {R' : List (Dt × Int)}, parts[i]? = some p' → i ≤ Rs.length → Rel P parts Rs p' R' → Rel P parts (Rs ++ [R]) p' R' := fun {i p' R'} e hi r => by
    cases r with
    | lf o => exact .lf o
    | ask k ch d R' hd h =>
      obtain ⟨_, _, _, hc⟩ := gp i k ch e
      exact .ask k ch d R' hd (h.app fun c hcc => by have := (hc c hcc).1; omega)
  refine ⟨?_, fun i p' R' e1 e2 => ?_⟩
  · have := (List.getElem?_eq_some_iff.mp hp).1
    rw [List.length_append, List.length_singleton]
    omega
  · by_cases hi : i < Rs.length
    · rw [List.getElem?_append_left hi] at e2
      obtain ⟨h1, h2⟩ := h.it i p' R' e1 e2
      exact ⟨h1, app e1 (Nat.le_of_lt hi) h2⟩
    · rw [List.getElem?_append_right (by omega)] at e2
      have hi2 : i - Rs.length = 0 := by
        have := (List.getElem?_eq_some_iff.mp e2).1
        simp at this
        omega
      rw [hi2] at e2
      cases e2
      have : i = Rs.length := by omega
      subst this
      rw [hp] at e1
      cases e1
      exact ⟨t, app hp (Nat.le_refl _) r⟩
theorem Ts_bd {K : PySem.W.Frag} {H : Hp} {DA : Addr} {ps : List (Addr × List Dt)} {P : List (List (Int × Int))} (h : DrsAt K H DA ps P) (k : Nat) : 0 < Ts (Dw P) k ∧ Ts (Dw P) k ≤ 10 ^ 160 := by
  refine ⟨Ts_pos h.good k, Int.le_trans (Ts_le (m := 6000000) (by decide) h.good h.sums k) ?_⟩
  rw [dw_len]
  refine Int.le_trans (pow_mono (m := 6000000) (by decide) h.l) (by decide +kernel)
theorem qq_ok {P : List (List (Int × Int))} (g : Good (Dw P)) {parts : List Prt} {k c : Nat} {d : List (Int × Int)} (hd : P[k]? = some d) (hk : k < siteAt P parts c) : 0 < qq P parts k c ∧ Ts (Dw P) (siteAt P parts c) * qq P parts k c = Ts (Dw P) (k + 1) := by
  have hD : (Dw P)[k]? = some (wts d) := by rw [List.getElem?_map, hd]; rfl
  have e1 := Ts_cut hD hk
  have e2 := Ts_succ hD
  have p0 : 0 < (wts d).sum := by
    obtain ⟨h1, h2⟩ := g _ (List.mem_of_getElem? hD)
    exact sum_pos h2 h1
  have q0 : 0 < qq P parts k c := prodI_pos fun x hx => by
    obtain ⟨y, hy, rfl⟩ := List.mem_map.mp hx
    have hm : y ∈ Dw P := List.mem_of_mem_drop (List.mem_of_mem_take hy)
    obtain ⟨h1, h2⟩ := g y hm
    exact sum_pos h2 h1
  refine ⟨q0, ?_⟩
  rw [e2] at e1
  have e3 : (wts d).sum * Ts (Dw P) (k + 1) = (wts d).sum * (qq P parts k c * Ts (Dw P) (siteAt P parts c)) := by
    rw [e1, Int.mul_assoc]
    rfl
  have := Int.eq_of_mul_eq_mul_left (by omega) e3
  rw [this, Int.mul_comm]
end K40
namespace K40
open PySem L2 FW PyProof.Rows
open M44 hiding Prt site Gv Gs hvs way
structure Tw (K : PySem.W.Frag) (mg : Str → Option Value) (cW : Addr) : Prop where
  WHOLE : mg "WHOLE" = some (.ref cW)
  whole : ∀ H, SqT K H cW [.int 1, .int 1]
theorem get_ex {α : Type} {l : List α} {i : Nat} (h : i < l.length) : ∃ x, l[i]? = some x := ⟨l[i], List.getElem?_eq_getElem h⟩
structure TbsAt (K : PySem.W.Frag) (H : Hp) (Z : Addr) (zs : List Addr) (Rs : List (List (Dt × Int))) (P : List (List (Int × Int))) (parts : List Prt) : Prop where
  a : H Z = some (.lst (zs.map V.ref))
  l : zs.length = Rs.length
  nd : zs.Nodup
  t : ∀ (i : Nat) (z : Addr) (R : List (Dt × Int)) (p : Prt), zs[i]? = some z → Rs[i]? = some R → parts[i]? = some p → LsM K H z (R.map (parD (Ts (Dw P) (site P.length p)))) ∧ z ≠ Z
theorem TbsAt.same {K : PySem.W.Frag} {H H' : Hp} {Z : Addr} {zs : List Addr} {Rs : List (List (Dt × Int))} {P : List (List (Int × Int))} {parts : List Prt} (h : TbsAt K H Z zs Rs P parts) (e : Same H H') : TbsAt K H' Z zs Rs P parts :=
  ⟨e _ _ h.a, h.l, h.nd, fun i z R p e1 e2 e3 => ⟨(h.t i z R p e1 e2 e3).1.same e, (h.t i z R p e1 e2 e3).2⟩⟩
theorem TbsAt.fresh {K : PySem.W.Frag} {H : Hp} {Z L : Addr} {zs : List Addr} {Rs : List (List (Dt × Int))} {P : List (List (Int × Int))} {parts : List Prt} (h : TbsAt K H Z zs Rs P parts) (le : Rs.length ≤ parts.length) (hL : H L = none) : L ∉ zs := fun m => by
  obtain ⟨i, hi, e⟩ := List.getElem_of_mem m
  have l := h.l
  have := h.t i L Rs[i] parts[i] (by rw [List.getElem?_eq_getElem hi, e]) (List.getElem?_eq_getElem (by omega)) (List.getElem?_eq_getElem (by omega))
  obtain ⟨⟨ws, ew, _⟩, _⟩ := this
  rw [hL] at ew
  cases ew
theorem TbsAt.push {K : PySem.W.Frag} {H : Hp} {Z z : Addr} {zs : List Addr} {Rs : List (List (Dt × Int))} {R : List (Dt × Int)} {P : List (List (Int × Int))} {parts : List Prt} {p : Prt} (h : TbsAt K H Z zs Rs P parts) (hp : parts[Rs.length]? = some p) (hz : LsM K H z (R.map (parD (Ts (Dw P) (site P.length p))))) (ne : z ≠ Z) (nz : z ∉ zs) :
    TbsAt K (upd H Z (.lst (zs.map V.ref ++ [.ref z]))) Z (zs ++ [z]) (Rs ++ [R]) P parts := by
  have l := h.l
  refine ⟨by rw [List.map_append]; exact upd_same, by rw [List.length_append, List.length_append, l]; rfl, List.nodup_append.mpr ⟨h.nd, List.pairwise_singleton _ _, fun a ha b hb z' => nz (by rw [← List.mem_singleton.mp hb, ← z']; exact ha)⟩, fun i z' R' p' e1 e2 e3 => ?_⟩
  by_cases hi : i < zs.length
  · rw [List.getElem?_append_left hi] at e1
    rw [List.getElem?_append_left (by omega)] at e2
    obtain ⟨h1, h2⟩ := h.t i z' R' p' e1 e2 e3
    exact ⟨h1.updL h.a h2, h2⟩
  · rw [List.getElem?_append_right (by omega)] at e1 e2
    have hi2 : i - zs.length = 0 := by
      have := (List.getElem?_eq_some_iff.mp e1).1
      simp at this
      omega
    rw [hi2] at e1
    rw [show i - Rs.length = 0 by omega] at e2
    cases e1
    cases e2
    have : i = Rs.length := by omega
    subst this
    rw [hp] at e3
    cases e3
    exact ⟨hz.updL h.a ne, ne⟩
def sp_weighed (K : PySem.W.Frag) : Sp := fun vs H Q _ => ∃ (A DA : Addr) (us : List V) (parts : List Prt) (ps : List (Addr × List Dt)) (P : List (List (Int × Int))) (cov : List Dt), vs = [.ref A, .ref DA] ∧ PrsAt K H A us parts ∧ DrsAt K H DA ps P ∧ Gp P parts ∧ Lv cov parts ∧ cov.length ≤ 60 ∧ parts.length ≤ 100 ∧
  ∀ Fd H' zs Rs, Same H H' → H Fd = none → (∀ z ∈ zs, H z = none) → TbsAt K H' Fd zs Rs P parts → Rs.length = parts.length → Gt P cov parts Rs → Q (.ref Fd) H'
theorem tab_leaf {P : List (List (Int × Int))} {cov : List Dt} {o : Dt} (h : o ∈ cov ∧ Oc o) : Tab P cov (.lf o) [(o, 1)] ∧ Ts (Dw P) (site P.length (.lf o)) = 1 := by
  have e : Ts (Dw P) (site P.length (.lf o)) = 1 := by
    show prodI (((Dw P).drop P.length).map List.sum) = 1
    rw [← dw_len, List.drop_length]
    rfl
  refine ⟨⟨List.pairwise_singleton _ _, fun r hr => ?_, fun r hr => ?_, ?_⟩, e⟩
  · cases List.mem_singleton.mp hr
    exact (by decide : (0 : Int) < 1)
  · cases List.mem_singleton.mp hr
    exact h
  · rw [e]
    exact Int.le_refl 1
theorem ask_ok {K : PySem.W.Frag} {H : Hp} {DA : Addr} {ps : List (Addr × List Dt)} {P : List (List (Int × Int))} (da : DrsAt K H DA ps P) {parts : List Prt} {cov : List Dt} (cl : cov.length ≤ 60) {Rs : List (List (Dt × Int))} (gt : Gt P cov parts Rs) {k : Nat} {ch : List Nat} {d : List (Int × Int)} (hd : P[k]? = some d) (gd : Gd d) (lch : ch.length = d.length)
    (hch : ∀ c ∈ ch, c < Rs.length ∧ k < siteAt P parts c) (ad : Nat → Addr) :
    PBd (wts d).sum (Ts (Dw P) (k + 1)) (psOf d (ch.map fun c => (ad c, up (qq P parts k c) (Rs.getD c [])))) cov ∧
    ∀ es, Srt es → (∀ x, x ∈ es ↔ x ∈ (allR (psOf d (ch.map fun c => (ad c, up (qq P parts k c) (Rs.getD c []))))).map (·.1)) →
      Tab P cov (.ask k ch) (gath ((wts d).sum * Ts (Dw P) (k + 1)) (allR (psOf d (ch.map fun c => (ad c, up (qq P parts k c) (Rs.getD c []))))) es) ∧
      StepOk P parts Rs k ch d (gath ((wts d).sum * Ts (Dw P) (k + 1)) (allR (psOf d (ch.map fun c => (ad c, up (qq P parts k c) (Rs.getD c []))))) es) := by
  have g := da.good
  have hD : (Dw P)[k]? = some (wts d) := by rw [List.getElem?_map, hd]; rfl
  have eT : Ts (Dw P) k = (wts d).sum * Ts (Dw P) (k + 1) := Ts_succ hD
  obtain ⟨t0, t1⟩ := Ts_bd da k
  obtain ⟨u0, u1⟩ := Ts_bd da (k + 1)
  have s0 := gd.sm
  have p160 : (6000000 : Int) ≤ 10 ^ 160 := by decide +kernel
  have child : ∀ c ∈ ch, Tab P cov (parts.getD c (.lf .non)) (Rs.getD c []) ∧ 0 < qq P parts k c ∧ sumW (up (qq P parts k c) (Rs.getD c [])) ≤ Ts (Dw P) (k + 1) := fun c hc => by
    obtain ⟨h1, h2⟩ := hch c hc
    obtain ⟨q0, q1⟩ := qq_ok g hd h2
    have hl := gt.len
    have e1 : parts[c]? = some (parts.getD c (.lf .non)) := by
      rw [List.getD_eq_getElem?_getD, List.getElem?_eq_getElem (show c < parts.length by omega)]
      rfl
    have e2 : Rs[c]? = some (Rs.getD c []) := by
      rw [List.getD_eq_getElem?_getD, List.getElem?_eq_getElem h1]
      rfl
    have tb := (gt.it c _ _ e1 e2).1
    refine ⟨tb, q0, ?_⟩
    rw [sumW_up, ← q1]
    exact Int.mul_le_mul_of_nonneg_right tb.sum (Int.le_of_lt q0)
  have rows : ∀ c ∈ ch, ∀ r ∈ up (qq P parts k c) (Rs.getD c []), r.1 ∈ cov ∧ Oc r.1 ∧ 0 < r.2 := fun c hc r hr => by
    obtain ⟨tb, q0, _⟩ := child c hc
    unfold up at hr
    obtain ⟨r', hr', rfl⟩ := List.mem_map.mp hr
    exact ⟨(tb.oc r' hr').1, (tb.oc r' hr').2, Int.mul_pos (tb.pos r' hr') q0⟩
  have le1 : ∀ c ∈ ch, ∀ r ∈ up (qq P parts k c) (Rs.getD c []), r.2 ≤ Ts (Dw P) (k + 1) := fun c hc r hr =>
    Int.le_trans (sumW_mem (fun r hr => Int.le_of_lt (rows c hc r hr).2.2) r hr) (child c hc).2.2
  generalize hcs : (ch.map fun c => (ad c, up (qq P parts k c) (Rs.getD c []))) = cs
  have mem : ∀ x ∈ cs, ∃ c ∈ ch, x.2 = up (qq P parts k c) (Rs.getD c []) := fun x hx => by
    rw [← hcs] at hx
    obtain ⟨c, hc, rfl⟩ := List.mem_map.mp hx
    exact ⟨c, hc, rfl⟩
  have lcs : cs.length = d.length := by rw [← hcs, List.length_map]; exact lch
  have w0 : ∀ a ∈ wts d, 0 ≤ a ∧ a ≤ 1000000 := fun a ha => ⟨Int.le_of_lt (gd.w a ha).1, (gd.w a ha).2⟩
  have allpos : ∀ q ∈ allR (psOf d cs), q.1 ∈ cov ∧ Oc q.1 ∧ 0 < q.2 := fun q hq => by
    obtain ⟨wt, hw, x, hx, r, hr, rfl⟩ := allR_of hq
    obtain ⟨c, hc, e⟩ := mem x hx
    rw [e] at hr
    obtain ⟨r1, r2, r3⟩ := rows c hc r hr
    exact ⟨r1, r2, Int.mul_pos (gd.w wt hw).1 r3⟩
  have allsum : sumW (allR (psOf d cs)) ≤ Ts (Dw P) k := by
    rw [eT]
    refine sumW_allR d cs (fun a ha => (w0 a ha).1) (Int.le_of_lt u0) fun x hx => ?_
    obtain ⟨c, hc, e⟩ := mem x hx
    rw [e]
    exact (child c hc).2.2
  have fewR : (allR (psOf d cs)).length ≤ 1000 := by
    have : ∀ (d : List (Int × Int)) (cs : List (Addr × List (Dt × Int))), (∀ c ∈ cs, c.2.length ≤ 60) → (allR (psOf d cs)).length ≤ 60 * d.length := by
      intro d
      induction d with
      | nil => intro cs _; simp [psOf, allR]
      | cons p d ih =>
        intro cs h
        cases cs with
        | nil => simp [psOf, allR]
        | cons c cs =>
          have := ih cs fun x hx => h x (List.mem_cons_of_mem _ hx)
          have h2 := h c (List.mem_cons_self ..)
          rw [psOf_cons, allR_cons, List.length_append, List.length_cons]
          unfold up
          rw [List.length_map]
          dsimp only
          omega
    have h3 := this d cs fun x hx => by
      obtain ⟨c, hc, e⟩ := mem x hx
      rw [e]
      have := (child c hc).1.few
      unfold up
      rw [List.length_map]
      omega
    have := gd.l1
    omega
  refine ⟨⟨⟨s0.1, Int.le_trans s0.2 p160⟩, ⟨u0, u1⟩, fun p hp => ?_, fun p hp r hr => ?_, ⟨by rw [← eT]; exact t0, by rw [← eT]; exact t1, fun r hr => Int.le_of_lt (allpos r hr).2.2, Int.le_trans allsum t1⟩, fewR, fun r hr => (allpos r hr).1, by omega⟩, fun es srt hes => ?_⟩
  · unfold psOf at hp
    obtain ⟨j, wt, x, e1, e2, e3⟩ := zw_get hp
    subst e3
    obtain ⟨a1, a2⟩ := w0 wt (List.mem_of_getElem? e1)
    exact ⟨a1, Int.le_trans a2 (Int.le_trans (by decide : (1000000 : Int) ≤ 6000000) p160)⟩
  · unfold psOf at hp
    obtain ⟨j, wt, x, e1, e2, e3⟩ := zw_get hp
    subst e3
    obtain ⟨c, hc, e⟩ := mem x (List.mem_of_getElem? e2)
    have hr' : r ∈ up (qq P parts k c) (Rs.getD c []) := by rw [← e]; exact hr
    obtain ⟨_, r2, r3⟩ := rows c hc r hr'
    exact ⟨r2, Int.le_of_lt r3, Int.le_trans (le1 c hc r hr') u1⟩
  · have nd := srt_nd srt
    have pos : ∀ o ∈ es, 0 < wOf (allR (psOf d cs)) o := fun o ho => wOf_pos (fun r hr => (allpos r hr).2.2) ((hes o).mp ho)
    have eg : gath ((wts d).sum * Ts (Dw P) (k + 1)) (allR (psOf d cs)) es = es.map fun o => (o, wOf (allR (psOf d cs)) o) := by
      unfold gath
      rw [List.filter_eq_self.mpr fun o ho => by
        have := pos o ho
        simp
        omega]
    rw [eg]
    have keys : (es.map fun o => (o, wOf (allR (psOf d cs)) o)).map (·.1) = es := by
      rw [List.map_map]
      exact List.map_id es
    refine ⟨⟨by rw [keys]; exact srt, fun r hr => ?_, fun r hr => ?_, ?_⟩, ⟨fun o => ?_, fun o => ?_⟩⟩
    · obtain ⟨o, ho, rfl⟩ := List.mem_map.mp hr
      exact pos o ho
    · obtain ⟨o, ho, rfl⟩ := List.mem_map.mp hr
      obtain ⟨q, hq, e⟩ := List.mem_map.mp ((hes o).mp ho)
      obtain ⟨a1, a2, _⟩ := allpos q hq
      rw [e] at a1 a2
      exact ⟨a1, a2⟩
    · rw [sumW_keys]
      exact Int.le_trans (keys_le nd fun r hr => Int.le_of_lt (allpos r hr).2.2) allsum
    · rw [keys, hes, allR_keys o d cs lcs, ← hcs]
      constructor
      · rintro ⟨x, hx, m⟩
        obtain ⟨c, hc, rfl⟩ := List.mem_map.mp hx
        exact ⟨c, hc, by rw [up_keys] at m; exact m⟩
      · rintro ⟨c, hc, m⟩
        exact ⟨_, List.mem_map.mpr ⟨c, hc, rfl⟩, by rw [up_keys]; exact m⟩
    · have e1 : wOf (es.map fun o => (o, wOf (allR (psOf d cs)) o)) o = wOf (allR (psOf d cs)) o := by
        obtain ⟨h1, h2⟩ := wOf_keys (fun o => wOf (allR (psOf d cs)) o) o nd
        by_cases ho : o ∈ es
        · exact h1 ho
        · rw [h2 ho, wOf_none fun z => ho ((hes o).mpr z)]
      rw [e1, wOf_allR, ← hcs, List.zipWith_map_right]
      exact congrArg List.sum (zw_congr fun a c _ => by rw [wOf_up])
end K40
namespace K40
open PySem L2 FW PyProof.Rows
open M44 hiding Prt site Gv Gs hvs way
section
variable {P : Program} {w : World} {K : PySem.W.Frag} {mg : Str → Option Value} {base : Heap} {cN cW : Addr}
theorem atI0 {xs : List V} {i : Nat} {x : V} (h : xs[i]? = some x) : atI xs (0 + (i : Int)) = some x := by
  rw [Int.zero_add]
  exact atI_nat h
theorem snoc_free {H : Hp} {zs : List Addr} {L : Addr} (h : ∀ z ∈ zs, H z = none) (hL : H L = none) : ∀ z ∈ zs ++ [L], H z = none := fun z hz => by
  rcases List.mem_append.mp hz with m | m
  · exact h z m
  · cases List.mem_singleton.mp m
    exact hL
set_option maxHeartbeats 4000000 in
theorem ok_weighed {f fQ : Addr} {fd dQ : FuncData} (A : FnAt K mg "weighed" s_weighed ["parts", "draws"] f fd) (A_weighed_question : FnAt K mg "weighed_question" s_weighed_question ["draw", "tables"] fQ dQ) (G_weighed_question : FnOk P w K mg base CX0 7 fQ dQ ["draw", "tables"] (sp_wq K)) (T : Txt K mg cN) (T3 : Tw K mg cW) : FnOk P w K mg base CX0 8 f fd ["parts", "draws"] (sp_weighed K) := by
  refine A.F.ok (k := 7) sc_weighed (fun vs H Q E h => ?_) (fun cdv Ar outer s H vs Q E hr h => ?_)
  · obtain ⟨A, DA, us, parts, ps, P, cov, rfl, _⟩ := h
    rfl
  · obtain ⟨A, DA, us, parts, ps, P, cov, rfl, pa, da, gp, lv, cl, hl, k⟩ := h
    refine ⟨_, (pss_cons (ps_set (i := 2) sc_weighed.nd rfl (Or.inr rfl) (pe_lst pa_nil))
      (pss_cons (ps_for PassesOwn.never rfl (pi_list (pv 0)) (pg_name (i := 3) sc_weighed.nd rfl (Or.inl rfl)) (pss_one (ps_if (pt_cmpR op_eq (pe_ix ix_tup (pv 3) pe_int (fun _ _ => rfl)) pe_str (nomark _)) (pss_one (ps_expr (pe_bm PySem.F.plainAttrs_list PySem.F.slot_list_append PySem.F.type_list_append mt_append (pv 2) (pa_cons (pe_lst (pa_cons (pe_tup (pa_cons (pe_ix ix_tup (pv 3) pe_int (fun _ _ => rfl)) (pa_cons (pe_glob rfl T3.WHOLE (v := .ref cW) rfl) pa_nil))) pa_nil)) pa_nil)))) (pss_one (ps_expr (pe_bm PySem.F.plainAttrs_list PySem.F.slot_list_append PySem.F.type_list_append mt_append (pv 2) (pa_cons (pe_call G_weighed_question (hr.mono (by decide)) rfl A_weighed_question.m A_weighed_question.F.kp A_weighed_question.b .nil pass0 (pa_cons (pe_ix ix_list (pv 1) (pe_ix ix_tup (pv 3) pe_int (fun _ _ => rfl)) (fun _ _ => rfl)) (pa_cons (pe_comp rfl (Nc := ["child", "tables"]) (caps1 1 2 [(".0", .local), ("child", .local), ("tables", .cell)] rfl rfl rfl (by decide +kernel) (by decide +kernel) rfl (by decide +kernel) rfl rfl rfl rfl) (pi_list (pe_ix ix_tup (pv 3) pe_int (fun _ _ => rfl))) (fun _ _ _ _ => (pg_name (i := 0) (show List.Nodup (["child", "tables"] : List Str) by decide +kernel) rfl (Or.inl rfl))) (fun _ _ _ _ => pts_nil) (fun _ _ _ _ => by exact (pe_ix (ix_listK (K := K) rfl) (pv 1) (pv 0) (fun _ _ => rfl)))) pa_nil))) pa_nil)))))))
      (pss_one (ps_ret (pv 2))))), ?_⟩
    have lus := pa.l
    refine ⟨Nat.zero_le _, fun Z hZ => ?_⟩
    refine ⟨_, rfl, A, rfl, ⟨_, SqL.of (Same.upd hZ _ _ pa.a)⟩, for_list (K := K) (a := A) (xs := us) (fun i σ H' => Same H H' ∧ ∃ (zs : List Addr) (Rs : List (List (Dt × Int))) (o3 : Option V), σ = [some (.ref A), some (.ref DA), some (.ref Z), o3] ∧ (∀ z ∈ zs, H z = none) ∧ TbsAt K H' Z zs Rs P parts ∧ Rs.length = i ∧ Gt P cov parts Rs)
      ⟨.upd hZ, [], [], none, rfl, (fun _ h => nomatch h), ⟨upd_same, rfl, List.nodup_nil, fun i z R p e => by simp at e⟩, rfl, ⟨Nat.zero_le _, fun i p R _ e => by simp at e⟩⟩ (fun i σ H' _ z => SqL.of (z.1 _ _ pa.a)) ?_ ?_⟩
    · rintro i x σ H' hx ⟨S, zs, Rs, o3, rfl, fz, tb, lR, gt⟩
      obtain ⟨p, hp, px⟩ := (pa.same S).at hx
      have hpR : parts[Rs.length]? = some p := by rw [lR]; exact hp
      have hi : i < parts.length := (List.getElem?_eq_some_iff.mp hp).1
      have lz := tb.l
      cases px with
      | lf r u o sv hu =>
        obtain ⟨tl, te⟩ := tab_leaf (P := P) (lv i o hp)
        refine ⟨_, rfl, r, _, 0, .str "leaf", rfl, rfl, sv, rfl, rfl, _, rfl, iteBB (fun _ => ?_) (fun hc => absurd hc (by decide +kernel))⟩
        refine ⟨_, rfl, .inl ⟨rfl, _, SqL.of tb.a⟩, _, rfl, r, _, 1, u, rfl, rfl, sv, rfl, two_le, fun t ht => ⟨(by show 1 ≤ sizeLine; decide), fun L hL => ?_⟩⟩
        have S1 := Same.upd (o := .tup [u, .ref cW]) ht
        have d1 : DatAt K (upd H' t (.tup [u, .ref cW])) (.ref t) (parD 1 (o, 1)) := datAt_pr (p := (o, frD (low 1 1))) (SqT.of upd_same) (hu.same S1) (datAt_fr (p := low 1 1) (T3.whole _))
        generalize upd H' t (.tup [u, .ref cW]) = H1 at S1 d1 hL
        have S2 := Same.upd (o := .lst [.ref t]) hL
        have l2 : LsM K (upd H1 L (.lst [.ref t])) L ([(o, 1)].map (parD (Ts (Dw P) (site P.length (.lf o))))) := by
          rw [te]
          exact ⟨_, upd_same, .cons (d1.same S2) .nil⟩
        generalize upd H1 L (.lst [.ref t]) = H2 at S2 l2
        have tb2 := tb.same (S1.trans S2)
        have nLZ : L ≠ Z := (ne_of_none (S1 _ _ tb.a) hL).symm
        refine ⟨Z, _, _, rfl, rfl, tb2.a, Nat.lt_of_le_of_lt (show (zs.map V.ref).length ≤ 100 by rw [List.length_map]; omega) (by decide), ?_⟩
        refine ⟨fun b ob eb => ?_, zs ++ [L], Rs ++ [[(o, 1)]], _, rfl, snoc_free fz (S.free (S1.free hL)), tb2.push hpR l2 nLZ (tb.fresh (by omega) (S1.free hL)), by rw [List.length_append, lR]; rfl, gt.snoc gp hpR tl (.lf o)⟩
        rw [upd_ne (ne_of_none eb hZ)]
        exact S2 _ _ (S1 _ _ (S _ _ eb))
      | ask r l kk ch sv hlc ne =>
        obtain ⟨d, hd, lch, hch⟩ := gp i kk ch hp
        obtain ⟨q, hq, lq, gd, hDw⟩ := (da.same S).at hd
        have hch2 : ∀ c ∈ ch, c < Rs.length ∧ kk < siteAt P parts c := fun c hc => by
          obtain ⟨h1, p', h2, h3⟩ := hch c hc
          refine ⟨by omega, ?_⟩
          unfold siteAt
          rw [List.getD_eq_getElem?_getD, h2]
          exact h3
        obtain ⟨pb, fin⟩ := ask_ok (da.same S) cl gt hd gd lch hch2 (fun c => zs.getD c 0)
        refine ⟨_, rfl, r, _, 0, .str "ask", rfl, rfl, sv, rfl, rfl, _, rfl, iteBB (fun hc => absurd hc (by decide +kernel)) (fun _ => ?_)⟩
        refine ⟨_, rfl, .inl ⟨rfl, _, SqL.of tb.a⟩, _, rfl, _, rfl, r, _, 1, nI kk, rfl, rfl, sv, rfl, DA, _, _, .ref q.1, rfl, rfl, SqL.of (da.same S).ll.at_, atI_nat (by rw [List.getElem?_map, hq]; rfl), ?_⟩
        refine ⟨_, rfl, r, _, 2, .ref l, rfl, rfl, sv, rfl, l, rfl, ⟨_, SqL.of hlc⟩, fun D hD => ?_⟩
        refine comp_list (K := K) (a := l) (D := D) (xs := ch.map nI) (fun j σ ys H2 => (∃ o1, σ = [o1, some (.ref Z)]) ∧ Same H' H2 ∧ H2 D = some (.lst ys) ∧ ys = (ch.take j).map fun c => V.ref (zs.getD c 0))
          ⟨⟨none, rfl⟩, .upd hD, upd_same, rfl⟩ ?_ ?_ ?_
        · rintro j σ ys H2 hj ⟨_, S2, eD, rfl⟩
          have := gd.l1
          exact ⟨SqL.of (S2 _ _ hlc), eD, Nat.lt_of_le_of_lt (show ((ch.take j).map fun c => V.ref (zs.getD c 0)).length ≤ 100 by rw [List.length_map, List.length_take]; omega) (by decide)⟩
        · rintro j y σ ys H2 hy ⟨⟨o1, rfl⟩, S2, eD, rfl⟩ N hN
          obtain ⟨c, hc, rfl⟩ := map_get hy
          have hcl := (hch2 c (List.mem_of_getElem? hc)).1
          have hzc : zs[c]? = some (zs.getD c 0) := by
            rw [List.getD_eq_getElem?_getD, List.getElem?_eq_getElem (by omega)]
            rfl
          refine iteT (B := True) ?_
          refine ⟨_, rfl, _, rfl, Z, _, _, .ref (zs.getD c 0), rfl, rfl, SqL.of (S2 _ _ tb.a), atI_nat (by rw [List.getElem?_map, hzc]; rfl), eD, hN _ _ _ ⟨⟨_, rfl⟩, fun b ob eb => ?_, upd_same, by rw [take_snoc' hc, List.map_append]; rfl⟩⟩
          rw [upd_ne (ne_of_none eb hD)]
          exact S2 _ _ eb
        · rintro σ ys H2 ⟨_, S2, eD, rfl⟩
          rw [List.length_map, List.take_of_length_le (Nat.le_refl _)] at eD
          have tb2 := tb.same S2
          refine ⟨q.1, D, d, Ts (Dw P) (kk + 1), ch.map fun c => (zs.getD c 0, up (qq P parts kk c) (Rs.getD c [])), cov, rfl, lq.same S2, gd, by rw [List.map_map]; exact eD, by rw [List.length_map]; exact lch, fun x hxc => ?_, pb, fun es srt mem L H3 S3 hL lL => ?_⟩
          · obtain ⟨c, hc, rfl⟩ := List.mem_map.mp hxc
            obtain ⟨hcl, hck⟩ := hch2 c hc
            obtain ⟨q0, q1⟩ := qq_ok da.good hd hck
            have e1 : zs[c]? = some (zs.getD c 0) := by
              rw [List.getD_eq_getElem?_getD, List.getElem?_eq_getElem (by omega)]
              rfl
            have e2 : Rs[c]? = some (Rs.getD c []) := by
              rw [List.getD_eq_getElem?_getD, List.getElem?_eq_getElem hcl]
              rfl
            have e3 : parts[c]? = some (parts.getD c (.lf .non)) := by
              rw [List.getD_eq_getElem?_getD, List.getElem?_eq_getElem (by omega)]
              rfl
            have := (tb2.t c _ _ _ e1 e2 e3).1
            show LsM K H2 (zs.getD c 0) ((up (qq P parts kk c) (Rs.getD c [])).map (parD (Ts (Dw P) (kk + 1))))
            rw [← q1, par_up (Ts_pos da.good _) q0]
            exact this
          · obtain ⟨tn, sn⟩ := fin es srt mem
            have tb3 := tb2.same S3
            have nLZ : L ≠ Z := (ne_of_none (S2 _ _ tb.a) hL).symm
            refine ⟨Z, _, _, rfl, rfl, tb3.a, Nat.lt_of_le_of_lt (show (zs.map V.ref).length ≤ 100 by rw [List.length_map]; omega) (by decide), ?_⟩
            have eT : Ts (Dw P) (site P.length (.ask kk ch)) = (wts d).sum * Ts (Dw P) (kk + 1) := Ts_succ hDw
            refine ⟨fun b ob eb => ?_, zs ++ [L], Rs ++ [_], _, rfl, snoc_free fz (S.free (S2.free hL)), tb3.push hpR (by rw [eT]; exact lL) nLZ (tb2.fresh (by omega) hL), by rw [List.length_append, lR]; rfl, gt.snoc gp hpR tn (.ask kk ch d _ hd sn)⟩
            rw [upd_ne (ne_of_none eb hZ)]
            exact S3 _ _ (S2 _ _ (S _ _ eb))
    · rintro σ H' ⟨S, zs, Rs, o3, rfl, fz, tb, lR, gt⟩
      exact ⟨_, rfl, k Z H' zs Rs S hZ fz tb (by omega) gt⟩
end
end K40
namespace K40
open PySem L2 FW PyProof.Rows
open M44 hiding Prt site Gv Gs hvs way
section
variable {X : Cx}
theorem call_isiA : CallR X (.builtin "isinstance") (fun xs H Q => ∃ x n t b, xs = [x, .ty n] ∧ ((TyOf X.K H x (.type t) ∧ PySem.W.kitOne X.K (.type t) (.type n) = some b) ∨ (∃ a vs, x = .ref a ∧ SqT X.K H a vs ∧ PySem.W.kitOne X.K (.type "tuple") (.type n) = some b)) ∧ Q (.bl b) H) := by
  intro pins s σ H xs us Q I r h
  obtain ⟨x, n, t, b, e, hk, q⟩ := h
  rcases hk with ⟨ty, k⟩ | ⟨a, vs, rfl, sq, k⟩
  · exact call_isi pins s σ H xs us Q I r ⟨x, n, _, b, e, ty, k, q⟩
  · exact call_isiT pins s σ H xs us Q I r ⟨a, vs, n, b, e, sq, k, q⟩
theorem call_lenB : CallR X (.builtin "len") (fun xs H Q => ∃ p ys, xs = [.ref p] ∧ (SqL X.K H p ys ∨ SqT X.K H p ys) ∧ (ys.length ≤ sizeLine → Q (.int ys.length) H)) := by
  intro pins s σ H xs us Q I r h
  obtain ⟨p, ys, e, hs, q⟩ := h
  have b : ys.length ≤ sizeLine := by
    rcases hs with hs | hs
    · obtain ⟨_, _, _, hz⟩ := I.list hs
      exact hz
    · obtain ⟨_, _, _, hz⟩ := I.tuple hs
      exact hz
  exact call_len_seq pins s σ H xs us Q I r ⟨p, ys, e, hs, q b⟩
def rIxA (K : PySem.W.Frag) : R2 := fun x y H Q => ∃ p xs i v, x = .ref p ∧ y = .int i ∧ (SqL K H p xs ∨ SqT K H p xs) ∧ atI xs i = some v ∧ Q v H
theorem ix_any : IxR X (rIxA X.K) := by
  intro value slice pins s σ H x y v u Q I rx ry h hs
  obtain ⟨p, xs, i, z, e1, e2, hq, he, q⟩ := h
  rcases hq with hq | hq
  · exact ix_list value slice pins s σ H x y v u Q I rx ry ⟨p, xs, i, z, e1, e2, hq, he, q⟩ hs
  · exact ix_tup value slice pins s σ H x y v u Q I rx ry ⟨p, xs, i, z, e1, e2, hq, he, q⟩ hs
end
section
variable {K : PySem.W.Frag}
theorem kit_ib : PySem.W.kitOne K (.type "int") (.type "bool") = some false := kit_ff (by decide +kernel) (by decide +kernel) (by decide +kernel)
theorem kit_it : PySem.W.kitOne K (.type "int") (.type "tuple") = some false := kit_ff (by decide +kernel) (by decide +kernel) (by decide +kernel)
theorem kit_il : PySem.W.kitOne K (.type "int") (.type "list") = some false := kit_ff (by decide +kernel) (by decide +kernel) (by decide +kernel)
theorem kit_tl : PySem.W.kitOne K (.type "tuple") (.type "list") = some false := kit_ff (by decide +kernel) (by decide +kernel) (by decide +kernel)
theorem kit_lt : PySem.W.kitOne K (.type "list") (.type "tuple") = some false := kit_ff (by decide +kernel) (by decide +kernel) (by decide +kernel)
theorem kit_st : PySem.W.kitOne K (.type "str") (.type "tuple") = some false := kit_ff (by decide +kernel) (by decide +kernel) (by decide +kernel)
theorem kit_sl : PySem.W.kitOne K (.type "str") (.type "list") = some false := kit_ff (by decide +kernel) (by decide +kernel) (by decide +kernel)
theorem kit_si : PySem.W.kitOne K (.type "str") (.type "int") = some false := kit_ff (by decide +kernel) (by decide +kernel) (by decide +kernel)
theorem kit_nt : PySem.W.kitOne K (.type "NoneType") (.type "tuple") = some false := kit_ff (by decide +kernel) (by decide +kernel) (by decide +kernel)
theorem kit_nl : PySem.W.kitOne K (.type "NoneType") (.type "list") = some false := kit_ff (by decide +kernel) (by decide +kernel) (by decide +kernel)
end
def sp_cell (K : PySem.W.Frag) : Sp := fun vs H Q _ => ∃ (a : Addr) (ns : List Int) (k : Nat), vs = [.ref a, nI k] ∧ SqL K H a (ns.map V.int) ∧ ∀ c : Int, Q (.int c) H
def sp_mix : Sp := fun vs H Q _ => ∃ c k : Int, vs = [.int c, .int k] ∧ 0 ≤ k ∧ k ≤ 1000 ∧ ∀ m : Int, 0 ≤ m → m < 2147483587 → Q (.int m) H
def sp_whole : Sp := fun vs H Q _ => ∃ i, vs = [.int i] ∧ Q (.bl true) H
def sp_ldiv : Sp := fun vs H Q _ => ∃ a b : Int, vs = [.int a, .int b] ∧ 0 ≤ a ∧ 0 ≤ b ∧ Q (.int (g a b)) H
def sp_share (K : PySem.W.Frag) : Sp := fun vs H Q _ => ∃ (r : Addr) (a b : Int), vs = [.ref r] ∧ SqT K H r [.int a, .int b] ∧ 0 ≤ a ∧ Low a b ∧ Q (.bl true) H
section
variable {P : Program} {w : World} {K : PySem.W.Frag} {mg : Str → Option Value} {base : Heap} {cN : Addr}
theorem ok_law_cell_at {f : Addr} {fd : FuncData} (A : FnAt K mg "_law_cell_at" s_law_cell_at ["_law_script", "_law_k"] f fd) (T : Txt K mg cN) : FnOk P w K mg base CX0 1 f fd ["_law_script", "_law_k"] (sp_cell K) := by
  refine A.F.ok sc_law_cell_at (fun vs H Q E h => ?_) (fun cdv Ar outer s H vs Q E hr h => ?_)
  · obtain ⟨a, ns, k, rfl, _⟩ := h
    rfl
  · obtain ⟨a, ns, k, rfl, ha, q⟩ := h
    refine ⟨_, (pss_cons (ps_if (pt_cmpR op_lt (pv 1) (pe_callB call_len_seq (by rfl) T.len_ Boot.«len» (pa_cons (pv 0) pa_nil)) (nomark _)) (pss_one (ps_ret (pe_ix ix_list (pv 0) (pv 1) (fun _ _ => rfl)))) pss_nil)
      (pss_one (ps_ret pe_int))), ?_⟩
    refine ⟨_, rfl, _, rfl, a, _, rfl, .inl ha, _, _, rfl, rfl, _, rfl, iteBB (fun hc => ?_) (fun _ => q 0)⟩
    have hk : k < ns.length := by
      have := of_decide_eq_true hc
      rw [List.length_map] at this
      omega
    exact ⟨_, rfl, _, rfl, a, _, _, .int ns[k], rfl, rfl, ha, atI_nat (by simp [hk]), q _⟩
theorem ok_law_mix {f : Addr} {fd : FuncData} (A : FnAt K mg "_law_mix" s_law_mix ["_law_cell", "_law_k"] f fd) : FnOk P w K mg base CX0 1 f fd ["_law_cell", "_law_k"] sp_mix := by
  refine A.F.ok sc_law_mix (fun vs H Q E h => ?_) (fun cdv Ar outer s H vs Q E hr h => ?_)
  · obtain ⟨a, b, rfl, _⟩ := h
    rfl
  · obtain ⟨n, k, rfl, k0, k1, q⟩ := h
    refine ⟨_, (pss_cons (ps_set (i := 2) sc_law_mix.nd rfl (Or.inl rfl) (pe_op op_mod (pe_op op_mulB (pe_op op_add (pe_op op_add (pe_op op_add (pe_op op_mod (pv 0) pe_int) (pe_op op_mulB (pe_op op_mulB pe_int (pv 1)) (pv 1))) (pv 1)) pe_int) pe_int) pe_int))
      (pss_one (ps_ret (pe_op op_mod (pe_op op_mulB (pv 2) (pv 2)) pe_int)))), ?_⟩
    refine ⟨_, rfl, _, _, rfl, rfl, (by show (0 : Int) < 2147483647; decide), _, rfl, _, _, rfl, rfl, small_mul (by omega), _, rfl, _, _, rfl, rfl, small_mul (by omega), _, _, rfl, rfl, _, rfl, _, _, rfl, rfl, _, _, rfl, rfl, _, _, rfl, rfl, small_mul (by decide), _, _, rfl, rfl, (by show (0 : Int) < 2147483629; decide), ?_⟩
    dsimp only
    have m0 := Int.emod_nonneg ((n % 2147483647 + 7919 * k * k + k + 1) * 48271) (show (2147483629 : Int) ≠ 0 by decide)
    have m1 := Int.emod_lt_of_pos ((n % 2147483647 + 7919 * k * k + k + 1) * 48271) (show (0 : Int) < 2147483629 by decide)
    generalize (n % 2147483647 + 7919 * k * k + k + 1) * 48271 % 2147483629 = m at m0 m1
    refine ⟨_, rfl, _, rfl, _, _, rfl, rfl, small_mul (by omega), _, _, rfl, rfl, (by show (0 : Int) < 2147483587; decide), ?_⟩
    exact q _ (Int.emod_nonneg _ (by decide)) (Int.emod_lt_of_pos _ (by decide))
theorem ok_law_whole {f : Addr} {fd : FuncData} (A : FnAt K mg "_law_whole" s_law_whole ["_law_found"] f fd) (T : Txt K mg cN) : FnOk P w K mg base CX0 1 f fd ["_law_found"] sp_whole := by
  refine A.F.ok sc_law_whole (fun vs H Q E h => ?_) (fun cdv Ar outer s H vs Q E hr h => ?_)
  · obtain ⟨a, rfl, _⟩ := h
    rfl
  · obtain ⟨i, rfl, k⟩ := h
    refine ⟨_, (pss_one (ps_ret (pe_and (pe_callB call_isiA (by rfl) T.isinstance_ Boot.«isinstance» (pa_cons (pv 0) (pa_cons (pe_bltn rfl T.int_ Boot.«int» (v := .ty "int") rfl) pa_nil))) (pe_one (pe_not (pe_callB call_isiA (by rfl) T.isinstance_ Boot.«isinstance» (pa_cons (pv 0) (pa_cons (pe_bltn rfl T.bool_ Boot.«bool» (v := .ty "bool") rfl) pa_nil)))))))), ?_⟩
    refine ⟨_, rfl, _, _, _, _, rfl, .inl ⟨.int i, rfl⟩, _, rfl, iteT ?_⟩
    exact ⟨_, rfl, _, _, _, _, rfl, .inl ⟨.int i, kit_ib⟩, _, rfl, k⟩
theorem ok_law_divisor {f : Addr} {fd : FuncData} (A : FnAt K mg "_law_divisor" s_law_divisor ["_law_one", "_law_other"] f fd) : FnOk P w K mg base CX0 1 f fd ["_law_one", "_law_other"] sp_ldiv := by
  refine A.F.ok sc_law_divisor (fun vs H Q E h => ?_) (fun cdv Ar outer s H vs Q E hr h => ?_)
  · obtain ⟨a, b, rfl, _⟩ := h
    rfl
  · obtain ⟨a, b, rfl, ha, hb, k⟩ := h
    refine ⟨_, (pss_cons (ps_while PassesOwn.never (pt_cmpR op_gt (pv 1) pe_int (nomark _)) (pss_one (ps_par (i := 0) (j := 1) rfl sc_law_divisor.nd rfl rfl (by decide) rfl rfl (pa_cons (pv 1) (pa_cons (pe_op op_mod (pv 0) (pv 1)) pa_nil)) (by rfl))))
      (pss_one (ps_ret (pv 0)))), ?_⟩
    refine while_by (fun σ H' => H' = H ∧ ∃ (x y : Int), σ = [some (.int x), some (.int y)] ∧ 0 ≤ x ∧ 0 ≤ y ∧ Int.gcd x y = Int.gcd a b)
      (fun σ _ => match σ with | [_, some (.int y)] => y.toNat | _ => 0) ⟨rfl, _, _, rfl, ha, hb, rfl⟩ ?_ ?_
    · rintro σ H' ⟨rfl, x, y, rfl, hx, hy, hg⟩
      refine ⟨_, rfl, _, _, rfl, rfl, _, rfl, ?_⟩
      refine iteBB (fun hc => ?_) (fun hc => ?_)
      rotate_left
      · have h0 : y = 0 := by
          have := of_decide_eq_false hc
          omega
        subst h0
        refine ⟨_, rfl, ?_⟩
        rw [gcd_end hx hg]
        exact k
      · have h0 : 0 < y := by simpa using hc
        refine ⟨_, rfl, _, rfl, _, rfl, _, _, rfl, rfl, (by show (0 : Int) < y; omega), _, _, rfl, ⟨rfl, _, _, rfl, hy, Int.emod_nonneg _ (by omega), ?_⟩, ?_⟩
        · rw [← hg, g_step]
        · show (x % y).toNat < y.toNat
          have := Int.emod_lt_of_pos x h0
          omega
    · rintro σ H' Q1 Q2 hq ⟨v, e, i, j, h1, h2, b, e2, h3⟩
      exact ⟨v, e, i, j, h1, h2, b, e2, hq _ _ h3⟩
theorem ok_law_is_share {f fW fD : Addr} {fd dW dD : FuncData} (A : FnAt K mg "_law_is_share" s_law_is_share ["_law_found"] f fd) (A_law_whole : FnAt K mg "_law_whole" s_law_whole ["_law_found"] fW dW) (A_law_divisor : FnAt K mg "_law_divisor" s_law_divisor ["_law_one", "_law_other"] fD dD) (T : Txt K mg cN) : FnOk P w K mg base CX0 2 f fd ["_law_found"] (sp_share K) := by
  have G_law_whole : FnOk P w K mg base CX0 1 fW dW _ sp_whole := ok_law_whole A_law_whole T
  have G_law_divisor : FnOk P w K mg base CX0 1 fD dD _ sp_ldiv := ok_law_divisor A_law_divisor
  refine A.F.ok (k := 1) sc_law_is_share (fun vs H Q E h => ?_) (fun cdv Ar outer s H vs Q E hr h => ?_)
  · obtain ⟨r, a, b, rfl, _⟩ := h
    rfl
  · obtain ⟨r, a, b, rfl, sv, ha, lo, k⟩ := h
    refine ⟨_, (pss_cons (ps_if (PW.pt (pw_or (pt_not (pt_val (pe_callB call_isiA (by rfl) T.isinstance_ Boot.«isinstance» (pa_cons (pv 0) (pa_cons (pe_bltn rfl T.tuple_ Boot.«tuple» (v := .ty "tuple") rfl) pa_nil))))) (pw_or (pt_cmpR op_ne (pe_callB call_len_seq (by rfl) T.len_ Boot.«len» (pa_cons (pv 0) pa_nil)) pe_int (nomark _)) (pw_or (pt_not (pt_val (pe_call G_law_whole (hr.mono (by decide)) rfl A_law_whole.m A_law_whole.F.kp A_law_whole.b .nil pass0 (pa_cons (pe_ix ix_tup (pv 0) pe_int (fun _ _ => rfl)) pa_nil)))) (pw_or1 (pt_not (pt_val (pe_call G_law_whole (hr.mono (by decide)) rfl A_law_whole.m A_law_whole.F.kp A_law_whole.b .nil pass0 (pa_cons (pe_ix ix_tup (pv 0) pe_int (fun _ _ => rfl)) pa_nil))))))))) (pss_one (ps_ret pe_bl)) pss_nil)
      (pss_one (ps_ret (pe_and (pe_cmpR op_ge (pe_ix ix_tup (pv 0) pe_int (fun _ _ => rfl)) pe_int (nomark _)) (pe_and (pe_cmpR op_gt (pe_ix ix_tup (pv 0) pe_int (fun _ _ => rfl)) pe_int (nomark _)) (pe_one (pe_cmpR op_eq (pe_call G_law_divisor (hr.mono (by decide)) rfl A_law_divisor.m A_law_divisor.F.kp A_law_divisor.b .nil pass0 (pa_cons (pe_ix ix_tup (pv 0) pe_int (fun _ _ => rfl)) (pa_cons (pe_ix ix_tup (pv 0) pe_int (fun _ _ => rfl)) pa_nil))) pe_int (nomark _)))))))), ?_⟩
    refine ⟨_, rfl, _, _, "tuple", _, rfl, .inr ⟨r, _, rfl, sv, rfl⟩, _, rfl, iteF ?_⟩
    refine ⟨_, rfl, r, _, rfl, .inr sv, rfl, _, rfl, iteF ?_⟩
    refine ⟨_, rfl, r, _, 0, .int a, rfl, rfl, sv, rfl, a, rfl, _, rfl, iteF ?_⟩
    refine ⟨_, rfl, r, _, 1, .int b, rfl, rfl, sv, rfl, b, rfl, _, rfl, iteF ?_⟩
    refine ⟨_, rfl, r, _, 0, .int a, rfl, rfl, sv, rfl, _, _, rfl, rfl, _, rfl, iteBB (fun _ => ?_) (fun hc => absurd ha (of_decide_eq_false hc))⟩
    refine ⟨_, rfl, r, _, 1, .int b, rfl, rfl, sv, rfl, _, _, rfl, rfl, _, rfl, iteBB (fun _ => ?_) (fun hc => absurd lo.pos (of_decide_eq_false hc))⟩
    refine ⟨_, rfl, r, _, 0, .int a, rfl, rfl, sv, rfl, _, rfl, r, _, 1, .int b, rfl, rfl, sv, rfl, a, b, rfl, ha, Int.le_of_lt lo.pos, rfl, ?_⟩
    have e : g a b = 1 := by
      show ((Int.gcd a b : Nat) : Int) = 1
      rw [lo.cop]
      rfl
    dsimp only
    rw [e, decide_eq_true rfl]
    exact k
end
inductive Al (K : PySem.W.Frag) (H : Hp) : Nat → V → V → Prop
  | non {h : Nat} : Al K H h .non .non
  | int {h : Nat} (i : Int) : Al K H h (.int i) (.int i)
  | str {h : Nat} (i : Str) : Al K H h (.str i) (.str i)
  | tup {h : Nat} (r q : Addr) (vs us : List V) (s1 : SqT K H r vs) (s2 : SqT K H q us) (l : vs.length = us.length) (a : ∀ (i : Nat) (x y : V), vs[i]? = some x → us[i]? = some y → Al K H h x y) : Al K H (h + 1) (.ref r) (.ref q)
  | lst {h : Nat} (r q : Addr) (vs us : List V) (s1 : H r = some (.lst vs)) (s2 : H q = some (.lst us)) (l : vs.length = us.length) (a : ∀ (i : Nat) (x y : V), vs[i]? = some x → us[i]? = some y → Al K H h x y) : Al K H (h + 1) (.ref r) (.ref q)
theorem Al.of {K : PySem.W.Frag} {H : Hp} : ∀ (h : Nat) {d : Dt} {v u : V}, d.hgt ≤ h → DatAt K H v d → DatAt K H u d → Al K H h v u := by
  intro h
  induction h with
  | zero =>
    intro d v u hd h1 h2
    cases d with
    | non => rw [h1.non_eq, h2.non_eq]; exact .non
    | int i => rw [h1.int_eq, h2.int_eq]; exact .int i
    | str i => rw [h1.str_eq, h2.str_eq]; exact .str i
    | tup ds => simp [Dt.hgt] at hd
  | succ h ih =>
    intro d v u hd h1 h2
    cases d with
    | non => rw [h1.non_eq, h2.non_eq]; exact .non
    | int i => rw [h1.int_eq, h2.int_eq]; exact .int i
    | str i => rw [h1.str_eq, h2.str_eq]; exact .str i
    | tup ds =>
      obtain ⟨r, vs, rfl, s1, d1⟩ := h1.un
      obtain ⟨q, us, rfl, s2, d2⟩ := h2.un
      refine .tup r q vs us s1 s2 (by rw [d1.length, d2.length]) fun i x y e1 e2 => ?_
      obtain ⟨dx, ex, hx⟩ := d1.get' e1
      obtain ⟨dy, ey, hy⟩ := d2.get' e2
      rw [ex] at ey
      cases ey
      have hm : ∀ {ds : List Dt} {x : Dt}, x ∈ ds → x.hgt ≤ Dt.hgts ds := by
        intro ds
        induction ds with
        | nil => intro x h; cases h
        | cons y ds ih2 =>
          intro x h
          rw [Dt.hgts]
          rcases List.mem_cons.mp h with z | z
          · rw [z]; omega
          · have := ih2 z; omega
      have := hm (List.mem_of_getElem? ex)
      simp only [Dt.hgt] at hd
      exact ih (by omega) hx hy
def sp_same (K : PySem.W.Frag) (h : Nat) : Sp := fun vs H Q _ => ∃ v u, vs = [v, u] ∧ Al K H h v u ∧ Q (.bl true) H
theorem sizeLine62 : (sizeLine : Int) < 2 ^ 62 := by decide +kernel
section
variable {P : Program} {w : World} {K : PySem.W.Frag} {mg : Str → Option Value} {base : Heap} {cN : Addr}
set_option maxHeartbeats 4000000 in
theorem ok_law_same {f fW : Addr} {fd dW : FuncData} (A_law_same : FnAt K mg "_law_same" s_law_same ["_law_found", "_law_due_here"] f fd) (A_law_whole : FnAt K mg "_law_whole" s_law_whole ["_law_found"] fW dW) (T : Txt K mg cN) : ∀ h : Nat, FnOk P w K mg base CX0 (h + 2) f fd ["_law_found", "_law_due_here"] (sp_same K h) := fun h => by
  have GG : ∃ sp, FnOk P w K mg base CX0 (h + 1) f fd ["_law_found", "_law_due_here"] sp ∧ (∀ h', h = h' + 1 → sp = sp_same K h') := by
    cases h with
    | zero => exact ⟨_, FnOk.no, fun h' z => nomatch z⟩
    | succ N => exact ⟨_, ok_law_same A_law_same A_law_whole T N, fun h' z => by cases z; rfl⟩
  obtain ⟨sp, G_law_same, esp⟩ := GG
  have G_law_whole : FnOk P w K mg base CX0 1 fW dW _ sp_whole := ok_law_whole A_law_whole T
  refine A_law_same.F.ok (k := h + 1) sc_law_same (fun vs H Q E h => ?_) (fun cdv Ar outer s H vs Q E hr h => ?_)
  · obtain ⟨v, u, rfl, _⟩ := h
    rfl
  · obtain ⟨v, u, rfl, al, k⟩ := h
    refine ⟨_, (pss_cons (ps_if (PW.pt (pw_or (pt_val (pe_callB call_isiA (by rfl) T.isinstance_ Boot.«isinstance» (pa_cons (pv 1) (pa_cons (pe_bltn rfl T.tuple_ Boot.«tuple» (v := .ty "tuple") rfl) pa_nil)))) (pw_or1 (pt_val (pe_callB call_isiA (by rfl) T.isinstance_ Boot.«isinstance» (pa_cons (pv 1) (pa_cons (pe_bltn rfl T.list_ Boot.«list» (v := .ty "list") rfl) pa_nil))))))) (pss_cons (ps_if (PW.pt (pw_or (pt_cmpR op_ne (pe_callB call_isiA (by rfl) T.isinstance_ Boot.«isinstance» (pa_cons (pv 0) (pa_cons (pe_bltn rfl T.tuple_ Boot.«tuple» (v := .ty "tuple") rfl) pa_nil))) (pe_callB call_isiA (by rfl) T.isinstance_ Boot.«isinstance» (pa_cons (pv 1) (pa_cons (pe_bltn rfl T.tuple_ Boot.«tuple» (v := .ty "tuple") rfl) pa_nil))) (nomark _)) (pw_or1 (pt_cmpR op_ne (pe_callB call_isiA (by rfl) T.isinstance_ Boot.«isinstance» (pa_cons (pv 0) (pa_cons (pe_bltn rfl T.list_ Boot.«list» (v := .ty "list") rfl) pa_nil))) (pe_callB call_isiA (by rfl) T.isinstance_ Boot.«isinstance» (pa_cons (pv 1) (pa_cons (pe_bltn rfl T.list_ Boot.«list» (v := .ty "list") rfl) pa_nil))) (nomark _))))) (pss_one (ps_ret pe_bl)) pss_nil)
      (pss_cons (ps_if (pt_cmpR op_ne (pe_callB call_lenB (by rfl) T.len_ Boot.«len» (pa_cons (pv 0) pa_nil)) (pe_callB call_lenB (by rfl) T.len_ Boot.«len» (pa_cons (pv 1) pa_nil)) (nomark _)) (pss_one (ps_ret pe_bl)) pss_nil)
      (pss_cons (ps_for PassesOwn.never rfl (pi_range1 rfl T.range_ (pa_cons (pe_callB call_lenB (by rfl) T.len_ Boot.«len» (pa_cons (pv 1) pa_nil)) pa_nil)) (pg_name (i := 2) sc_law_same.nd rfl (Or.inl rfl)) (pss_one (ps_if (pt_not (pt_val (pe_call G_law_same hr rfl A_law_same.m A_law_same.F.kp A_law_same.b .nil pass0 (pa_cons (pe_ix ix_any (pv 0) (pv 2) (fun _ _ => rfl)) (pa_cons (pe_ix ix_any (pv 1) (pv 2) (fun _ _ => rfl)) pa_nil))))) (pss_one (ps_ret pe_bl)) pss_nil)))
      (pss_one (ps_ret pe_bl))))) pss_nil)
      (pss_cons (ps_if (pt_cmpR op_isN (pv 1) pe_non (nomark _)) (pss_one (ps_ret (pe_cmpR op_isN (pv 0) pe_non (nomark _)))) pss_nil)
      (pss_cons (ps_if (pt_val (pe_callB call_isiA (by rfl) T.isinstance_ Boot.«isinstance» (pa_cons (pv 1) (pa_cons (pe_bltn rfl T.int_ Boot.«int» (v := .ty "int") rfl) pa_nil)))) (pss_one (ps_ret (pe_and (pe_call G_law_whole (hr.mono (by omega)) rfl A_law_whole.m A_law_whole.F.kp A_law_whole.b .nil pass0 (pa_cons (pv 0) pa_nil)) (pe_one (pe_cmpR op_eq (pv 0) (pv 1) (nomark _)))))) pss_nil)
      (pss_one (ps_ret (pe_and (pe_callB call_isiA (by rfl) T.isinstance_ Boot.«isinstance» (pa_cons (pv 0) (pa_cons (pe_bltn rfl T.str_ Boot.«str» (v := .ty "str") rfl) pa_nil))) (pe_one (pe_cmpR op_eq (pv 0) (pv 1) (nomark _))))))))), ?_⟩
    cases al with
    | non =>
      refine ⟨_, rfl, _, _, _, _, rfl, .inl ⟨.non, kit_nt⟩, _, rfl, iteF ?_⟩
      refine ⟨_, rfl, _, _, _, _, rfl, .inl ⟨.non, kit_nl⟩, _, rfl, iteF ?_⟩
      refine ⟨_, rfl, rfl, _, rfl, iteT ?_⟩
      exact ⟨_, rfl, rfl, k⟩
    | int i =>
      refine ⟨_, rfl, _, _, _, _, rfl, .inl ⟨.int i, kit_it⟩, _, rfl, iteF ?_⟩
      refine ⟨_, rfl, _, _, _, _, rfl, .inl ⟨.int i, kit_il⟩, _, rfl, iteF ?_⟩
      refine ⟨_, rfl, rfl, _, rfl, iteBB (fun hc => absurd (of_decide_eq_true hc) (fun z => nomatch z)) (fun _ => ?_)⟩
      refine ⟨_, rfl, _, _, _, _, rfl, .inl ⟨.int i, rfl⟩, _, rfl, iteT ?_⟩
      refine ⟨_, rfl, i, rfl, _, rfl, iteT ?_⟩
      refine ⟨_, rfl, _, rfl, rfl, ?_⟩
      rw [decide_eq_true rfl]
      exact k
    | str i =>
      refine ⟨_, rfl, _, _, _, _, rfl, .inl ⟨.str i, kit_st⟩, _, rfl, iteF ?_⟩
      refine ⟨_, rfl, _, _, _, _, rfl, .inl ⟨.str i, kit_sl⟩, _, rfl, iteF ?_⟩
      refine ⟨_, rfl, rfl, _, rfl, iteBB (fun hc => absurd (of_decide_eq_true hc) (fun z => nomatch z)) (fun _ => ?_)⟩
      refine ⟨_, rfl, _, _, _, _, rfl, .inl ⟨.str i, kit_si⟩, _, rfl, iteF ?_⟩
      refine ⟨_, rfl, _, _, _, _, rfl, .inl ⟨.str i, rfl⟩, _, rfl, iteT ?_⟩
      refine ⟨_, rfl, _, rfl, rfl, ?_⟩
      rw [decide_eq_true rfl]
      exact k
    | tup r q vs us s1 s2 l a =>
      cases esp _ rfl
      refine ⟨_, rfl, _, _, "tuple", _, rfl, .inr ⟨q, _, rfl, s2, rfl⟩, _, rfl, iteT ?_⟩
      refine ⟨_, rfl, _, _, "tuple", _, rfl, .inr ⟨r, _, rfl, s1, rfl⟩, _, rfl, _, _, "tuple", _, rfl, .inr ⟨q, _, rfl, s2, rfl⟩, rfl, _, rfl, iteF ?_⟩
      refine ⟨_, rfl, _, _, "tuple", _, rfl, .inr ⟨r, _, rfl, s1, kit_tl⟩, _, rfl, _, _, "tuple", _, rfl, .inr ⟨q, _, rfl, s2, kit_tl⟩, rfl, _, rfl, iteF ?_⟩
      refine ⟨_, rfl, r, vs, rfl, .inr s1, fun _ => ⟨_, rfl, q, us, rfl, .inr s2, fun _ => ⟨rfl, _, rfl, ?_⟩⟩⟩
      rw [l]
      refine iteBB (fun hc => by simp at hc) (fun _ => ?_)
      refine ⟨_, rfl, q, us, rfl, .inr s2, fun hz => ?_⟩
      have z62 := sizeLine62
      refine ⟨_, rfl, by omega, by omega, for_range (lo := 0) (fun i σ H' => H' = H ∧ ∃ o2, σ = [some (.ref r), some (.ref q), o2]) ⟨rfl, none, rfl⟩ ?_ (fun σ H' z => by rw [z.1]; exact k)⟩
      rintro i σ H' hi ⟨rfl, o2, rfl⟩
      have hi' : i < us.length := by omega
      have hx : vs[i]? = some vs[i] := List.getElem?_eq_getElem (by omega)
      have hy : us[i]? = some us[i] := List.getElem?_eq_getElem hi'
      exact ⟨_, rfl, _, rfl, r, vs, _, _, rfl, rfl, .inr s1, atI0 hx, _, rfl, _, rfl, q, us, _, _, rfl, rfl, .inr s2, atI0 hy, _, _, rfl, a i _ _ hx hy, _, rfl, iteF ⟨rfl, _, rfl⟩⟩
    | lst r q vs us s1 s2 l a =>
      cases esp _ rfl
      refine ⟨_, rfl, _, _, _, _, rfl, .inl ⟨.lst s2, kit_lt⟩, _, rfl, iteF ?_⟩
      refine ⟨_, rfl, _, _, _, _, rfl, .inl ⟨.lst s2, rfl⟩, _, rfl, iteT ?_⟩
      refine ⟨_, rfl, _, _, _, _, rfl, .inl ⟨.lst s1, kit_lt⟩, _, rfl, _, _, _, _, rfl, .inl ⟨.lst s2, kit_lt⟩, rfl, _, rfl, iteF ?_⟩
      refine ⟨_, rfl, _, _, _, _, rfl, .inl ⟨.lst s1, rfl⟩, _, rfl, _, _, _, _, rfl, .inl ⟨.lst s2, rfl⟩, rfl, _, rfl, iteF ?_⟩
      refine ⟨_, rfl, r, vs, rfl, .inl (SqL.of s1), fun _ => ⟨_, rfl, q, us, rfl, .inl (SqL.of s2), fun _ => ⟨rfl, _, rfl, ?_⟩⟩⟩
      rw [l]
      refine iteBB (fun hc => by simp at hc) (fun _ => ?_)
      refine ⟨_, rfl, q, us, rfl, .inl (SqL.of s2), fun hz => ?_⟩
      have z62 := sizeLine62
      refine ⟨_, rfl, by omega, by omega, for_range (lo := 0) (fun i σ H' => H' = H ∧ ∃ o2, σ = [some (.ref r), some (.ref q), o2]) ⟨rfl, none, rfl⟩ ?_ (fun σ H' z => by rw [z.1]; exact k)⟩
      rintro i σ H' hi ⟨rfl, o2, rfl⟩
      have hi' : i < us.length := by omega
      have hx : vs[i]? = some vs[i] := List.getElem?_eq_getElem (by omega)
      have hy : us[i]? = some us[i] := List.getElem?_eq_getElem hi'
      exact ⟨_, rfl, _, rfl, r, vs, _, _, rfl, rfl, .inl (SqL.of s1), atI0 hx, _, rfl, _, rfl, q, us, _, _, rfl, rfl, .inl (SqL.of s2), atI0 hy, _, _, rfl, a i _ _ hx hy, _, rfl, iteF ⟨rfl, _, rfl⟩⟩
end
end K40
namespace K40
open PySem L2 FW PyProof.Rows
open M44 hiding Prt site Gv Gs hvs way Ld Po Bst
def sumN (n : Nat) (f : Nat → Int) : Int := ((List.range n).map f).sum
theorem sumN_congr {n : Nat} {f g : Nat → Int} (h : ∀ j, j < n → f j = g j) : sumN n f = sumN n g := by
  unfold sumN
  rw [List.map_congr_left fun j hj => h j (List.mem_range.mp hj)]
theorem sum_map_mul {α : Type} (c : Int) (f : α → Int) : ∀ l : List α, (l.map fun x => c * f x).sum = c * (l.map f).sum
  | [] => by simp
  | x :: l => by rw [List.map_cons, List.sum_cons, List.map_cons, List.sum_cons, sum_map_mul c f l, Int.mul_add]
theorem sumN_mul (n : Nat) (c : Int) (f : Nat → Int) : sumN n (fun j => c * f j) = c * sumN n f := sum_map_mul c f _
theorem sum_swap {α β : Type} (f : α → β → Int) : ∀ (l : List α) (m : List β), (l.map fun x => (m.map fun y => f x y).sum).sum = (m.map fun y => (l.map fun x => f x y).sum).sum
  | [], m => by
    induction m with
    | nil => rfl
    | cons y m ih =>
      rw [List.map_cons, List.sum_cons, ← ih]
      rfl
  | x :: l, m => by
    rw [List.map_cons, List.sum_cons, sum_swap f l m, ← sum_map_add]
    rfl
theorem sumN_swap (n m : Nat) (f : Nat → Nat → Int) : sumN n (fun i => sumN m fun j => f i j) = sumN m (fun j => sumN n fun i => f i j) := sum_swap f _ _
theorem range_getD {α β : Type} (g : α → β) (d : List α) (z : α) : (List.range d.length).map (fun j => g (d.getD j z)) = d.map g := by
  refine List.ext_getElem (by simp) fun i h1 h2 => ?_
  have hi : i < d.length := by simpa using h1
  simp [List.getElem?_eq_getElem hi]
theorem sumN_sum (d : List Int) : sumN d.length (fun j => d.getD j 0) = d.sum := by
  unfold sumN
  rw [range_getD (fun x => x) d 0, List.map_id']
theorem sumN_zip {β : Type} (f : Int → β → Int) (z : β) (a : List Int) (b : List β) (h : a.length = b.length) : (List.zipWith f a b).sum = sumN a.length fun j => f (a.getD j 0) (b.getD j z) := by
  unfold sumN
  refine congrArg List.sum (List.ext_getElem (by simp [h]) fun i h1 h2 => ?_)
  have hi : i < a.length := by
    rw [List.length_map, List.length_range] at h2
    exact h2
  simp [List.getElem?_eq_getElem hi, List.getElem?_eq_getElem (show i < b.length by omega)]
def E : List (List Int) → (List Nat → Int) → Int
  | [], F => F []
  | d :: D, F => sumN d.length fun j => d.getD j 0 * E D fun r => F (j :: r)
theorem E_congr : ∀ {D : List (List Int)} {F G : List Nat → Int}, (∀ r, F r = G r) → E D F = E D G := fun {D F G} h => by
  rw [show F = G from funext h]
theorem E_const (c : Int) : ∀ D : List (List Int), E D (fun _ => c) = prodI (D.map List.sum) * c
  | [] => by simp [E, prodI]
  | d :: D => by
    show sumN d.length (fun j => d.getD j 0 * E D fun _ => c) = prodI (d.sum :: D.map List.sum) * c
    rw [E_const c D, sumN_congr (g := fun j => prodI (D.map List.sum) * c * d.getD j 0) fun j _ => Int.mul_comm .., sumN_mul, sumN_sum]
    show _ = d.sum * prodI (D.map List.sum) * c
    rw [Int.mul_comm, Int.mul_assoc]
theorem indep : ∀ (D : List (List Int)) (k : Nat) (d : List Int) (F : List Nat → Int) (G : Nat → List Nat → Int), D[k]? = some d → (∀ row, F row = G (row.getD k 0) row) → (∀ j, j < d.length → ∀ row x, G j (row.set k x) = G j row) → E D F * d.sum = sumN d.length fun j => d.getD j 0 * E D (G j)
  | [], k, d, F, G, h, _, _ => by simp at h
  | d :: D, 0, d2, F, G, h, hF, hG => by
    cases h
    have e1 : E (d :: D) F = sumN d.length fun j => d.getD j 0 * E D fun r => G j (0 :: r) := by
      show sumN d.length (fun j => d.getD j 0 * E D fun r => F (j :: r)) = _
      refine sumN_congr fun j hj => ?_
      rw [E_congr (D := D) (G := fun r => G j (0 :: r)) fun r => by
        rw [hF]
        exact (hG j hj (j :: r) 0).symm]
    have e2 : ∀ j, j < d.length → E (d :: D) (G j) = (E D fun r => G j (0 :: r)) * d.sum := fun j hj => by
      show sumN d.length (fun i => d.getD i 0 * E D fun r => G j (i :: r)) = _
      rw [sumN_congr (g := fun i => (E D fun r => G j (0 :: r)) * d.getD i 0) fun i _ => by
        rw [E_congr (D := D) (G := fun r => G j (0 :: r)) fun r => (hG j hj (i :: r) 0).symm]
        exact Int.mul_comm .., sumN_mul, sumN_sum]
    have e3 : sumN d.length (fun j => d.getD j 0 * E (d :: D) (G j)) = sumN d.length fun j => d.sum * (d.getD j 0 * E D fun r => G j (0 :: r)) := sumN_congr fun j hj => by
      rw [e2 j hj, ← Int.mul_assoc, Int.mul_comm]
    rw [e1, e3, sumN_mul, Int.mul_comm]
  | e :: D, k + 1, d, F, G, h, hF, hG => by
    have h' : D[k]? = some d := h
    show sumN e.length (fun i => e.getD i 0 * E D fun r => F (i :: r)) * d.sum = _
    have e1 : ∀ i, (E D fun r => F (i :: r)) * d.sum = sumN d.length fun j => d.getD j 0 * E D fun r => G j (i :: r) := fun i =>
      indep D k d (fun r => F (i :: r)) (fun j r => G j (i :: r)) h' (fun row => hF (i :: row)) (fun j hj row x => hG j hj (i :: row) x)
    have e2 : sumN d.length (fun j => d.getD j 0 * E (e :: D) (G j)) = sumN e.length fun i => sumN d.length fun j => e.getD i 0 * (d.getD j 0 * E D fun r => G j (i :: r)) := by
      rw [sumN_swap]
      refine sumN_congr fun j _ => ?_
      show d.getD j 0 * sumN e.length (fun i => e.getD i 0 * E D fun r => G j (i :: r)) = _
      rw [← sumN_mul]
      exact sumN_congr fun i _ => Int.mul_left_comm ..
    rw [e2, Int.mul_comm, ← sumN_mul]
    refine sumN_congr fun i _ => ?_
    rw [sumN_mul, ← e1 i, Int.mul_comm, Int.mul_assoc]
def longer (rows : List (List Nat)) (w : Nat) : List (List Nat) := rows.flatMap fun r => (List.range w).map fun t => r ++ [t]
def allRows (ws : List Nat) : List (List Nat) := ws.foldl longer [[]]
def rowsC : List Nat → List (List Nat)
  | [] => [[]]
  | w :: ws => (List.range w).flatMap fun j => (rowsC ws).map (j :: ·)
theorem longer_fold : ∀ (ws : List Nat) (rows : List (List Nat)), ws.foldl longer rows = rows.flatMap fun r => (rowsC ws).map (r ++ ·)
  | [], rows => by
    show rows = rows.flatMap fun r => [r ++ []]
    induction rows with
    | nil => rfl
    | cons r rows ih =>
      rw [List.flatMap_cons, ← ih, List.append_nil]
      rfl
  | w :: ws, rows => by
    show ws.foldl longer (longer rows w) = _
    rw [longer_fold ws (longer rows w)]
    unfold longer
    rw [List.flatMap_assoc]
    congr 1
    funext r
    rw [List.flatMap_map]
    show _ = List.map (r ++ ·) ((List.range w).flatMap fun j => (rowsC ws).map (j :: ·))
    rw [List.map_flatMap]
    congr 1
    funext t
    rw [List.map_map]
    congr 1
    funext x
    show (r ++ [t]) ++ x = r ++ (t :: x)
    rw [List.append_assoc]
    rfl
theorem all_rowsC (ws : List Nat) : allRows ws = rowsC ws := by
  unfold allRows
  rw [longer_fold, List.flatMap_cons, List.flatMap_nil, List.append_nil]
  show (rowsC ws).map (fun x => [] ++ x) = rowsC ws
  simp
theorem Wp_shift (d : List Int) (D : List (List Int)) (j : Nat) (r : List Nat) (s : Nat) : ∀ n, Wp (d :: D) (j :: r) (s + 1) n = Wp D r s n
  | 0 => rfl
  | n + 1 => by
    show Wp (d :: D) (j :: r) (s + 1) n * wv (d :: D) (j :: r) (s + 1 + n) = Wp D r s n * wv D r (s + n)
    rw [Wp_shift d D j r s n, show s + 1 + n = (s + n) + 1 by omega]
    rfl
theorem Wt_cons (d : List Int) (D : List (List Int)) (j : Nat) (r : List Nat) : Wt (d :: D) (j :: r) 0 = d.getD j 0 * Wt D r 0 := by
  show Wp (d :: D) (j :: r) 0 (D.length + 1) = _
  rw [Nat.add_comm, Wp_add, Wp_shift]
  show 1 * d.getD j 0 * _ = _
  rw [Int.one_mul]
  rfl
theorem sum_flat {α : Type} (f : α → List Int) : ∀ l : List α, (l.flatMap f).sum = (l.map fun x => (f x).sum).sum
  | [] => rfl
  | x :: l => by rw [List.flatMap_cons, List.sum_append, List.map_cons, List.sum_cons, sum_flat f l]
theorem sum_rows : ∀ (D : List (List Int)) (F : List Nat → Int), ((rowsC (D.map List.length)).map fun r => Wt D r 0 * F r).sum = E D F
  | [], F => by
    show [Wt [] [] 0 * F []].sum = F []
    show 1 * F [] + 0 = F []
    omega
  | d :: D, F => by
    show (((List.range d.length).flatMap fun j => (rowsC (D.map List.length)).map (j :: ·)).map fun r => Wt (d :: D) r 0 * F r).sum = _
    rw [List.map_flatMap, sum_flat]
    show _ = sumN d.length fun j => d.getD j 0 * E D fun r => F (j :: r)
    refine sumN_congr fun j _ => ?_
    rw [← sum_rows D, ← sum_map_mul, List.map_map]
    refine congrArg List.sum (List.map_congr_left fun r _ => ?_)
    show Wt (d :: D) (j :: r) 0 * F (j :: r) = _
    rw [Wt_cons, Int.mul_assoc]
inductive Ld (ps : List Prt) (row : List Nat) : Nat → Dt → Prop
  | lf (i : Nat) (o : Dt) (h : ps[i]? = some (.lf o)) : Ld ps row i o
  | ask (i k : Nat) (ch : List Nat) (o : Dt) (h : ps[i]? = some (.ask k ch)) (t : Ld ps row (ch.getD (row.getD k 0) 0) o) : Ld ps row i o
theorem Ld.det {ps : List Prt} {row : List Nat} {i : Nat} {a b : Dt} (h : Ld ps row i a) (k : Ld ps row i b) : a = b := by
  induction h with
  | lf i o h =>
    cases k with
    | lf _ _ h2 => rw [h] at h2; cases h2; rfl
    | ask _ _ _ _ h2 => rw [h] at h2; cases h2
  | ask i k1 ch o h t ih =>
    cases k with
    | lf _ _ h2 => rw [h] at h2; cases h2
    | ask _ k2 ch2 _ h2 t2 =>
      rw [h] at h2
      cases h2
      exact ih t2
open Classical in
noncomputable def leadP (Q : Dt → Prop) : Dt := if h : ∃ o, Q o then h.choose else .non
noncomputable def lead (ps : List Prt) (row : List Nat) (i : Nat) : Dt := leadP fun o => Ld ps row i o
theorem lead_is {ps : List Prt} {row : List Nat} {i : Nat} {o : Dt} (h : Ld ps row i o) : lead ps row i = o := by
  unfold lead leadP
  rw [dif_pos ⟨o, h⟩]
  exact (Exists.choose_spec (⟨o, h⟩ : ∃ o, Ld ps row i o)).det h
theorem lead_congr {ps : List Prt} {row row2 : List Nat} {i j : Nat} (h : ∀ o, Ld ps row i o ↔ Ld ps row2 j o) : lead ps row i = lead ps row2 j := by
  unfold lead
  have e : (fun o => Ld ps row i o) = fun o => Ld ps row2 j o := funext fun o => propext (h o)
  rw [e]
theorem lead_ask {ps : List Prt} {row : List Nat} {i k : Nat} {ch : List Nat} (h : ps[i]? = some (.ask k ch)) : lead ps row i = lead ps row (ch.getD (row.getD k 0) 0) := lead_congr fun o => ⟨fun l => by
    cases l with
    | lf _ _ h2 => rw [h] at h2; cases h2
    | ask _ _ _ _ h2 t =>
      rw [h] at h2
      cases h2
      exact t, fun l => .ask i k ch o h l⟩
theorem Ld.agree {P : List (List (Int × Int))} {ps : List Prt} (gp : Gp P ps) (h0 : ∀ k ch, ps[0]? ≠ some (.ask k ch)) {row row2 : List Nat} : ∀ (n i : Nat) (p : Prt) (o : Dt), i < n → ps[i]? = some p → (∀ m, site P.length p ≤ m → row.getD m 0 = row2.getD m 0) → Ld ps row i o → Ld ps row2 i o
  | 0, i, p, o, hn, _, _, _ => absurd hn (Nat.not_lt_zero _)
  | n + 1, i, p, o, hn, hp, ag, l => by
    cases l with
    | lf _ _ h => exact .lf i o h
    | ask _ k ch _ h t =>
      rw [h] at hp
      cases hp
      obtain ⟨d, hd, lch, hch⟩ := gp i k ch h
      refine .ask i k ch o h ?_
      rw [← ag k (Nat.le_refl _)]
      by_cases hj : row.getD k 0 < ch.length
      · have e : ch[row.getD k 0]? = some (ch.getD (row.getD k 0) 0) := by
          rw [List.getD_eq_getElem?_getD (l := ch), List.getElem?_eq_getElem hj]
          rfl
        obtain ⟨lt, p', e1, e2⟩ := hch _ (List.mem_of_getElem? e)
        exact Ld.agree gp h0 n _ p' o (by omega) e1 (fun m hm => ag m (by show k ≤ m; omega)) t
      · have e : ch.getD (row.getD k 0) 0 = 0 := by
          rw [List.getD_eq_getElem?_getD (l := ch), List.getElem?_eq_none (by omega)]
          rfl
        rw [e] at t ⊢
        cases t with
        | lf _ _ h => exact .lf 0 o h
        | ask _ k2 ch2 _ h2 t2 => exact absurd h2 (h0 k2 ch2)
theorem lead_set {P : List (List (Int × Int))} {ps : List Prt} (gp : Gp P ps) (h0 : ∀ k ch, ps[0]? ≠ some (.ask k ch)) {row : List Nat} {i k x : Nat} {p : Prt} (hp : ps[i]? = some p) (hk : k < site P.length p) : lead ps (row.set k x) i = lead ps row i := by
  have e : ∀ m, site P.length p ≤ m → (row.set k x).getD m 0 = row.getD m 0 := fun m hm => by
    rw [List.getD_eq_getElem?_getD, List.getD_eq_getElem?_getD, List.getElem?_set_ne (by omega)]
  exact lead_congr fun o => ⟨fun l => l.agree gp h0 (i + 1) i p o (by omega) hp e, fun l => l.agree gp h0 (i + 1) i p o (by omega) hp fun m hm => (e m hm).symm⟩
theorem Gp.zero {P : List (List (Int × Int))} {ps : List Prt} (gp : Gp P ps) (g : M44.Good (Dw P)) (k : Nat) (ch : List Nat) : ps[0]? ≠ some (.ask k ch) := fun h => by
  obtain ⟨d, hd, lch, hch⟩ := gp 0 k ch h
  have hD : (Dw P)[k]? = some (wts d) := by rw [List.getElem?_map, hd]; rfl
  have ne := (g _ (List.mem_of_getElem? hD)).1
  cases ch with
  | nil =>
    have : d = [] := List.eq_nil_of_length_eq_zero lch.symm
    rw [this] at ne
    exact ne rfl
  | cons c ch => exact absurd (hch c (List.mem_cons_self ..)).1 (Nat.not_lt_zero _)
noncomputable def ind (ps : List Prt) (i : Nat) (o : Dt) (row : List Nat) : Int := if Dt.beq (lead ps row i) o = true then 1 else 0
theorem Ts_zero (D : List (List Int)) : Ts D 0 = prodI (D.map List.sum) := rfl
theorem rows_tab {P : List (List (Int × Int))} {cov : List Dt} {ps : List Prt} {Rs : List (List (Dt × Int))} (g : M44.Good (Dw P)) (gp : Gp P ps) (gt : Gt P cov ps Rs) (o : Dt) : ∀ (n i : Nat) (p : Prt) (R : List (Dt × Int)), i < n → ps[i]? = some p → Rs[i]? = some R → E (Dw P) (ind ps i o) * Ts (Dw P) (site P.length p) = wOf R o * Ts (Dw P) 0
  | 0, i, p, R, hn, _, _ => absurd hn (Nat.not_lt_zero _)
  | n + 1, i, p, R, hn, hp, hR => by
    have h0 := gp.zero g
    obtain ⟨tb, rel⟩ := gt.it i p R hp hR
    cases rel with
    | lf o' =>
      have e1 : ∀ r, ind ps i o r = (if Dt.beq o' o = true then 1 else 0) := fun r => by
        unfold ind
        rw [lead_is (.lf i o' hp)]
      have e2 : Ts (Dw P) (site P.length (.lf o')) = 1 := by
        show prodI (((Dw P).drop P.length).map List.sum) = 1
        rw [← dw_len, List.drop_length]
        rfl
      rw [E_congr e1, E_const, e2, Ts_zero, Int.mul_one, Int.mul_comm, wOf_cons, wOf_nil, Int.add_zero]
    | ask k ch d _ hd st =>
      obtain ⟨d', hd', lch, hch⟩ := gp i k ch hp
      rw [hd] at hd'
      cases hd'
      have hD : (Dw P)[k]? = some (wts d) := by rw [List.getElem?_map, hd]; rfl
      have lw : (wts d).length = ch.length := by rw [List.length_map]; exact lch.symm
      have child : ∀ j, j < (wts d).length → ∃ p', ps[ch.getD j 0]? = some p' ∧ ch.getD j 0 < i ∧ k < site P.length p' := fun j hj => by
        have e : ch[j]? = some (ch.getD j 0) := by
          rw [List.getD_eq_getElem?_getD, List.getElem?_eq_getElem (by omega)]
          rfl
        obtain ⟨lt, p', e1, e2⟩ := hch _ (List.mem_of_getElem? e)
        exact ⟨p', e1, lt, e2⟩
      have ei := indep (Dw P) k (wts d) (ind ps i o) (fun j row => ind ps (ch.getD j 0) o row) hD (fun row => by
        unfold ind
        rw [lead_ask hp]) (fun j hj row x => by
        obtain ⟨p', e1, _, e2⟩ := child j hj
        unfold ind
        rw [lead_set gp h0 e1 e2])
      have eT : Ts (Dw P) k = (wts d).sum * Ts (Dw P) (k + 1) := Ts_succ hD
      show E (Dw P) (ind ps i o) * Ts (Dw P) k = _
      rw [eT, ← Int.mul_assoc, ei, st.val, sumN_zip _ 0 _ _ lw, Int.mul_comm, ← sumN_mul, Int.mul_comm (sumN _ _), ← sumN_mul]
      refine sumN_congr fun j hj => ?_
      obtain ⟨p', e1, lt, e2⟩ := child j hj
      have hi := (List.getElem?_eq_some_iff.mp hR).1
      have eR : Rs[ch.getD j 0]? = some (Rs.getD (ch.getD j 0) []) := by
        rw [List.getD_eq_getElem?_getD (l := Rs), List.getElem?_eq_getElem (show ch.getD j 0 < Rs.length by omega)]
        rfl
      have ih := rows_tab g gp gt o n (ch.getD j 0) p' _ (by omega) e1 eR
      have es : siteAt P ps (ch.getD j 0) = site P.length p' := by
        unfold siteAt
        rw [List.getD_eq_getElem?_getD (l := ps), e1]
        rfl
      obtain ⟨q0, q1⟩ := qq_ok g (parts := ps) (c := ch.getD j 0) hd (by rw [es]; exact e2)
      rw [es] at q1
      rw [← q1]
      generalize qq P ps k (ch.getD j 0) = q at *
      generalize E (Dw P) (ind ps (ch.getD j 0) o) = X at *
      generalize wOf (Rs.getD (ch.getD j 0) []) o = Y at *
      generalize Ts (Dw P) (site P.length p') = T1 at *
      generalize Ts (Dw P) 0 = T0 at *
      generalize (wts d).getD j 0 = W at *
      have : W * X * (T1 * q) = W * (X * T1) * q := by simp only [Int.mul_assoc, Int.mul_left_comm, Int.mul_comm]
      calc T1 * q * (W * X) = W * q * (X * T1) := by simp only [Int.mul_assoc, Int.mul_left_comm, Int.mul_comm]
        _ = W * q * (Y * T0) := by rw [ih]
        _ = T0 * (W * (Y * q)) := by simp only [Int.mul_assoc, Int.mul_left_comm, Int.mul_comm]
noncomputable def DR (P : List (List (Int × Int))) (ps : List Prt) (i : Nat) : List (Dt × Int) := (allRows (P.map List.length)).map fun row => (lead ps row i, Wt (Dw P) row 0)
theorem wOf_map {α : Type} (f : α → Dt) (v : α → Int) (o : Dt) : ∀ l : List α, wOf (l.map fun x => (f x, v x)) o = (l.map fun x => v x * (if Dt.beq (f x) o = true then 1 else 0)).sum
  | [] => rfl
  | x :: l => by
    rw [List.map_cons, wOf_cons, wOf_map f v o l, List.map_cons, List.sum_cons]
    dsimp only
    split <;> simp
theorem len_dw (P : List (List (Int × Int))) : (Dw P).map List.length = P.map List.length := by
  rw [List.map_map]
  exact List.map_congr_left fun d _ => by simp
theorem DR_wOf (P : List (List (Int × Int))) (ps : List Prt) (i : Nat) (o : Dt) : wOf (DR P ps i) o = E (Dw P) (ind ps i o) := by
  unfold DR
  rw [wOf_map, ← sum_rows, len_dw, all_rowsC]
  rfl
theorem DR_sum (P : List (List (Int × Int))) (ps : List Prt) (i : Nat) : sumW (DR P ps i) = Ts (Dw P) 0 := by
  unfold DR sumW
  rw [List.map_map, all_rowsC, ← len_dw, Ts_zero, ← Int.mul_one (prodI _), ← E_const, ← sum_rows]
  exact congrArg List.sum (List.map_congr_left fun r _ => (Int.mul_one _).symm)
theorem wts_sum (P : List (List (Int × Int))) : ((allRows (P.map List.length)).map fun row => Wt (Dw P) row 0).sum = Ts (Dw P) 0 := by
  have := DR_sum P [] 0
  unfold DR sumW at this
  rw [List.map_map] at this
  exact this
end K40
namespace K40
open PySem L2 FW PyProof.Rows
open M44 hiding Prt site Gv Gs hvs way Ld Po Bst
abbrev tx (r : List Nat) : Str := ⟨r.toArray⟩
theorem tx_len (r : List Nat) : (tx r).length = r.length := by
  show r.toArray.size = _
  rw [List.size_toArray]
theorem tx_cat (a b : List Nat) : tx a ++ tx b = tx (a ++ b) := by
  show (⟨a.toArray ++ b.toArray⟩ : Str) = ⟨(a ++ b).toArray⟩
  rw [List.append_toArray]
def abc : Str := "abcdefghijklmnopqrstuvwxyz"
theorem abc_at : ∀ i, i < 26 → (abc.cps.toList[i]?).isSome = true := by decide +kernel
theorem abc_len : abc.length ≤ sizeLine := by decide +kernel
theorem abc_ix {i : Int} (h0 : 0 ≤ i) (h1 : i < 26) : ∃ c, atI abc.cps.toList i = some c := by
  obtain ⟨j, rfl⟩ : ∃ j : Nat, i = (j : Int) := ⟨i.toNat, by omega⟩
  have h := abc_at j (by omega)
  cases e : abc.cps.toList[j]? with
  | none => rw [e] at h; cases h
  | some c => exact ⟨c, atI_nat e⟩
def sp_word : Sp := fun vs H Q _ => ∃ n : Int, vs = [.int n] ∧ ∀ w : Str, Q (.str w) H
def sp_outcome (K : PySem.W.Frag) : Sp := fun vs H Q _ => ∃ n : Int, vs = [.int n] ∧ 0 ≤ n ∧ n ≤ 2 ^ 40 ∧ ∀ o, Oc o → datQ K H Q o
abbrev fdK (ps : List (Str × Int)) : List (Key × V) := ps.map fun p => (Sum.inr p.1, V.int p.2)
theorem fdK_put (ps : List (Str × Int)) (x : Str) (n : Int) : ∃ qs : List (Str × Int), putK (fdK ps) (Sum.inr x) (.int n) = fdK qs ∧ qs.length ≤ ps.length + 1 := by
  unfold putK
  split
  · refine ⟨ps.map fun p => if p.1 = x then (p.1, n) else p, ?_, by rw [List.length_map]; omega⟩
    show _ = List.map (fun p : Str × Int => ((Sum.inr p.1 : Key), V.int p.2)) (List.map _ ps)
    rw [List.map_map, List.map_map]
    refine List.map_congr_left fun p _ => ?_
    show (if (Sum.inr p.1 : Key) = Sum.inr x then _ else _) = _
    by_cases e : p.1 = x
    · rw [if_pos (by rw [e])]
      show _ = ((Sum.inr (if p.1 = x then (p.1, n) else p).1 : Key), V.int (if p.1 = x then (p.1, n) else p).2)
      rw [if_pos e]
    · rw [if_neg (fun z => e (Sum.inr.inj z))]
      show _ = ((Sum.inr (if p.1 = x then (p.1, n) else p).1 : Key), V.int (if p.1 = x then (p.1, n) else p).2)
      rw [if_neg e]
  · exact ⟨ps ++ [(x, n)], by show _ = List.map (fun p : Str × Int => ((Sum.inr p.1 : Key), V.int p.2)) (ps ++ [(x, n)]); rw [List.map_append]; rfl, by rw [List.length_append]; exact Nat.le_refl _⟩
theorem restS {C N : L2.St → Hp → Prop} {Q : Prop} (f : (∀ σ H, C σ H → N σ H) → Q) (g : ∀ σ H, C σ H → N σ H) : Q := f g
theorem restG {G Q : Prop} (f : G → Q) (g : G) : Q := f g
section
variable {P : Program} {w : World} {K : PySem.W.Frag} {mg : Str → Option Value} {base : Heap} {cN : Addr}
set_option maxHeartbeats 2000000 in
theorem ok_law_word {f : Addr} {fd : FuncData} (A : FnAt K mg "_law_word" s_law_word ["_law_figure"] f fd) (T : Txt K mg cN) : FnOk P w K mg base CX0 1 f fd ["_law_figure"] sp_word := by
  refine A.F.ok sc_law_word (fun vs H Q E h => ?_) (fun cdv Ar outer s H vs Q E hr h => ?_)
  · obtain ⟨n, rfl, _⟩ := h
    rfl
  · obtain ⟨n, rfl, k⟩ := h
    refine ⟨_, (pss_cons (ps_set (i := 1) sc_law_word.nd rfl (Or.inl rfl) pe_str)
      (pss_cons (ps_set (i := 2) sc_law_word.nd rfl (Or.inl rfl) pe_str)
      (pss_cons (ps_for PassesOwn.never rfl (pi_range1 rfl T.range_ (pa_cons (pe_op op_add pe_int (pe_op op_mod (pv 0) pe_int)) pa_nil)) (pg_name (i := 3) sc_law_word.nd rfl (Or.inl rfl)) (pss_one (ps_set (i := 2) sc_law_word.nd rfl (Or.inl rfl) (pe_op op_add_str (pv 2) (pe_ix ix_str (pv 1) (pe_op op_mod (pe_op op_fdivP (pv 0) (pe_op op_add pe_int (pe_op op_mulB (pv 3) (pv 3)))) pe_int) (fun _ _ => rfl))))))
      (pss_one (ps_ret (pv 2)))))), ?_⟩
    have w0 := Int.emod_nonneg n (show (8 : Int) ≠ 0 by decide)
    have w1 := Int.emod_lt_of_pos n (show (0 : Int) < 8 by decide)
    refine ⟨_, rfl, _, _, rfl, rfl, (by show (0 : Int) < 8; decide), _, _, rfl, rfl, 1 + n % 8, rfl, by omega, by omega, for_range (lo := 0) (n := (1 + n % 8).toNat) (fun j σ H' => H' = H ∧ ∃ (w : List Nat) (o3 : Option V), σ = [some (.int n), some (.str abc), some (.str (tx w)), o3] ∧ w.length ≤ j)
      ⟨rfl, [], none, rfl, Nat.zero_le _⟩ ?_ ?_⟩
    · rintro j σ H' hj ⟨rfl, w, o3, rfl, hw⟩
      have kj : (j : Int) ≤ 8 := by omega
      have sq : 0 ≤ (0 + (j : Int)) * (0 + (j : Int)) ∧ (0 + (j : Int)) * (0 + (j : Int)) ≤ 8 * 8 := ⟨Int.mul_nonneg (by omega) (by omega), Int.mul_le_mul (by omega) (by omega) (by omega) (by omega)⟩
      obtain ⟨c, hc⟩ := abc_ix (i := n / (8 + (0 + (j : Int)) * (0 + (j : Int))) % 26) (Int.emod_nonneg _ (by decide)) (Int.emod_lt_of_pos _ (by decide))
      refine ⟨_, rfl, _, rfl, _, rfl, _, rfl, _, rfl, _, _, rfl, rfl, small_mul (by omega), _, _, rfl, rfl, _, _, rfl, rfl, ⟨by show (0 : Int) < 8 + (0 + (j : Int)) * (0 + (j : Int)); omega, log_small (by omega)⟩, _, _, rfl, rfl, (by show (0 : Int) < 26; decide), abc, _, c, rfl, rfl, abc_len, hc, tx w, tx [c], rfl, rfl, ?_, ?_⟩
      · rw [tx_len, tx_len]
        exact Nat.le_trans (show w.length + 1 ≤ 20 by omega) (by decide)
      · rw [tx_cat]
        exact ⟨rfl, w ++ [c], _, rfl, by rw [List.length_append]; show w.length + 1 ≤ j + 1; omega⟩
    · rintro σ H' ⟨rfl, w, o3, rfl, hw⟩
      exact ⟨_, rfl, k _⟩
set_option maxHeartbeats 4000000 in
theorem ok_law_outcome {f fW fM : Addr} {fd dW dM : FuncData} (A : FnAt K mg "_law_outcome" s_law_outcome ["_law_cell"] f fd) (A_law_word : FnAt K mg "_law_word" s_law_word ["_law_figure"] fW dW) (A_law_mix : FnAt K mg "_law_mix" s_law_mix ["_law_cell", "_law_k"] fM dM) (T : Txt K mg cN) : FnOk P w K mg base CX0 2 f fd ["_law_cell"] (sp_outcome K) := by
  have G_law_word : FnOk P w K mg base CX0 1 fW dW _ sp_word := ok_law_word A_law_word T
  have G_law_mix : FnOk P w K mg base CX0 1 fM dM _ sp_mix := ok_law_mix A_law_mix
  refine A.F.ok sc_law_outcome (fun vs H Q E h => ?_) (fun cdv Ar outer s H vs Q E hr h => ?_)
  · obtain ⟨n, rfl, _⟩ := h
    rfl
  · obtain ⟨n, rfl, n0, n1, k⟩ := h
    have hu := hu_of hr
    refine ⟨_, (pss_cons (ps_if (pt_cmpR op_eq (pe_op op_mod (pv 0) pe_int) pe_int (nomark _)) (pss_one (ps_ret pe_non)) pss_nil)
      (pss_cons (ps_if (pt_cmpR op_lt (pe_op op_mod (pv 0) pe_int) pe_int (nomark _)) (pss_one (ps_ret (pe_op op_mod (pe_op op_fdivP (pv 0) pe_int) pe_int))) pss_nil)
      (pss_cons (ps_if (pt_cmpR op_lt (pe_op op_mod (pv 0) pe_int) pe_int (nomark _)) (pss_one (ps_ret (pe_op op_mod (pe_op op_mulB (pe_op op_fdivP (pv 0) pe_int) (pv 0)) (pe_op op_pow pe_int pe_int)))) pss_nil)
      (pss_cons (ps_set (i := 1) sc_law_outcome.nd rfl (Or.inl rfl) pe_dnewK)
      (pss_cons (ps_for PassesOwn.never rfl (pi_range1 rfl T.range_ (pa_cons (pe_op op_add pe_int (pe_op op_mod (pe_op op_fdivP (pv 0) pe_int) pe_int)) pa_nil)) (pg_name (i := 2) sc_law_outcome.nd rfl (Or.inl rfl)) (pss_one (ps_dput hu (pv 1) (pe_call G_law_word (hr.mono (by decide)) rfl A_law_word.m A_law_word.F.kp A_law_word.b .nil pass0 (pa_cons (pe_call G_law_mix (hr.mono (by decide)) rfl A_law_mix.m A_law_mix.F.kp A_law_mix.b .nil pass0 (pa_cons (pv 0) (pa_cons (pv 2) pa_nil))) pa_nil)) (pe_op op_mod (pe_op op_mulB (pe_call G_law_mix (hr.mono (by decide)) rfl A_law_mix.m A_law_mix.F.kp A_law_mix.b .nil pass0 (pa_cons (pv 0) (pa_cons (pe_op op_add (pv 2) pe_int) pa_nil))) (pe_call G_law_mix (hr.mono (by decide)) rfl A_law_mix.m A_law_mix.F.kp A_law_mix.b .nil pass0 (pa_cons (pv 0) (pa_cons (pe_op op_add (pv 2) pe_int) pa_nil)))) (pe_op op_pow pe_int pe_int)) rfl)))
      (pss_cons (ps_if (pt_cmpR op_eq (pe_op op_mod (pv 0) pe_int) pe_int (nomark _)) (pss_one (ps_dput hu (pv 1) pe_str (pe_op op_mod (pe_op op_fdivP (pv 0) pe_int) pe_int) rfl)) pss_nil)
      (pss_one (ps_ret (pe_callTy call_tuple_of (by rfl) T.tuple_ Boot.«tuple» (pa_cons (pe_callB (call_sortedV rfl) (by rfl) T.sorted_ Boot.«sorted» (pa_cons (pe_bm0 PySem.F.plainAttrs_dict PySem.F.slot_dict_items PySem.F.type_dict_items mt_items (pv 1)) pa_nil)) pa_nil)))))))))), ?_⟩
    have fin : ∀ i : Int, Q (.int i) H := fun i => k (.int i) (.int i) _ H (.refl _) (.int i)
    refine ⟨_, rfl, _, _, rfl, rfl, (by show (0 : Int) < 7; decide), rfl, _, rfl, iteBB (fun _ => k .non .non _ H (.refl _) .non) (fun _ => ?_)⟩
    refine ⟨_, rfl, _, _, rfl, rfl, (by show (0 : Int) < 7; decide), _, _, rfl, rfl, _, rfl, iteBB (fun _ => ⟨_, rfl, _, _, rfl, rfl, ⟨by decide, by decide +kernel⟩, _, _, rfl, rfl, (by show (0 : Int) < 4; decide), fin _⟩) (fun _ => ?_)⟩
    refine ⟨_, rfl, _, _, rfl, rfl, (by show (0 : Int) < 7; decide), _, _, rfl, rfl, _, rfl, iteBB (fun _ => ⟨_, rfl, _, _, rfl, rfl, ⟨by decide, by decide +kernel⟩, _, rfl, _, _, rfl, rfl, small_mul (by omega), _, _, rfl, rfl, ⟨by decide, by decide, by decide⟩, _, _, rfl, rfl, (by show (0 : Int) < 10 ^ (12 : Int).toNat; decide), fin _⟩) (fun _ => ?_)⟩
    intro D hD
    have c0 := Int.emod_nonneg (n / 7) (show (3 : Int) ≠ 0 by decide)
    have c1 := Int.emod_lt_of_pos (n / 7) (show (0 : Int) < 3 by decide)
    refine ⟨_, rfl, _, _, rfl, rfl, ⟨by decide, by decide +kernel⟩, _, _, rfl, rfl, (by show (0 : Int) < 3; decide), _, _, rfl, rfl, 1 + n / 7 % 3, rfl, by omega, by omega, for_range (lo := 0) (n := (1 + n / 7 % 3).toNat) (fun j σ H' => Same H H' ∧ ∃ (ps : List (Str × Int)) (o2 : Option V), H' D = some (.dK (fdK ps)) ∧ ps.length ≤ j ∧ σ = [some (.int n), some (.ref D), o2])
      ⟨.upd hD, [], none, upd_same, Nat.le_refl _, rfl⟩ ?_ ?_⟩
    · rintro j σ H' hj ⟨S, ps, o2, eD, lp, rfl⟩
      refine ⟨_, rfl, _, rfl, _, _, rfl, rfl, n, _, rfl, by omega, by omega, fun m m0 m1 => ⟨_, rfl, _, rfl, _, _, rfl, rfl, n, _, rfl, by omega, by omega, fun m2 m20 m21 => ?_⟩⟩
      refine ⟨_, _, rfl, rfl, small_mul (by omega), _, _, rfl, rfl, ⟨by decide, by decide, by decide⟩, _, _, rfl, rfl, (by show (0 : Int) < 10 ^ (12 : Int).toNat; decide), _, rfl, _, rfl, _, rfl, n, _, rfl, by omega, by omega, fun m3 _ _ => ⟨m3, rfl, fun x => ?_⟩⟩
      dsimp only
      generalize m * m2 % 10 ^ (12 : Int).toNat = nb
      obtain ⟨qs, eq, lq⟩ := fdK_put ps x nb
      refine ⟨D, _, rfl, DPut.k (k := Sum.inr x) eD (Nat.lt_of_le_of_lt (show (fdK ps).length ≤ 100 by rw [List.length_map]; omega) (by decide)), fun b o eb => ?_, qs, _, ?_, by omega, rfl⟩
      · rw [upd_ne (ne_of_none eb hD)]
        exact S _ _ eb
      · rw [upd_same, eq]
    rintro σ H' ⟨S, ps, o2, eD, lp, rfl⟩
    have lp3 : ps.length ≤ 3 := by omega
    refine' restS (C := fun σ H2 => Same H H2 ∧ ∃ (ps : List (Str × Int)), H2 D = some (.dK (fdK ps)) ∧ ps.length ≤ 4 ∧ σ = [some (.int n), some (.ref D), o2]) (fun rest => ⟨_, rfl, _, _, rfl, rfl, (by show (0 : Int) < 7; decide), rfl, _, rfl, iteBB (fun _ => ?_) (fun _ => rest _ _ ⟨S, ps, eD, by omega, rfl⟩)⟩) ?_
    · refine ⟨_, rfl, _, _, rfl, rfl, ⟨by decide, by decide +kernel⟩, _, _, rfl, rfl, (by show (0 : Int) < 2; decide), _, rfl, ?_⟩
      dsimp only
      generalize n / 21 % 2 = nb
      obtain ⟨qs, eq, lq⟩ := fdK_put ps "a" nb
      refine ⟨D, _, rfl, DPut.k (k := Sum.inr "a") eD (Nat.lt_of_le_of_lt (show (fdK ps).length ≤ 100 by rw [List.length_map]; omega) (by decide)), rest _ _ ⟨fun b o eb => ?_, qs, ?_, by omega, rfl⟩⟩
      · rw [upd_ne (ne_of_none eb hD)]
        exact S _ _ eb
      · rw [upd_same, eq]
    rintro σ H2 ⟨S2, qs, eD2, lq, rfl⟩
    refine ⟨_, rfl, .inr (.inr (.inl ⟨rfl, .inl ⟨_, eD2⟩⟩)), D, _, rfl, rfl, eD2, fun v hv => ?_⟩
    have S3 := Same.upd (o := ObO v (viewO D)) hv
    refine ⟨v, D, qs, rfl, upd_same, S3 _ _ eD2, by omega, fun l H4 vs fs S4 hl el dl pm => ⟨l, vs, rfl, .inl ⟨SqL.of el, fun t ht => ?_⟩⟩⟩
    have S5 := Same.upd (o := .tup vs) ht
    exact k _ (.recd fs) _ _ (S2.trans (S3.trans (S4.trans S5))) (.tup (SqT.of upd_same) (dl.same S5))
end
end K40
namespace K40
open PySem L2 FW PyProof.Rows
open M44 hiding Prt site Gv Gs hvs way Ld Po Bst
theorem t3 : 3 ≤ sizeLine := by decide
theorem t4 : 4 ≤ sizeLine := by decide
theorem t6 : 6 ≤ sizeLine := by decide
theorem t1 : 1 ≤ sizeLine := by decide
structure WdOk (ws : List Nat) : Prop where
  l0 : 0 < ws.length
  l4 : ws.length ≤ 4
  w : ∀ x ∈ ws, 1 ≤ x ∧ x ≤ 6
def sp_site (K : PySem.W.Frag) : Sp := fun vs H Q _ => ∃ (v : V) (Z : Addr) (p : Prt), vs = [v] ∧ PrtAt K Z H v p ∧ Q (nI (site 100 p)) H
def sp_widths (K : PySem.W.Frag) : Sp := fun vs H Q _ => ∃ (a : Addr) (ns : List Int), vs = [.ref a] ∧ SqL K H a (ns.map V.int) ∧ ∀ (Wd : Addr) (H' : Hp) (ws : List Nat), Same H H' → H' Wd = some (.lst (ws.map nI)) → WdOk ws → Q (.ref Wd) H'
def sp_draws (K : PySem.W.Frag) : Sp := fun vs H Q _ => ∃ (a Wd : Addr) (ns : List Int) (ws : List Nat), vs = [.ref a, .ref Wd] ∧ SqL K H a (ns.map V.int) ∧ H Wd = some (.lst (ws.map nI)) ∧ WdOk ws ∧ ∀ (DA : Addr) (H' : Hp) (ps : List (Addr × List Dt)) (P : List (List (Int × Int))), Same H H' → DrsAt K H' DA ps P → P.map List.length = ws → Q (.ref DA) H'
theorem menu_d (x y i : Int) (h0 : 0 ≤ i) (h1 : i < 2) (hx : 0 ≤ x ∧ x < 1000000) (hy : 0 ≤ y ∧ y < 1000000) : ∃ b : Int, atI [V.int x, V.int y] i = some (.int b) ∧ 0 ≤ b ∧ b < 1000000 := by
  rcases (show i = 0 ∨ i = 1 by omega) with rfl | rfl
  · exact ⟨x, rfl, hx⟩
  · exact ⟨y, rfl, hy⟩
section
variable {P : Program} {w : World} {K : PySem.W.Frag} {mg : Str → Option Value} {base : Heap} {cN : Addr}
theorem ok_law_site {f : Addr} {fd : FuncData} (A : FnAt K mg "_law_site" s_law_site ["_law_entry"] f fd) : FnOk P w K mg base CX0 1 f fd ["_law_entry"] (sp_site K) := by
  refine A.F.ok sc_law_site (fun vs H Q E h => ?_) (fun cdv Ar outer s H vs Q E hr h => ?_)
  · obtain ⟨v, Z, p, rfl, _⟩ := h
    rfl
  · obtain ⟨v, Z, p, rfl, px, k⟩ := h
    refine ⟨_, (pss_cons (ps_if (pt_cmpR op_eq (pe_ix ix_tup (pv 0) pe_int (fun _ _ => rfl)) pe_str (nomark _)) (pss_one (ps_ret pe_int)) pss_nil)
      (pss_one (ps_ret (pe_ix ix_tup (pv 0) pe_int (fun _ _ => rfl))))), ?_⟩
    obtain ⟨r, rfl, hk⟩ := px.look 100
    rcases hk with ⟨u, sv, es⟩ | ⟨l, sv⟩
    · refine ⟨_, rfl, r, _, 0, .str "leaf", rfl, rfl, sv, rfl, rfl, _, rfl, iteBB (fun _ => ?_) (fun hc => absurd hc (by decide +kernel))⟩
      rw [es] at k
      exact k
    · refine ⟨_, rfl, r, _, 0, .str "ask", rfl, rfl, sv, rfl, rfl, _, rfl, iteBB (fun hc => absurd hc (by decide +kernel)) (fun _ => ?_)⟩
      exact ⟨_, rfl, r, _, 1, _, rfl, rfl, sv, rfl, k⟩
set_option maxHeartbeats 4000000 in
theorem ok_law_widths {f fC fM : Addr} {fd dC dM : FuncData} (A : FnAt K mg "_law_widths" s_law_widths ["_law_script"] f fd) (A_law_cell_at : FnAt K mg "_law_cell_at" s_law_cell_at ["_law_script", "_law_k"] fC dC) (A_law_mix : FnAt K mg "_law_mix" s_law_mix ["_law_cell", "_law_k"] fM dM) (T : Txt K mg cN) : FnOk P w K mg base CX0 2 f fd ["_law_script"] (sp_widths K) := by
  have G_law_cell_at : FnOk P w K mg base CX0 1 fC dC _ (sp_cell K) := ok_law_cell_at A_law_cell_at T
  have G_law_mix : FnOk P w K mg base CX0 1 fM dM _ sp_mix := ok_law_mix A_law_mix
  refine A.F.ok (k := 1) sc_law_widths (fun vs H Q E h => ?_) (fun cdv Ar outer s H vs Q E hr h => ?_)
  · obtain ⟨a, ns, rfl, _⟩ := h
    rfl
  · obtain ⟨a, ns, rfl, hS, k⟩ := h
    refine ⟨_, (pss_cons (ps_set (i := 1) sc_law_widths.nd rfl (Or.inl rfl) (pe_call G_law_cell_at (hr.mono (by decide)) rfl A_law_cell_at.m A_law_cell_at.F.kp A_law_cell_at.b .nil pass0 (pa_cons (pv 0) (pa_cons pe_int pa_nil))))
      (pss_cons (ps_set (i := 2) sc_law_widths.nd rfl (Or.inl rfl) (pe_lst (pa_cons (pe_lst (pa_cons pe_int (pa_cons (pe_op op_add pe_int (pe_op op_mod (pv 1) pe_int)) (pa_cons pe_int (pa_cons (pe_op op_add pe_int (pe_op op_mod (pe_op op_fdivP (pv 1) pe_int) pe_int)) pa_nil))))) (pa_cons (pe_lst (pa_cons pe_int (pa_cons pe_int (pa_cons pe_int (pa_cons pe_int pa_nil))))) (pa_cons (pe_lst (pa_cons pe_int (pa_cons pe_int (pa_cons pe_int pa_nil)))) (pa_cons (pe_lst (pa_cons pe_int (pa_cons pe_int pa_nil))) (pa_cons (pe_lst (pa_cons pe_int (pa_cons pe_int (pa_cons pe_int pa_nil)))) (pa_cons (pe_lst (pa_cons (pe_op op_add pe_int (pe_op op_mod (pv 1) pe_int)) pa_nil)) pa_nil))))))))
      (pss_one (ps_ret (pe_ix ix_list (pv 2) (pe_op op_mod (pe_call G_law_mix (hr.mono (by decide)) rfl A_law_mix.m A_law_mix.F.kp A_law_mix.b .nil pass0 (pa_cons (pv 1) (pa_cons pe_int pa_nil))) pe_int) (fun _ _ => rfl)))))), ?_⟩
    refine ⟨_, rfl, a, ns, 1, rfl, hS, fun c => ?_⟩
    obtain ⟨x1, e1, x10, x11⟩ : ∃ x : Nat, 1 + c % 2 = (x : Int) ∧ 1 ≤ x ∧ x ≤ 6 := ⟨(1 + c % 2).toNat, by omega, by omega, by omega⟩
    obtain ⟨x2, e2, x20, x21⟩ : ∃ x : Nat, 1 + c / 2 % 2 = (x : Int) ∧ 1 ≤ x ∧ x ≤ 6 := ⟨(1 + c / 2 % 2).toNat, by omega, by omega, by omega⟩
    obtain ⟨x3, e3, x30, x31⟩ : ∃ x : Nat, 1 + c % 6 = (x : Int) ∧ 1 ≤ x ∧ x ≤ 6 := ⟨(1 + c % 6).toNat, by omega, by omega, by omega⟩
    refine ⟨_, rfl, _, _, rfl, rfl, (by show (0 : Int) < 2; decide), _, _, rfl, rfl, _, rfl, _, _, rfl, rfl, ⟨by decide, by decide +kernel⟩, _, _, rfl, rfl, (by show (0 : Int) < 2; decide), _, _, rfl, rfl, t4, fun l1 h1 => ?_⟩
    dsimp only
    rw [e1, e2]
    have S1 := Same.upd (o := .lst [.int 2, .int x1, .int 1, .int x2]) h1
    have a1 : (upd H l1 (.lst [.int 2, .int x1, .int 1, .int x2])) l1 = some (.lst (([2, x1, 1, x2] : List Nat).map nI)) := upd_same
    generalize upd H l1 (.lst [.int 2, .int x1, .int 1, .int x2]) = H1 at S1 a1
    refine ⟨t4, fun l2 h2 => ?_⟩
    have S2 := Same.upd (o := .lst [.int 1, .int 2, .int 4, .int 1]) h2
    have a2 : (upd H1 l2 (.lst [.int 1, .int 2, .int 4, .int 1])) l2 = some (.lst (([1, 2, 4, 1] : List Nat).map nI)) := upd_same
    generalize upd H1 l2 (.lst [.int 1, .int 2, .int 4, .int 1]) = H2 at S2 a2
    refine ⟨t3, fun l3 h3 => ?_⟩
    have S3 := Same.upd (o := .lst [.int 3, .int 1, .int 2]) h3
    have a3 : (upd H2 l3 (.lst [.int 3, .int 1, .int 2])) l3 = some (.lst (([3, 1, 2] : List Nat).map nI)) := upd_same
    generalize upd H2 l3 (.lst [.int 3, .int 1, .int 2]) = H3 at S3 a3
    refine ⟨two_le, fun l4 h4 => ?_⟩
    have S4 := Same.upd (o := .lst [.int 1, .int 6]) h4
    have a4 : (upd H3 l4 (.lst [.int 1, .int 6])) l4 = some (.lst (([1, 6] : List Nat).map nI)) := upd_same
    generalize upd H3 l4 (.lst [.int 1, .int 6]) = H4 at S4 a4
    refine ⟨t3, fun l5 h5 => ?_⟩
    have S5 := Same.upd (o := .lst [.int 2, .int 2, .int 2]) h5
    have a5 : (upd H4 l5 (.lst [.int 2, .int 2, .int 2])) l5 = some (.lst (([2, 2, 2] : List Nat).map nI)) := upd_same
    generalize upd H4 l5 (.lst [.int 2, .int 2, .int 2]) = H5 at S5 a5
    refine ⟨_, rfl, _, _, rfl, rfl, (by show (0 : Int) < 6; decide), _, _, rfl, rfl, t1, fun l6 h6 => ?_⟩
    dsimp only
    rw [e3]
    have S6 := Same.upd (o := .lst [.int x3]) h6
    have a6 : (upd H5 l6 (.lst [.int x3])) l6 = some (.lst (([x3] : List Nat).map nI)) := upd_same
    generalize upd H5 l6 (.lst [.int x3]) = H6 at S6 a6
    refine ⟨t6, fun L hL => ?_⟩
    have S7 := Same.upd (o := .lst [.ref l1, .ref l2, .ref l3, .ref l4, .ref l5, .ref l6]) hL
    have a7 : (upd H6 L (.lst [.ref l1, .ref l2, .ref l3, .ref l4, .ref l5, .ref l6])) L = some (.lst [.ref l1, .ref l2, .ref l3, .ref l4, .ref l5, .ref l6]) := upd_same
    generalize upd H6 L (.lst [.ref l1, .ref l2, .ref l3, .ref l4, .ref l5, .ref l6]) = H7 at S7 a7
    have S67 := S6.trans S7
    have S57 := S5.trans S67
    have S47 := S4.trans S57
    have S37 := S3.trans S47
    have S27 := S2.trans S37
    have S07 := S1.trans S27
    refine ⟨_, rfl, _, rfl, c, 1, rfl, by decide, by decide, fun m m0 m1 => ⟨_, _, rfl, rfl, (by show (0 : Int) < 6; decide), ?_⟩⟩
    dsimp only
    have g0 := Int.emod_nonneg m (show (6 : Int) ≠ 0 by decide)
    have g1 := Int.emod_lt_of_pos m (show (0 : Int) < 6 by decide)
    generalize m % 6 = i at g0 g1
    rcases (show i = 0 ∨ i = 1 ∨ i = 2 ∨ i = 3 ∨ i = 4 ∨ i = 5 by omega) with rfl | rfl | rfl | rfl | rfl | rfl
    · exact ⟨L, _, 0, .ref l1, rfl, rfl, SqL.of a7, rfl, k l1 H7 _ S07 (S27 _ _ a1) ⟨by show 0 < 4; decide, by show 4 ≤ 4; decide, fun x hx => by
        simp at hx
        omega⟩⟩
    · exact ⟨L, _, 1, .ref l2, rfl, rfl, SqL.of a7, rfl, k l2 H7 _ S07 (S37 _ _ a2) ⟨by decide, by decide, by decide⟩⟩
    · exact ⟨L, _, 2, .ref l3, rfl, rfl, SqL.of a7, rfl, k l3 H7 _ S07 (S47 _ _ a3) ⟨by decide, by decide, by decide⟩⟩
    · exact ⟨L, _, 3, .ref l4, rfl, rfl, SqL.of a7, rfl, k l4 H7 _ S07 (S57 _ _ a4) ⟨by decide, by decide, by decide⟩⟩
    · exact ⟨L, _, 4, .ref l5, rfl, rfl, SqL.of a7, rfl, k l5 H7 _ S07 (S67 _ _ a5) ⟨by decide, by decide, by decide⟩⟩
    · exact ⟨L, _, 5, .ref l6, rfl, rfl, SqL.of a7, rfl, k l6 H7 _ S07 (S7 _ _ a6) ⟨by show 0 < 1; decide, by show 1 ≤ 4; decide, fun x hx => by
        cases List.mem_singleton.mp hx
        exact ⟨x30, x31⟩⟩⟩
set_option maxHeartbeats 4000000 in
theorem ok_law_draws {f fC fM : Addr} {fd dC dM : FuncData} (A : FnAt K mg "_law_draws" s_law_draws ["_law_script", "_law_widths_here"] f fd) (A_law_cell_at : FnAt K mg "_law_cell_at" s_law_cell_at ["_law_script", "_law_k"] fC dC) (A_law_mix : FnAt K mg "_law_mix" s_law_mix ["_law_cell", "_law_k"] fM dM) (T : Txt K mg cN) : FnOk P w K mg base CX0 2 f fd ["_law_script", "_law_widths_here"] (sp_draws K) := by
  have G_law_cell_at : FnOk P w K mg base CX0 1 fC dC _ (sp_cell K) := ok_law_cell_at A_law_cell_at T
  have G_law_mix : FnOk P w K mg base CX0 1 fM dM _ sp_mix := ok_law_mix A_law_mix
  refine A.F.ok (k := 1) sc_law_draws (fun vs H Q E h => ?_) (fun cdv Ar outer s H vs Q E hr h => ?_)
  · obtain ⟨a, Wd, ns, ws, rfl, _⟩ := h
    rfl
  · obtain ⟨a, Wd, ns, ws, rfl, hS, hW, wo, k⟩ := h
    refine ⟨_, (pss_cons (ps_set (i := 2) sc_law_draws.nd rfl (Or.inl rfl) (pe_lst pa_nil))
      (pss_cons (ps_for PassesOwn.never rfl (pi_range1 rfl T.range_ (pa_cons (pe_callB call_len_seq (by rfl) T.len_ Boot.«len» (pa_cons (pv 1) pa_nil)) pa_nil)) (pg_name (i := 3) sc_law_draws.nd rfl (Or.inl rfl)) (pss_cons (ps_set (i := 4) sc_law_draws.nd rfl (Or.inl rfl) (pe_call G_law_mix (hr.mono (by decide)) rfl A_law_mix.m A_law_mix.F.kp A_law_mix.b .nil pass0 (pa_cons (pe_call G_law_cell_at (hr.mono (by decide)) rfl A_law_cell_at.m A_law_cell_at.F.kp A_law_cell_at.b .nil pass0 (pa_cons (pv 0) (pa_cons pe_int pa_nil))) (pa_cons (pe_op op_add (pv 3) pe_int) pa_nil))))
      (pss_cons (ps_set (i := 5) sc_law_draws.nd rfl (Or.inl rfl) (pe_lst pa_nil))
      (pss_cons (ps_for PassesOwn.never rfl (pi_range1 rfl T.range_ (pa_cons (pe_ix ix_list (pv 1) (pv 3) (fun _ _ => rfl)) pa_nil)) (pg_name (i := 6) sc_law_draws.nd rfl (Or.inl rfl)) (pss_cons (ps_set (i := 7) sc_law_draws.nd rfl (Or.inl rfl) (pe_call G_law_mix (hr.mono (by decide)) rfl A_law_mix.m A_law_mix.F.kp A_law_mix.b .nil pass0 (pa_cons (pv 4) (pa_cons (pv 6) pa_nil))))
      (pss_one (ps_expr (pe_bm PySem.F.plainAttrs_list PySem.F.slot_list_append PySem.F.type_list_append mt_append (pv 5) (pa_cons (pe_tup (pa_cons (pe_op op_add (pe_op op_mod (pv 4) pe_int) (pv 6)) (pa_cons (pe_op op_add pe_int (pe_ix ix_list (pe_lst (pa_cons (pe_op op_mod (pv 7) pe_int) (pa_cons (pe_op op_mod (pe_op op_mulB (pv 7) (pv 7)) (pe_op op_pow pe_int pe_int)) pa_nil))) (pe_op op_mod (pe_op op_fdivP (pv 4) pe_int) pe_int) (fun _ _ => rfl))) pa_nil))) pa_nil))))))
      (pss_one (ps_expr (pe_bm PySem.F.plainAttrs_list PySem.F.slot_list_append PySem.F.type_list_append mt_append (pv 2) (pa_cons (pv 5) pa_nil))))))))
      (pss_one (ps_ret (pv 2))))), ?_⟩
    have wl4 := wo.l4
    refine ⟨Nat.zero_le _, fun DA hDA => ?_⟩
    have S1 := Same.upd (o := .lst []) hDA
    have e1 : (upd H DA (.lst [])) DA = some (.lst []) := upd_same
    generalize upd H DA (.lst []) = H1 at S1 e1
    have lW : (ws.map nI).length = ws.length := List.length_map ..
    refine ⟨_, rfl, Wd, _, rfl, .inl (SqL.of (S1 _ _ hW)), ((ws.map nI).length : Int), rfl, by omega, by omega, for_range (lo := 0) (n := (((ws.map nI).length : Nat) : Int).toNat) (fun j σ H' => Same H H' ∧ ∃ (ps : List (Addr × List Dt)) (P : List (List (Int × Int))) (o3 o4 o5 o6 o7 : Option V), LLM K H' DA ps ∧ ps.map (·.2) = P.map mI ∧ (∀ d ∈ P, Gd d) ∧ P.map List.length = ws.take j ∧ σ = [some (.ref a), some (.ref Wd), some (.ref DA), o3, o4, o5, o6, o7])
      ⟨S1, [], [], none, none, none, none, none, ⟨e1, (fun _ h => nomatch h), (fun _ h => nomatch h)⟩, rfl, (fun _ h => nomatch h), rfl, rfl⟩ ?_ ?_⟩
    · rintro j σ H' hj ⟨S, ps, P, o3, o4, o5, o6, o7, ll, eps, gP, lP, rfl⟩
      have hj2 : j < ws.length := by omega
      obtain ⟨wd, hwd⟩ := get_ex hj2
      have wb := wo.w wd (List.mem_of_getElem? hwd)
      have lPj : P.length = j := by
        have := congrArg List.length lP
        rw [List.length_map, List.length_take] at this
        omega
      have lps : ps.length = P.length := by
        have := congrArg List.length eps
        rwa [List.length_map, List.length_map] at this
      refine ⟨_, rfl, a, ns, 0, rfl, S.seq hS, fun c2 => ⟨_, rfl, _, _, rfl, rfl, c2, _, rfl, by omega, by omega, fun m m0 m1 => ?_⟩⟩
      refine ⟨Nat.zero_le _, fun D hD => ?_⟩
      have hatW : atI (ws.map nI) (0 + (j : Int)) = some (nI wd) := atI0 (by rw [List.getElem?_map, hwd]; rfl)
      refine ⟨_, rfl, _, rfl, Wd, _, _, nI wd, rfl, rfl, SqL.of ((Same.upd hD) _ _ (S _ _ hW)), hatW, (wd : Int), rfl, by omega, by omega, for_range (lo := 0) (n := (wd : Int).toNat) (fun i σ H3 => Same H' H3 ∧ ∃ (d : List (Int × Int)) (us : List V) (o6 o7 : Option V), d.length = i ∧ H3 D = some (.lst us) ∧ DatsAt K H3 us (mI d) ∧ (∀ x ∈ wts d, 0 < x ∧ x ≤ 1000000) ∧ σ = [some (.ref a), some (.ref Wd), some (.ref DA), some (.int (0 + (j : Int))), some (.int m), some (.ref D), o6, o7])
        ⟨.upd hD, [], [], _, _, rfl, upd_same, .nil, (fun _ h => nomatch h), rfl⟩ ?_ ?_⟩
      · rintro i σ H3 hi ⟨S3, d, us, o6, o7, ld, eD, du, hw, rfl⟩
        have lu := du.length
        rw [List.length_map] at lu
        refine ⟨_, rfl, _, rfl, m, _, rfl, by omega, by omega, fun m2 m20 m21 => ?_⟩
        refine ⟨_, rfl, .inl ⟨rfl, _, SqL.of eD⟩, ?_⟩
        refine ⟨_, rfl, _, _, rfl, rfl, (by show (0 : Int) < 89; decide), _, rfl, _, _, rfl, rfl, ?_⟩
        refine ⟨_, rfl, _, _, rfl, rfl, (by show (0 : Int) < 3; decide), _, rfl, _, rfl, _, _, rfl, rfl, small_mul (by omega), _, _, rfl, rfl, ⟨by decide, by decide, by decide⟩, _, _, rfl, rfl, (by show (0 : Int) < 10 ^ (6 : Int).toNat; decide), two_le, fun L2 hL2 => ?_⟩
        dsimp only at hL2 ⊢
        have f1 : 0 ≤ m2 % 3 ∧ m2 % 3 < 1000000 := by omega
        have f2 : 0 ≤ m2 * m2 % 10 ^ (6 : Int).toNat ∧ m2 * m2 % 10 ^ (6 : Int).toNat < 1000000 := ⟨Int.emod_nonneg _ (by decide), Int.emod_lt_of_pos _ (by decide)⟩
        generalize m2 % 3 = y1 at hL2 f1
        generalize m2 * m2 % 10 ^ (6 : Int).toNat = y2 at hL2 f2
        have S4 := Same.upd (o := .lst [.int y1, .int y2]) hL2
        have e4 : (upd H3 L2 (.lst [.int y1, .int y2])) L2 = some (.lst [.int y1, .int y2]) := upd_same
        generalize upd H3 L2 (.lst [.int y1, .int y2]) = H4 at S4 e4
        obtain ⟨b2, hb2, b20, b21⟩ := menu_d y1 y2 (m / 89 % 2) (Int.emod_nonneg _ (by decide)) (Int.emod_lt_of_pos _ (by decide)) f1 f2
        refine ⟨_, rfl, _, _, rfl, rfl, ⟨by decide, by decide +kernel⟩, _, _, rfl, rfl, (by show (0 : Int) < 2; decide), L2, _, _, .int b2, rfl, rfl, SqL.of e4, hb2, _, _, rfl, rfl, two_le, fun t ht => ?_⟩
        dsimp only at ht ⊢
        generalize m % 89 + (0 + (i : Int)) = nb at ht
        generalize hwt : 1 + b2 = wt at ht
        have S5 := Same.upd (o := .tup [.int nb, .int wt]) ht
        have dt : DatAt K (upd H4 t (.tup [.int nb, .int wt])) (.ref t) (pI (nb, wt)) := .tup (SqT.of upd_same) (.cons (.int _) (.cons (.int _) .nil))
        generalize upd H4 t (.tup [.int nb, .int wt]) = H5 at S5 dt
        have S35 := S4.trans S5
        have eD5 := S35 _ _ eD
        refine ⟨D, us, _, rfl, rfl, eD5, Nat.lt_of_le_of_lt (show us.length ≤ 100 by omega) (by decide), ?_⟩
        refine ⟨fun q o eq => ?_, d ++ [(nb, wt)], _, _, _, by rw [List.length_append, ld]; rfl, upd_same, ?_, fun x hx => ?_, rfl⟩
        · rw [upd_ne (ne_of_none eq hD)]
          exact S35 _ _ (S3 _ _ eq)
        · rw [show mI (d ++ [(nb, wt)]) = mI d ++ [pI (nb, wt)] from List.map_append]
          exact ((du.same S35).append (.cons dt .nil)).updL eD5
        · rw [show wts (d ++ [(nb, wt)]) = wts d ++ [wt] from List.map_append] at hx
          rcases List.mem_append.mp hx with z | z
          · exact hw x z
          · cases List.mem_singleton.mp z
            omega
      · rintro σ H3 ⟨S3, d, us, o6, o7, ld, eD, du, hw, rfl⟩
        have S03 := S.trans S3
        have ll3 := ll.same S3
        have nDA : D ≠ DA := (ne_of_none ll.at_ hD).symm
        have gd : Gd d := ⟨by omega, by omega, hw⟩
        refine ⟨_, rfl, .inl ⟨rfl, _, SqL.of ll3.at_⟩, _, rfl, DA, _, _, rfl, rfl, ll3.at_, Nat.lt_of_le_of_lt (show (ps.map fun p => V.ref p.1).length ≤ 100 by rw [List.length_map]; omega) (by decide), ?_⟩
        refine ⟨fun q o eq => ?_, ps ++ [(D, mI d)], P ++ [d], _, _, _, _, _, ll3.snoc ⟨us, eD, du⟩ nDA, by rw [List.map_append, List.map_append, eps]; rfl, fun x hx => ?_, ?_, rfl⟩
        · rw [upd_ne (ne_of_none eq hDA)]
          exact S03 _ _ eq
        · rcases List.mem_append.mp hx with z | z
          · exact gP x z
          · cases List.mem_singleton.mp z
            exact gd
        · rw [take_snoc' hwd, List.map_append, lP]
          congr 1
          show [d.length] = [wd]
          rw [ld]
          simp
    · rintro σ H' ⟨S, ps, P, o3, o4, o5, o6, o7, ll, eps, gP, lP, rfl⟩
      rw [List.take_of_length_le (by omega)] at lP
      have lPl : P.length = ws.length := by rw [← lP, List.length_map]
      exact ⟨_, rfl, k DA H' ps P S ⟨ll, eps, gP, by omega⟩ lP⟩
end
end K40
namespace K40
open PySem L2 FW PyProof.Rows
open M44 hiding Prt site Gv Gs hvs way Ld Po Bst
def LfO (ps : List Prt) : Prop := ∀ (i : Nat) (o : Dt), ps[i]? = some (.lf o) → Oc o
theorem get_app {α : Type} {l : List α} {i : Nat} {x y : α} (h : l[i]? = some x) : (l ++ [y])[i]? = some x := by
  rw [List.getElem?_append_left (List.getElem?_eq_some_iff.mp h).1]
  exact h
theorem LfO.snoc {ps : List Prt} {p : Prt} (h : LfO ps) (hp : ∀ o, p = .lf o → Oc o) : LfO (ps ++ [p]) := fun i o e => by
  by_cases hi : i < ps.length
  · rw [List.getElem?_append_left hi] at e
    exact h i o e
  · rw [List.getElem?_append_right (by omega)] at e
    have hi2 : i - ps.length = 0 := by
      have := (List.getElem?_eq_some_iff.mp e).1
      simp at this
      omega
    rw [hi2] at e
    exact hp o (by simpa using e)
def Gw (ws : List Nat) (ps : List Prt) : Prop := ∀ (i k : Nat) (ch : List Nat), ps[i]? = some (.ask k ch) → ∃ wd, ws[k]? = some wd ∧ ch.length = wd ∧ ∀ c ∈ ch, c < i ∧ ∃ p', ps[c]? = some p' ∧ k < site ws.length p'
theorem Gw.gp {ws : List Nat} {ps : List Prt} {P : List (List (Int × Int))} (h : Gw ws ps) (e : P.map List.length = ws) : Gp P ps := fun i k ch hi => by
  obtain ⟨wd, h1, h2, h3⟩ := h i k ch hi
  have lP : P.length = ws.length := by rw [← e, List.length_map]
  rw [← e, List.getElem?_map] at h1
  cases hp : P[k]? with
  | none => rw [hp] at h1; cases h1
  | some d =>
    rw [hp] at h1
    cases h1
    refine ⟨d, rfl, h2, fun c hc => ?_⟩
    rw [lP]
    exact h3 c hc
theorem Gw.snoc {ws : List Nat} {parts : List Prt} {p : Prt} (h : Gw ws parts) (hp : ∀ k ch, p = .ask k ch → ∃ wd, ws[k]? = some wd ∧ ch.length = wd ∧ ∀ c ∈ ch, ∃ p', parts[c]? = some p' ∧ k < site ws.length p') : Gw ws (parts ++ [p]) := fun i k ch2 e => by
  by_cases hi : i < parts.length
  · rw [List.getElem?_append_left hi] at e
    obtain ⟨d2, h1, h2, h3⟩ := h i k ch2 e
    refine ⟨d2, h1, h2, fun c hc => ?_⟩
    obtain ⟨h4, p', h5, h6⟩ := h3 c hc
    exact ⟨h4, p', get_app h5, h6⟩
  · rw [List.getElem?_append_right (by omega)] at e
    have hi2 : i - parts.length = 0 := by
      have := (List.getElem?_eq_some_iff.mp e).1
      simp at this
      omega
    rw [hi2] at e
    have e' : p = .ask k ch2 := by simpa using e
    obtain ⟨wd, h1, h2, h3⟩ := hp k ch2 e'
    refine ⟨wd, h1, h2, fun c hcc => ?_⟩
    obtain ⟨p', h5, h6⟩ := h3 c hcc
    have := (List.getElem?_eq_some_iff.mp h5).1
    exact ⟨by omega, p', get_app h5, h6⟩
theorem PrsAt.push {K : PySem.W.Frag} {H : Hp} {A : Addr} {us : List V} {parts : List Prt} {v : V} {p : Prt} (h : PrsAt K H A us parts) (hv : PrtAt K A H v p) : PrsAt K (upd H A (.lst (us ++ [v]))) A (us ++ [v]) (parts ++ [p]) := by
  refine ⟨upd_same, by rw [List.length_append, List.length_append, h.l]; rfl, fun i x q e1 e2 => ?_⟩
  have l := h.l
  by_cases hi : i < us.length
  · rw [List.getElem?_append_left hi] at e1
    rw [List.getElem?_append_left (by omega)] at e2
    exact (h.p i x q e1 e2).push h.a
  · rw [List.getElem?_append_right (by omega)] at e1 e2
    have hi2 : i - us.length = 0 := by
      have := (List.getElem?_eq_some_iff.mp e1).1
      simp at this
      omega
    rw [hi2] at e1
    rw [show i - parts.length = 0 by omega] at e2
    cases e1
    cases e2
    exact hv.push h.a
def Okc (parts : List Prt) (L sn : Nat) (z : V) : Prop := ∃ c : Nat, z = nI c ∧ ∃ p', parts[c]? = some p' ∧ sn < site L p'
theorem site_gt {p : Prt} {L sn : Nat} (h : ((site 100 p : Nat) : Int) > (sn : Int)) (hL : sn < L) : sn < site L p := by
  cases p with
  | lf o => exact hL
  | ask k ch =>
    have h' : ((k : Nat) : Int) > (sn : Int) := h
    show sn < k
    omega
def sp_lists (K : PySem.W.Frag) : Sp := fun vs H Q _ => ∃ (a Wd : Addr) (ns : List Int) (ws : List Nat), vs = [.ref a, .ref Wd] ∧ SqL K H a (ns.map V.int) ∧ H Wd = some (.lst (ws.map nI)) ∧ WdOk ws ∧ ∀ (A : Addr) (H' : Hp) (us : List V) (parts : List Prt), Same H H' → PrsAt K H' A us parts → Gw ws parts → LfO parts → parts.length ≤ 60 → Q (.ref A) H'
section
variable {P : Program} {w : World} {K : PySem.W.Frag} {mg : Str → Option Value} {base : Heap} {cN : Addr}
set_option maxHeartbeats 8000000 in
theorem ok_law_lists {f fM fS fO : Addr} {fd dM dS dO : FuncData} (A : FnAt K mg "_law_lists" s_law_lists ["_law_script", "_law_widths_here"] f fd) (A_law_mix : FnAt K mg "_law_mix" s_law_mix ["_law_cell", "_law_k"] fM dM) (A_law_site : FnAt K mg "_law_site" s_law_site ["_law_entry"] fS dS) (A_law_outcome : FnAt K mg "_law_outcome" s_law_outcome ["_law_cell"] fO dO) (G_law_outcome : FnOk P w K mg base CX0 2 fO dO ["_law_cell"] (sp_outcome K)) (T : Txt K mg cN) : FnOk P w K mg base CX0 3 f fd ["_law_script", "_law_widths_here"] (sp_lists K) := by
  have G_law_mix : FnOk P w K mg base CX0 1 fM dM _ sp_mix := ok_law_mix A_law_mix
  have G_law_site : FnOk P w K mg base CX0 1 fS dS _ (sp_site K) := ok_law_site A_law_site
  refine A.F.ok (k := 2) sc_law_lists (fun vs H Q E h => ?_) (fun cdv Ar outer s H vs Q E hr h => ?_)
  · obtain ⟨a, Wd, ns, ws, rfl, _⟩ := h
    rfl
  · obtain ⟨a, Wd, ns, ws, rfl, hS, hW, wo, k⟩ := h
    refine ⟨_, (pss_cons (ps_set (i := 2) sc_law_lists.nd rfl (Or.inr rfl) (pe_lst pa_nil))
      (pss_cons (ps_for PassesOwn.never rfl (pi_range2 rfl T.range_ (pa_cons pe_int (pa_cons (pe_callB (call_min2 rfl) (by rfl) T.min_ Boot.«min» (pa_cons (pe_callB call_len_seq (by rfl) T.len_ Boot.«len» (pa_cons (pv 0) pa_nil)) (pa_cons pe_int pa_nil))) pa_nil))) (pg_name (i := 3) sc_law_lists.nd rfl (Or.inl rfl)) (pss_cons (ps_set (i := 4) sc_law_lists.nd rfl (Or.inr rfl) (pe_call G_law_mix (hr.mono (by decide)) rfl A_law_mix.m A_law_mix.F.kp A_law_mix.b .nil pass0 (pa_cons (pe_ix ix_list (pv 0) (pv 3) (fun _ _ => rfl)) (pa_cons (pv 3) pa_nil))))
      (pss_cons (ps_set (i := 5) sc_law_lists.nd rfl (Or.inr rfl) (pe_op op_mod (pe_call G_law_mix (hr.mono (by decide)) rfl A_law_mix.m A_law_mix.F.kp A_law_mix.b .nil pass0 (pa_cons (pv 4) (pa_cons pe_int pa_nil))) (pe_callB call_len_seq (by rfl) T.len_ Boot.«len» (pa_cons (pv 1) pa_nil))))
      (pss_cons (ps_set (i := 6) sc_law_lists.nd rfl (Or.inr rfl) (pe_comp rfl (Nc := ["_law_place", "_law_turn", "_law_parts"]) (caps2 1 5 2 2 [(".0", .local), ("_law_place", .local), ("_law_site", .globalImplicit), ("_law_parts", .cell), ("_law_turn", .cell)] rfl rfl rfl (by decide +kernel) (by decide +kernel) rfl rfl (by decide) (by decide +kernel) rfl rfl rfl rfl rfl rfl rfl rfl) (pi_range1 rfl T.range_ (pa_cons (pe_callB call_len_seq (by rfl) T.len_ Boot.«len» (pa_cons (pv 2) pa_nil)) pa_nil)) (fun _ _ _ _ => (pg_name (i := 0) (show List.Nodup (["_law_place", "_law_turn", "_law_parts"] : List Str) by decide +kernel) rfl (Or.inl rfl))) (fun _ _ _ _ => by exact (pts_one (pt_cmpR op_gt (pe_call G_law_site (hr.mono (by decide)) rfl A_law_site.m A_law_site.F.kp A_law_site.b .nil pass0 (pa_cons (pe_ix (ix_listK (K := K) rfl) (pv 2) (pv 0) (fun _ _ => rfl)) pa_nil)) (pv 1) (nomark _)))) (fun _ _ _ _ => (pv 0))))
      (pss_one (ps_if (PW.pt (pw_or (pt_cmpR op_eq (pe_callB call_len_seq (by rfl) T.len_ Boot.«len» (pa_cons (pv 6) pa_nil)) pe_int (nomark _)) (pw_or1 (pt_cmpR op_eq (pe_op op_mod (pv 4) pe_int) pe_int (nomark _))))) (pss_one (ps_expr (pe_bm PySem.F.plainAttrs_list PySem.F.slot_list_append PySem.F.type_list_append mt_append (pv 2) (pa_cons (pe_tup (pa_cons pe_str (pa_cons (pe_call G_law_outcome hr rfl A_law_outcome.m A_law_outcome.F.kp A_law_outcome.b .nil pass0 (pa_cons (pe_op op_fdivP (pv 4) pe_int) pa_nil)) pa_nil))) pa_nil)))) (pss_cons (ps_comp (i := 7) rfl sc_law_lists.nd rfl (Or.inl rfl) (Nc := ["_law_j", "_law_some", "_law_cell"]) (caps2 1 6 2 4 [(".0", .local), ("_law_j", .local), ("_law_mix", .globalImplicit), ("len", .globalImplicit), ("_law_cell", .cell), ("_law_some", .cell)] rfl rfl rfl (by decide +kernel) (by decide +kernel) rfl rfl (by decide) (by decide +kernel) rfl rfl rfl rfl rfl rfl rfl rfl) (pi_range1 rfl T.range_ (pa_cons (pe_ix ix_list (pv 1) (pv 5) (fun _ _ => rfl)) pa_nil)) (fun _ _ _ _ => (pg_name (i := 0) (show List.Nodup (["_law_j", "_law_some", "_law_cell"] : List Str) by decide +kernel) rfl (Or.inl rfl))) (fun _ _ _ _ => pts_nil) (fun _ _ _ _ => by exact (pe_ix (ix_listK (K := K) rfl) (pv 1) (pe_op op_mod (pe_call G_law_mix (hr.mono (by decide)) rfl A_law_mix.m A_law_mix.F.kp A_law_mix.b .nil pass0 (pa_cons (pv 2) (pa_cons (pe_op op_add pe_int (pv 0)) pa_nil))) (pe_callB (call_len_seqK (K := K) rfl) (by rfl) T.len_ Boot.«len» (pa_cons (pv 1) pa_nil))) (fun _ _ => rfl))))
      (pss_one (ps_expr (pe_bm PySem.F.plainAttrs_list PySem.F.slot_list_append PySem.F.type_list_append mt_append (pv 2) (pa_cons (pe_tup (pa_cons pe_str (pa_cons (pv 5) (pa_cons (pv 7) pa_nil)))) pa_nil)))))))))))
      (pss_one (ps_ret (pv 2))))), ?_⟩
    have wl0 := wo.l0
    have wl4 := wo.l4
    have lW : (ws.map nI).length = ws.length := List.length_map ..
    refine ⟨Nat.zero_le _, fun A hA => ?_⟩
    have S4 := Same.upd (o := .lst []) hA
    have pa4 : PrsAt K (upd H A (.lst [])) A [] [] := ⟨upd_same, rfl, fun i v p h1 h2 => by simp at h1⟩
    generalize upd H A (.lst []) = H4 at S4 pa4
    refine ⟨_, rfl, a, _, rfl, .inl (S4.seq hS), _, _, rfl, ?_⟩
    have hmin : (if (62 : Int) < ((ns.map V.int).length : Int) then (62 : Int) else ((ns.map V.int).length : Int)) ≤ 62 ∧ 0 ≤ (if (62 : Int) < ((ns.map V.int).length : Int) then (62 : Int) else ((ns.map V.int).length : Int)) ∧ (if (62 : Int) < ((ns.map V.int).length : Int) then (62 : Int) else ((ns.map V.int).length : Int)) ≤ (ns.length : Int) := by
      rw [List.length_map]
      split <;> omega
    generalize (if (62 : Int) < ((ns.map V.int).length : Int) then (62 : Int) else ((ns.map V.int).length : Int)) = hm at hmin
    refine ⟨2, hm, rfl, ⟨by decide, by decide, by omega, by omega⟩, for_range (lo := 2) (n := (hm - 2).toNat) (fun j σ H' => Same H H' ∧ ∃ (us : List V) (parts : List Prt) (o3 o4 o5 o6 o7 : Option V), PrsAt K H' A us parts ∧ Gw ws parts ∧ LfO parts ∧ parts.length = j ∧ σ = [some (.ref a), some (.ref Wd), some (.ref A), o3, o4, o5, o6, o7])
      ⟨S4, _, _, none, none, none, none, none, pa4, (fun i kk ch e => by simp at e), (fun i o e => by simp at e), rfl, rfl⟩ ?_ ?_⟩
    · rintro j σ H5 hj ⟨S5, us, parts, o3, o4, o5, o6, o7, pa, gp, lo, lp, rfl⟩
      have hus := pa.l
      have hjn : 2 + j < ns.length := by omega
      have hcell : (ns.map V.int)[2 + j]? = some (.int ns[2 + j]) := by rw [List.getElem?_map, List.getElem?_eq_getElem hjn]; rfl
      refine ⟨_, rfl, _, rfl, a, _, _, .int ns[2 + j], rfl, rfl, S5.seq hS, (by rw [show (2 : Int) + (j : Int) = ((2 + j : Nat) : Int) by omega]; exact atI_nat hcell), _, rfl, _, _, rfl, by omega, by omega, fun m m0 m1 => ?_⟩
      refine ⟨_, rfl, m, 1, rfl, by decide, by decide, fun mt mt0 mt1 => ⟨_, rfl, Wd, _, rfl, .inl (SqL.of (S5 _ _ hW)), _, _, rfl, rfl, (by show (0 : Int) < ((ws.map nI).length : Nat); omega), ?_⟩⟩
      dsimp only
      obtain ⟨sn, hsn, hsl⟩ : ∃ sn : Nat, mt % ((ws.map nI).length : Int) = (sn : Int) ∧ sn < ws.length := by
        have z0 := Int.emod_nonneg mt (show ((ws.map nI).length : Int) ≠ 0 by omega)
        have z1 := Int.emod_lt_of_pos mt (show (0 : Int) < ((ws.map nI).length : Int) by omega)
        exact ⟨(mt % ((ws.map nI).length : Int)).toNat, by omega, by omega⟩
      rw [hsn]
      refine ⟨_, rfl, A, _, rfl, .inl (SqL.of pa.a), (us.length : Int), rfl, by omega, by omega, fun D hD => ?_⟩
      refine comp_range (lo := 0) (n := us.length) (D := D) (fun i σ ys H' => (∃ o1, σ = [o1, some (nI sn), some (.ref A)]) ∧ Same H5 H' ∧ H' D = some (.lst ys) ∧ ys.length ≤ i ∧ (∀ z ∈ ys, Okc parts ws.length sn z))
        ⟨⟨none, rfl⟩, .upd hD, upd_same, Nat.le_refl _, (fun _ h => nomatch h)⟩ ?_ ?_ ?_
      · rintro i σ ys H6 hi ⟨_, S6, eD, ly, _⟩
        exact ⟨eD, Nat.lt_of_le_of_lt (show ys.length ≤ 200 by omega) (by decide)⟩
      · rintro i σ ys H6 hi ⟨⟨o1, rfl⟩, S6, eD, ly, hy⟩ N hN
        obtain ⟨v, hv⟩ := get_ex (l := us) (i := i) hi
        obtain ⟨p, hp, pv'⟩ := (pa.same S6).at hv
        refine ⟨_, rfl, _, rfl, A, us, _, v, rfl, rfl, SqL.of (S6 _ _ pa.a), atI0 hv, v, A, p, rfl, pv', _, rfl, _, _, rfl, rfl, _, rfl, iteBB (fun hc => ?_) (fun hc => ?_)⟩
        · have hgt : sn < site ws.length p := site_gt (of_decide_eq_true hc) hsl
          refine ⟨_, rfl, eD, hN _ _ _ ⟨⟨_, rfl⟩, fun b o eb => ?_, upd_same, by rw [List.length_append]; show ys.length + 1 ≤ _; omega, fun z hz => ?_⟩⟩
          · rw [upd_ne (ne_of_none eb hD)]
            exact S6 _ _ eb
          · rcases List.mem_append.mp hz with z1 | z1
            · exact hy z z1
            · cases List.mem_singleton.mp z1
              exact ⟨i, by rw [Int.zero_add], p, hp, hgt⟩
        · exact hN _ _ _ ⟨⟨_, rfl⟩, S6, eD, by omega, hy⟩
      rintro σ zs H6 ⟨_, S6, e9, ly, zs_ok⟩
      replace pa := pa.same S6
      have S09 := S5.trans S6
      have ea9 := pa.a
      refine' restG (fun rest => ⟨_, rfl, D, _, rfl, .inl (SqL.of e9), rfl, _, rfl, iteBB (fun _ => iteT rest) (fun hc => ⟨_, rfl, _, _, rfl, rfl, (by show (0 : Int) < 4; decide), rfl, _, rfl, iteBB (fun _ => rest) (fun _ => ?els)⟩)⟩) ?lf
      case lf =>
        refine ⟨_, rfl, .inl ⟨rfl, _, SqL.of pa.a⟩, _, rfl, _, _, rfl, rfl, ⟨by decide, by decide +kernel⟩, m / 4, rfl, by omega, by omega, fun o ho v H7 S7 hv => ⟨two_le, fun t ht => ?_⟩⟩
        have S8 := Same.upd (o := .tup [.str "leaf", v]) ht
        have e8 : SqT K (upd H7 t (.tup [.str "leaf", v])) t [.str "leaf", v] := SqT.of upd_same
        generalize upd H7 t (.tup [.str "leaf", v]) = H8 at S8 e8
        have hv8 := hv.same S8
        replace pa := pa.same (S7.trans S8)
        refine ⟨A, us, _, rfl, rfl, pa.a, Nat.lt_of_le_of_lt (show us.length ≤ 200 by omega) (by decide), ?_⟩
        have S0 : Same H (upd H8 A (.lst (us ++ [.ref t]))) := fun b o eb => by
          rw [upd_ne (ne_of_none eb hA)]
          exact S8 _ _ (S7 _ _ (S09 _ _ eb))
        refine ⟨S0, _, _, _, _, _, _, _, pa.push (.lf t v o e8 hv8), gp.snoc (fun k ch z => nomatch z), lo.snoc (fun o2 z => by cases z; exact ho), by rw [List.length_append, lp]; rfl, rfl⟩
      have zs_len : 0 < zs.length := by
        have h1 : ¬ ((zs.length : Int) = 0) := fun z => of_decide_eq_false hc (congrArg V.int z)
        omega
      obtain ⟨wd, hwd⟩ := get_ex hsl
      have wb := wo.w wd (List.mem_of_getElem? hwd)
      have hatW : atI (ws.map nI) (sn : Int) = some (nI wd) := atI_nat (by rw [List.getElem?_map, hwd]; rfl)
      refine ⟨_, rfl, _, rfl, Wd, _, _, nI wd, rfl, rfl, SqL.of (S09 _ _ hW), hatW, (wd : Int), rfl, by omega, by omega, fun D2 hD2 => ?_⟩
      refine comp_range (lo := 0) (n := (wd : Int).toNat) (D := D2) (fun i σ cs H' => (∃ o1, σ = [o1, some (.ref D), some (.int m)]) ∧ Same H6 H' ∧ H' D2 = some (.lst cs) ∧ ∃ ch : List Nat, cs = ch.map nI ∧ ch.length = i ∧ ∀ c ∈ ch, ∃ p', parts[c]? = some p' ∧ sn < site ws.length p')
        ⟨⟨none, rfl⟩, .upd hD2, upd_same, [], rfl, rfl, (fun _ h => nomatch h)⟩ ?_ ?_ ?_
      · rintro i σ cs H10 hi ⟨_, S10, eD2, ch, rfl, lc, _⟩
        exact ⟨eD2, Nat.lt_of_le_of_lt (show (ch.map nI).length ≤ 100 by rw [List.length_map]; omega) (by decide)⟩
      · rintro i σ cs H10 hi ⟨⟨o1, rfl⟩, S10, eD2, ch, rfl, lc, hch⟩ N hN
        refine iteT (B := True) ?_
        refine ⟨_, rfl, _, rfl, _, rfl, _, _, rfl, rfl, m, _, rfl, by omega, by omega, fun m2 m20 _ => ⟨_, rfl, D, _, rfl, .inl (SqL.of (S10 _ _ e9)), _, _, rfl, rfl, (by show (0 : Int) < (zs.length : Nat); omega), ?_⟩⟩
        have z0 := Int.emod_nonneg m2 (show ((zs.length : Nat) : Int) ≠ 0 by omega)
        have z1 := Int.emod_lt_of_pos m2 (show (0 : Int) < ((zs.length : Nat) : Int) by omega)
        obtain ⟨x, hx⟩ := get_ex (l := zs) (i := (m2 % (zs.length : Nat)).toNat) (by omega)
        obtain ⟨c2, rfl, p', hp', hs'⟩ := zs_ok x (List.mem_of_getElem? hx)
        have hat : atI zs (m2 % (zs.length : Nat)) = some (nI c2) := by
          have := atI_nat hx
          rw [show (((m2 % (zs.length : Nat)).toNat : Nat) : Int) = m2 % (zs.length : Nat) by omega] at this
          exact this
        refine ⟨D, zs, _, nI c2, rfl, rfl, SqL.of (S10 _ _ e9), hat, eD2, hN _ _ _ ⟨⟨_, rfl⟩, fun b o eb => ?_, upd_same, ch ++ [c2], by rw [List.map_append]; rfl, by rw [List.length_append, lc]; rfl, fun c hc => ?_⟩⟩
        · rw [upd_ne (ne_of_none eb hD2)]
          exact S10 _ _ eb
        · rcases List.mem_append.mp hc with z | z
          · exact hch c z
          · cases List.mem_singleton.mp z
            exact ⟨p', hp', hs'⟩
      rintro σ cs H10 ⟨_, S10, eD2, ch, rfl, lc, hch⟩
      replace pa := pa.same S10
      refine ⟨_, rfl, .inl ⟨rfl, _, SqL.of pa.a⟩, _, rfl, _, rfl, t3, fun t ht => ?_⟩
      have S11 := Same.upd (o := .tup [.str "ask", nI sn, .ref D2]) ht
      have e11 : SqT K (upd H10 t (.tup [.str "ask", nI sn, .ref D2])) t [.str "ask", nI sn, .ref D2] := SqT.of upd_same
      generalize upd H10 t (.tup [.str "ask", nI sn, .ref D2]) = H11 at S11 e11
      replace pa := pa.same S11
      have nDA : D2 ≠ A := fun z => by
        rw [z] at hD2
        exact absurd (ea9.symm.trans hD2) (fun y => nomatch y)
      refine ⟨A, us, _, rfl, rfl, pa.a, Nat.lt_of_le_of_lt (show us.length ≤ 200 by omega) (by decide), ?_⟩
      refine ⟨fun b o eb => ?_, _, _, _, _, _, _, _, pa.push (.ask t D2 sn ch e11 (S11 _ _ eD2) nDA), gp.snoc (fun k ch2 z => ?_), lo.snoc (fun o2 z => nomatch z), by rw [List.length_append, lp]; rfl, rfl⟩
      · rw [upd_ne (ne_of_none eb hA)]
        exact S11 _ _ (S10 _ _ (S09 _ _ eb))
      · cases z
        exact ⟨wd, hwd, by omega, hch⟩
    · rintro σ H' ⟨S, us, parts, o3, o4, o5, o6, o7, pa, gp, lo, lp, rfl⟩
      exact ⟨_, rfl, k A H' us parts S pa gp lo (by omega)⟩
end
end K40
namespace L2
open PySem PySem.Spec PyProof.Rows
section
variable {X : Cx} {K : PySem.W.Frag}
theorem sl_tupK (hK : X.K = K) : SlR X (rSlT K) := by
  subst hK
  exact sl_tup
theorem op_catTK (hK : X.K = K) : OpR X (binaryOp .Add) (rCatT K) := by
  subst hK
  exact op_catT
theorem call_tuple_ofK (hK : X.K = K) : CallR X (.type "tuple") (fun xs H Q => ∃ p ys, xs = [.ref p] ∧ ((SqL K H p ys ∧ ∀ l, H l = none → Q (.ref l) (upd H l (.tup ys))) ∨ (SqT K H p ys ∧ Q (.ref p) H))) := by
  subst hK
  exact call_tuple_of
theorem pi_tupK {tg l : Expr} {tl : TE} (hK : X.K = K) (hl : PE X l tl) : PI X tg l (iTup K tl) := by
  subst hK
  exact pi_tup hl
end
end L2
namespace K40
open PySem L2 FW PyProof.Rows
open M44 hiding Prt site Gv Gs hvs way Ld Po Bst
def sp_copy (K : PySem.W.Frag) : Sp := fun vs H Q _ => ∃ (A : Addr) (us : List V) (parts : List Prt), vs = [.ref A] ∧ PrsAt K H A us parts ∧ parts.length ≤ 100 ∧ ∀ (B : Addr) (H' : Hp) (zs : List V), Same H H' → H B = none → PrsAt K H' B zs parts → Q (.ref B) H'
section
variable {P : Program} {w : World} {K : PySem.W.Frag} {mg : Str → Option Value} {base : Heap} {cN : Addr}
set_option maxHeartbeats 2000000 in
theorem ok_law_copy {f : Addr} {fd : FuncData} (A : FnAt K mg "_law_copy" s_law_copy ["_law_parts"] f fd) (T : Txt K mg cN) : FnOk P w K mg base CX0 1 f fd ["_law_parts"] (sp_copy K) := by
  refine A.F.ok sc_law_copy (fun vs H Q E h => ?_) (fun cdv Ar outer s H vs Q E hr h => ?_)
  · obtain ⟨A, us, parts, rfl, _⟩ := h
    rfl
  · obtain ⟨A, us, parts, rfl, pa, hl, k⟩ := h
    refine ⟨_, (pss_one (ps_ret (pe_comp rfl (Nc := ["_law_entry"]) (caps0 rfl (by decide +kernel) (by decide +kernel) (by decide +kernel)) (pi_list (pv 0)) (fun _ _ _ _ => (pg_name (i := 0) (show List.Nodup (["_law_entry"] : List Str) by decide +kernel) rfl (Or.inl rfl))) (fun _ _ _ _ => pts_nil) (fun _ _ _ _ => by exact (pe_op (op_catTK (K := K) rfl) (pe_tup (pa_cons (pe_ix (ix_tupK (K := K) rfl) (pv 0) pe_int (fun _ _ => rfl)) (pa_cons (pe_ix (ix_tupK (K := K) rfl) (pv 0) pe_int (fun _ _ => rfl)) pa_nil))) (pe_callTy (call_tuple_ofK (K := K) rfl) (by rfl) T.tuple_ Boot.«tuple» (pa_cons (pe_comp rfl (Nc := ["_law_children"]) (caps0 rfl (by decide +kernel) (by decide +kernel) (by decide +kernel)) (pi_tupK (K := K) rfl (pe_slice (sl_tupK (K := K) rfl) (pv 0) (po_some pe_int) po_none)) (fun _ _ _ _ => (pg_name (i := 0) (show List.Nodup (["_law_children"] : List Str) by decide +kernel) rfl (Or.inl rfl))) (fun _ _ _ _ => pts_nil) (fun _ _ _ _ => by exact (pe_callTy (call_list_ofK (K := K) rfl) (by rfl) T.list_ Boot.«list» (pa_cons (pv 0) pa_nil)))) pa_nil))))))), ?_⟩
    have lus := pa.l
    refine ⟨_, rfl, A, rfl, ⟨_, SqL.of pa.a⟩, fun B hB => ?_⟩
    refine comp_list (K := K) (a := A) (D := B) (xs := us) (fun i σ ys H' => (∃ o1, σ = [o1]) ∧ Same H H' ∧ H' B = some (.lst ys) ∧ ys.length = i ∧ ∀ (j : Nat) (v : V) (p : Prt), ys[j]? = some v → parts[j]? = some p → PrtAt K B H' v p)
      ⟨⟨none, rfl⟩, .upd hB, upd_same, rfl, (fun j v p h => by simp at h)⟩ ?_ ?_ ?_
    · rintro i σ ys H' hi ⟨_, S, eB, ly, _⟩
      exact ⟨SqL.of (S _ _ pa.a), eB, Nat.lt_of_le_of_lt (show ys.length ≤ 100 by omega) (by decide)⟩
    · rintro i x σ ys H' hx ⟨⟨o1, rfl⟩, S, eB, ly, hy⟩ N hN
      obtain ⟨p, hp, px⟩ := (pa.same S).at hx
      refine iteT (B := True) ?_
      have fin : ∀ {v : V} {H2 : Hp}, Same H' H2 → PrtAt K B H2 v p → H2 B = some (.lst ys) ∧ N [some x] (ys ++ [v]) (upd H2 B (.lst (ys ++ [v]))) := fun {v H2} S2 pv => by
        have eB2 := S2 _ _ eB
        refine ⟨eB2, hN _ _ _ ⟨⟨_, rfl⟩, fun b o eb => ?_, upd_same, by rw [List.length_append, ly]; rfl, fun j v' p' h1 h2 => ?_⟩⟩
        · rw [upd_ne (ne_of_none eb hB)]
          exact S2 _ _ (S _ _ eb)
        · by_cases hj : j < ys.length
          · rw [List.getElem?_append_left hj] at h1
            exact ((hy j v' p' h1 h2).same S2).push eB2
          · rw [List.getElem?_append_right (by omega)] at h1
            have hj2 : j - ys.length = 0 := by
              have := (List.getElem?_eq_some_iff.mp h1).1
              simp at this
              omega
            rw [hj2] at h1
            cases h1
            have : j = i := by omega
            subst this
            rw [hp] at h2
            cases h2
            exact pv.push eB2
      have key : (∃ (r : Addr) (u : V), x = .ref r ∧ SqT K H' r [.str "leaf", u] ∧ ∀ (t : Addr) (H2 : Hp), Same H' H2 → SqT K H2 t [.str "leaf", u] → PrtAt K B H2 (.ref t) p) ∨ (∃ (r l : Addr) (kk : Nat) (ch : List Nat), x = .ref r ∧ p = .ask kk ch ∧ SqT K H' r [.str "ask", nI kk, .ref l] ∧ H' l = some (.lst (ch.map nI))) := by
        cases px with
        | lf r u o sv hu => exact .inl ⟨r, u, rfl, sv, fun _ _ e s => .lf _ u o s (hu.same e)⟩
        | ask r l kk ch sv hlc ne => exact .inr ⟨r, l, kk, ch, rfl, rfl, sv, hlc⟩
      rcases key with ⟨r, u, rfl, sv, mk⟩ | ⟨r, l, kk, ch, rfl, rfl, sv, hlc⟩
      · clear px
        refine ⟨_, rfl, r, _, 0, .str "leaf", rfl, rfl, sv, rfl, _, rfl, r, _, 1, u, rfl, rfl, sv, rfl, two_le, fun t ht => ?_⟩
        have S1 := Same.upd (o := .tup [.str "leaf", u]) ht
        have e1 : (upd H' t (.tup [.str "leaf", u])) t = some (.tup [.str "leaf", u]) := upd_same
        generalize upd H' t (.tup [.str "leaf", u]) = H1 at S1 e1
        refine ⟨_, rfl, _, rfl, r, _, rfl, S1.tup sv, (fun z => absurd z.1 (by show ¬ (HT.sIx 2 0 (some 2) = 0); decide)), fun q hq => ?_⟩
        have S2 := Same.upd (o := .tup (cutV [.str "leaf", u] (some 2) none)) hq
        have e2 : (upd H1 q (.tup (cutV [.str "leaf", u] (some 2) none))) q = some (.tup []) := upd_same
        generalize upd H1 q (.tup (cutV [.str "leaf", u] (some 2) none)) = H2 at S2 e2
        refine ⟨q, rfl, ⟨_, SqT.of e2⟩, fun D hD => ?_⟩
        refine comp_tup (K := K) (a := q) (D := D) (xs := []) (fun i σ zs H3 => zs = [] ∧ Same H2 H3 ∧ H3 D = some (.lst zs)) ⟨rfl, .upd hD, upd_same⟩ ?_ ?_ ?_
        · rintro i σ zs H3 _ ⟨rfl, S3, eD⟩
          exact ⟨S3.tup (SqT.of e2), eD, by decide⟩
        · rintro i x σ zs H3 hx
          simp at hx
        · rintro σ zs H3 ⟨rfl, S3, eD⟩
          refine ⟨D, [], rfl, .inl ⟨SqL.of eD, fun q2 hq2 => ?_⟩⟩
          have S4 := Same.upd (o := .tup []) hq2
          have S14 := S2.trans (S3.trans S4)
          refine ⟨t, q2, _, _, rfl, rfl, SqT.of (S14 _ _ e1), SqT.of upd_same, (by simp), (by show 2 ≤ sizeLine; decide), fun _ => ?_, fun z => absurd rfl z⟩
          exact fin (S1.trans S14) (mk _ _ (S1.trans S14) (SqT.of (S14 _ _ e1)))
      · clear px
        refine ⟨_, rfl, r, _, 0, .str "ask", rfl, rfl, sv, rfl, _, rfl, r, _, 1, nI kk, rfl, rfl, sv, rfl, two_le, fun t ht => ?_⟩
        have S1 := Same.upd (o := .tup [.str "ask", nI kk]) ht
        have e1 : (upd H' t (.tup [.str "ask", nI kk])) t = some (.tup [.str "ask", nI kk]) := upd_same
        generalize upd H' t (.tup [.str "ask", nI kk]) = H1 at S1 e1
        refine ⟨_, rfl, _, rfl, r, _, rfl, S1.tup sv, (fun z => absurd z.1 (by show ¬ (HT.sIx 3 0 (some 2) = 0); decide)), fun q hq => ?_⟩
        have S2 := Same.upd (o := .tup (cutV [.str "ask", nI kk, .ref l] (some 2) none)) hq
        have e2 : (upd H1 q (.tup (cutV [.str "ask", nI kk, .ref l] (some 2) none))) q = some (.tup [.ref l]) := upd_same
        generalize upd H1 q (.tup (cutV [.str "ask", nI kk, .ref l] (some 2) none)) = H2 at S2 e2
        have S02 := S1.trans S2
        refine ⟨q, rfl, ⟨_, SqT.of e2⟩, fun D hD => ?_⟩
        refine comp_tup (K := K) (a := q) (D := D) (xs := [.ref l]) (fun i σ zs H3 => (∃ o1, σ = [o1]) ∧ Same H2 H3 ∧ H3 D = some (.lst zs) ∧ (i = 0 → zs = []) ∧ (i = 1 → ∃ l', zs = [.ref l'] ∧ H3 l' = some (.lst (ch.map nI)) ∧ H2 l' = none)) ⟨⟨none, rfl⟩, .upd hD, upd_same, (fun _ => rfl), (fun z => nomatch z)⟩ ?_ ?_ ?_
        · rintro i σ zs H3 hi ⟨_, S3, eD, z0, z1⟩
          refine ⟨S3.tup (SqT.of e2), eD, Nat.lt_of_le_of_lt (show zs.length ≤ 1 from ?_) (by decide)⟩
          rcases (show i = 0 ∨ i = 1 by have : [V.ref l].length = 1 := rfl; omega) with rfl | rfl
          · rw [z0 rfl]; decide
          · obtain ⟨l', e, _⟩ := z1 rfl
            rw [e]; exact Nat.le_refl 1
        · rintro i x σ zs H3 hx ⟨⟨o1, rfl⟩, S3, eD, z0, z1⟩ N2 hN2
          have hi0 : i = 0 := by
            have := (List.getElem?_eq_some_iff.mp hx).1
            have e : [V.ref l].length = 1 := rfl
            omega
          subst hi0
          cases hx
          cases z0 rfl
          refine iteT (B := True) ?_
          refine ⟨_, rfl, l, _, rfl, .inl (SqL.of (S3 _ _ (S02 _ _ hlc))), fun l' hl' => ?_⟩
          have S4 := Same.upd (o := .lst (ch.map nI)) hl'
          have e4 : (upd H3 l' (.lst (ch.map nI))) l' = some (.lst (ch.map nI)) := upd_same
          generalize upd H3 l' (.lst (ch.map nI)) = H4 at S4 e4
          have nD : l' ≠ D := (ne_of_none eD hl').symm
          refine ⟨S4 _ _ eD, hN2 _ _ _ ⟨⟨_, rfl⟩, fun b o eb => ?_, upd_same, (fun z => nomatch z), fun _ => ⟨l', rfl, by rw [upd_ne nD]; exact e4, S3.free hl'⟩⟩⟩
          rw [upd_ne (ne_of_none eb hD)]
          exact S4 _ _ (S3 _ _ eb)
        · rintro σ zs H3 ⟨_, S3, eD, _, z1⟩
          obtain ⟨l', rfl, el', fl'⟩ := z1 rfl
          refine ⟨D, _, rfl, .inl ⟨SqL.of eD, fun q2 hq2 => ?_⟩⟩
          have S4 := Same.upd (o := .tup [.ref l']) hq2
          have e4 : (upd H3 q2 (.tup [.ref l'])) q2 = some (.tup [.ref l']) := upd_same
          generalize upd H3 q2 (.tup [.ref l']) = H4 at S4 e4
          have S14 := S2.trans (S3.trans S4)
          refine ⟨t, q2, _, _, rfl, rfl, SqT.of (S14 _ _ e1), SqT.of e4, (by simp), (by show 2 + 1 ≤ sizeLine; decide), (fun z => nomatch z), fun _ z hz => ?_⟩
          have S5 := Same.upd (o := .tup ([.str "ask", nI kk] ++ [.ref l'])) hz
          exact fin (S1.trans (S14.trans S5)) (.ask z l' kk ch (SqT.of upd_same) (S5 _ _ (S4 _ _ el')) (ne_of_none (S02 _ _ eB) fl').symm)
    · rintro σ ys H' ⟨_, S, eB, ly, hy⟩
      exact k B H' ys S hB ⟨eB, by omega, hy⟩
end
end K40
namespace K40
open PySem L2 FW PyProof.Rows
open M44 hiding Prt site Gv Gs hvs way Ld Po Bst
structure RvW (ws row : List Nat) : Prop where
  len : row.length = ws.length
  it : ∀ (k wd : Nat), ws[k]? = some wd → ∃ j, row[k]? = some j ∧ j < wd
theorem all_snoc (ws : List Nat) (w : Nat) : allRows (ws ++ [w]) = longer (allRows ws) w := by
  unfold allRows
  rw [List.foldl_append]
  rfl
theorem longer_len (rows : List (List Nat)) (w : Nat) : (longer rows w).length = rows.length * w := by
  unfold longer
  induction rows with
  | nil => simp
  | cons r rows ih => rw [List.flatMap_cons, List.length_append, ih, List.length_map, List.length_range, List.length_cons, Nat.add_mul]; omega
theorem all_len {ws : List Nat} (h : ∀ x ∈ ws, x ≤ 6) : (allRows ws).length ≤ 6 ^ ws.length := by
  have : ∀ (n : Nat), n ≤ ws.length → (allRows (ws.take n)).length ≤ 6 ^ n := fun n => by
    induction n with
    | zero => intro _; rw [List.take_zero]; exact Nat.le_refl _
    | succ n ih =>
      intro hn
      have hl : n < ws.length := by omega
      rw [take_snoc' (List.getElem?_eq_getElem hl), all_snoc, longer_len, Nat.pow_succ]
      exact Nat.mul_le_mul (ih (by omega)) (h _ (List.getElem_mem hl))
  have := this ws.length (Nat.le_refl _)
  rwa [List.take_of_length_le (Nat.le_refl _)] at this
theorem all_mem : ∀ (n : Nat) (ws : List Nat), ws.length = n → ∀ row, row ∈ allRows ws ↔ RvW ws row
  | 0, ws, hn, row => by
    have e : ws = [] := List.eq_nil_of_length_eq_zero hn
    subst e
    show row ∈ [[]] ↔ _
    rw [List.mem_singleton]
    exact ⟨fun z => by rw [z]; exact ⟨rfl, fun k wd h => by simp at h⟩, fun z => List.eq_nil_of_length_eq_zero z.len⟩
  | n + 1, ws, hn, row => by
    have ne : ws ≠ [] := fun z => by rw [z] at hn; simp at hn
    have e := List.dropLast_concat_getLast ne
    generalize ws.dropLast = vs at e
    generalize ws.getLast ne = w at e
    subst e
    have lv : vs.length = n := by
      rw [List.length_append] at hn
      simpa using hn
    rw [all_snoc]
    unfold longer
    rw [List.mem_flatMap]
    constructor
    · rintro ⟨r, hr, hrow⟩
      obtain ⟨t, ht, rfl⟩ := List.mem_map.mp hrow
      have rv := (all_mem n vs lv r).mp hr
      have lt := List.mem_range.mp ht
      refine ⟨by rw [List.length_append, List.length_append, rv.len]; rfl, fun k wd h => ?_⟩
      by_cases hk : k < vs.length
      · rw [List.getElem?_append_left hk] at h
        obtain ⟨j, h1, h2⟩ := rv.it k wd h
        exact ⟨j, by rw [List.getElem?_append_left (by rw [rv.len]; exact hk)]; exact h1, h2⟩
      · rw [List.getElem?_append_right (by omega)] at h
        have hz : k - vs.length = 0 := by
          have := (List.getElem?_eq_some_iff.mp h).1
          simp at this
          omega
        rw [hz] at h
        cases h
        refine ⟨t, ?_, lt⟩
        rw [List.getElem?_append_right (by rw [rv.len]; omega), rv.len, hz]
        rfl
    · intro rv
      have ll := rv.len
      rw [List.length_append] at ll
      have ll' : row.length = vs.length + 1 := ll
      have nr : row ≠ [] := fun z => by rw [z] at ll'; simp at ll'
      have er := List.dropLast_concat_getLast nr
      generalize row.dropLast = r at er
      generalize row.getLast nr = t at er
      subst er
      have lr : r.length = vs.length := by
        rw [List.length_append] at ll'
        simpa using ll'
      refine ⟨r, (all_mem n vs lv r).mpr ⟨lr, fun k wd h => ?_⟩, List.mem_map.mpr ⟨t, List.mem_range.mpr ?_, rfl⟩⟩
      · have hk := (List.getElem?_eq_some_iff.mp h).1
        obtain ⟨j, h1, h2⟩ := rv.it k wd (by rw [List.getElem?_append_left hk]; exact h)
        rw [List.getElem?_append_left (by omega)] at h1
        exact ⟨j, h1, h2⟩
      · obtain ⟨j, h1, h2⟩ := rv.it vs.length w (by rw [List.getElem?_append_right (Nat.le_refl _), Nat.sub_self]; rfl)
        rw [List.getElem?_append_right (by omega), lr, Nat.sub_self] at h1
        cases h1
        exact h2
structure RwsAt (H : Hp) (Rr : Addr) (rs : List Addr) (rows : List (List Nat)) : Prop where
  a : H Rr = some (.lst (rs.map V.ref))
  l : rs.length = rows.length
  it : ∀ (i : Nat) (r : Addr) (row : List Nat), rs[i]? = some r → rows[i]? = some row → H r = some (.lst (row.map nI)) ∧ r ≠ Rr
theorem RwsAt.same {H H' : Hp} {Rr : Addr} {rs : List Addr} {rows : List (List Nat)} (h : RwsAt H Rr rs rows) (e : Same H H') : RwsAt H' Rr rs rows := ⟨e _ _ h.a, h.l, fun i r row h1 h2 => ⟨e _ _ (h.it i r row h1 h2).1, (h.it i r row h1 h2).2⟩⟩
theorem RwsAt.at {H : Hp} {Rr : Addr} {rs : List Addr} {rows : List (List Nat)} (h : RwsAt H Rr rs rows) {i : Nat} {v : V} (e : (rs.map V.ref)[i]? = some v) : ∃ r row, v = .ref r ∧ rs[i]? = some r ∧ rows[i]? = some row ∧ H r = some (.lst (row.map nI)) := by
  obtain ⟨r, h1, h2⟩ := map_get e
  have hi := (List.getElem?_eq_some_iff.mp h1).1
  have l := h.l
  have h3 : rows[i]? = some (rows[i]'(by omega)) := List.getElem?_eq_getElem (by omega)
  exact ⟨r, _, h2.symm, h1, h3, (h.it i r _ h1 h3).1⟩
theorem RwsAt.push {H : Hp} {Rr r : Addr} {rs : List Addr} {rows : List (List Nat)} {row : List Nat} (h : RwsAt H Rr rs rows) (e : H r = some (.lst (row.map nI))) (n : r ≠ Rr) : RwsAt (upd H Rr (.lst (rs.map V.ref ++ [.ref r]))) Rr (rs ++ [r]) (rows ++ [row]) := by
  refine ⟨by rw [upd_same, List.map_append]; rfl, by rw [List.length_append, List.length_append, h.l]; rfl, fun i x y e1 e2 => ?_⟩
  have l := h.l
  by_cases hi : i < rs.length
  · rw [List.getElem?_append_left hi] at e1
    rw [List.getElem?_append_left (by omega)] at e2
    have := h.it i x y e1 e2
    exact ⟨by rw [upd_ne this.2]; exact this.1, this.2⟩
  · rw [List.getElem?_append_right (by omega)] at e1 e2
    have hz : i - rs.length = 0 := by
      have := (List.getElem?_eq_some_iff.mp e1).1
      simp at this
      omega
    rw [hz] at e1
    rw [show i - rows.length = 0 by omega] at e2
    cases e1
    cases e2
    exact ⟨by rw [upd_ne n]; exact e, n⟩
def sp_rows (K : PySem.W.Frag) : Sp := fun vs H Q _ => ∃ (Wd : Addr) (ws : List Nat), vs = [.ref Wd] ∧ H Wd = some (.lst (ws.map nI)) ∧ WdOk ws ∧ ∀ (Rr : Addr) (H' : Hp) (rs : List Addr), Same H H' → RwsAt H' Rr rs (allRows ws) → Q (.ref Rr) H'
def sp_lead (K : PySem.W.Frag) : Sp := fun vs H Q _ => ∃ (A Ra : Addr) (us : List V) (parts : List Prt) (ws row : List Nat) (i : Nat), vs = [.ref A, nI i, .ref Ra] ∧ PrsAt K H A us parts ∧ H Ra = some (.lst (row.map nI)) ∧ Gw ws parts ∧ RvW ws row ∧ i < parts.length ∧ ∀ (u : V) (o : Dt), Ld parts row i o → DatAt K H u o → Q u H
section
variable {P : Program} {w : World} {K : PySem.W.Frag} {mg : Str → Option Value} {base : Heap} {cN : Addr}
set_option maxHeartbeats 2000000 in
theorem ok_law_lead {f : Addr} {fd : FuncData} (A : FnAt K mg "_law_lead" s_law_lead ["_law_parts", "_law_place", "_law_row"] f fd) : FnOk P w K mg base CX0 1 f fd ["_law_parts", "_law_place", "_law_row"] (sp_lead K) := by
  refine A.F.ok sc_law_lead (fun vs H Q E h => ?_) (fun cdv Ar outer s H vs Q E hr h => ?_)
  · obtain ⟨A, Ra, us, parts, ws, row, i, rfl, _⟩ := h
    rfl
  · obtain ⟨A, Ra, us, parts, ws, row, i, rfl, pa, hR, gw, rv, hi, k⟩ := h
    refine ⟨_, (pss_cons (ps_set (i := 3) sc_law_lead.nd rfl (Or.inl rfl) (pe_ix ix_list (pv 0) (pv 1) (fun _ _ => rfl)))
      (pss_cons (ps_while PassesOwn.never (pt_cmpR op_eq (pe_ix ix_tup (pv 3) pe_int (fun _ _ => rfl)) pe_str (nomark _)) (pss_one (ps_set (i := 3) sc_law_lead.nd rfl (Or.inl rfl) (pe_ix ix_list (pv 0) (pe_ix ix_list (pe_ix ix_tup (pv 3) pe_int (fun _ _ => rfl)) (pe_ix ix_list (pv 2) (pe_ix ix_tup (pv 3) pe_int (fun _ _ => rfl)) (fun _ _ => rfl)) (fun _ _ => rfl)) (fun _ _ => rfl)))))
      (pss_one (ps_ret (pe_ix ix_tup (pv 3) pe_int (fun _ _ => rfl)))))), ?_⟩
    have lus := pa.l
    obtain ⟨v0, hv0⟩ := get_ex (l := us) (i := i) (by omega)
    refine ⟨_, rfl, _, rfl, A, us, _, v0, rfl, rfl, SqL.of pa.a, atI_nat hv0, ?_⟩
    refine ⟨fun m σ H' => H' = H ∧ ∃ v, us[m]? = some v ∧ σ = [some (.ref A), some (nI i), some (.ref Ra), some v] ∧ ∀ o, Ld parts row m o → Ld parts row i o, ⟨i, rfl, v0, hv0, rfl, fun _ z => z⟩, ?_⟩
    rintro c σ H' ⟨rfl, v, hv, rfl, ld⟩
    obtain ⟨p, hp, px⟩ := pa.at hv
    cases px with
    | lf r u o sv hu =>
      refine ⟨_, rfl, r, _, 0, .str "leaf", rfl, rfl, sv, rfl, rfl, _, rfl, iteBB (fun hc => absurd hc (by decide +kernel)) (fun _ => ?_)⟩
      exact ⟨_, rfl, r, _, 1, u, rfl, rfl, sv, rfl, k u o (ld _ (.lf c o hp)) hu⟩
    | ask r l kk ch sv hlc ne =>
      refine ⟨_, rfl, r, _, 0, .str "ask", rfl, rfl, sv, rfl, rfl, _, rfl, iteBB (fun _ => ?_) (fun hc => absurd hc (by decide +kernel))⟩
      obtain ⟨wd, hwd, lch, hch⟩ := gw c kk ch hp
      obtain ⟨j, hj, lj⟩ := rv.it kk wd hwd
      obtain ⟨c2, hc2⟩ := get_ex (l := ch) (i := j) (by omega)
      obtain ⟨lt, p', hp', _⟩ := hch c2 (List.mem_of_getElem? hc2)
      have lc2 := (List.getElem?_eq_some_iff.mp hp').1
      obtain ⟨v2, hv2⟩ := get_ex (l := us) (i := c2) (by omega)
      refine ⟨_, fun _ _ z => z, ?_⟩
      refine ⟨_, rfl, _, rfl, r, _, 2, .ref l, rfl, rfl, sv, rfl, _, rfl, _, rfl, r, _, 1, nI kk, rfl, rfl, sv, rfl, Ra, _, _, nI j, rfl, rfl, SqL.of hR, atI_nat (by rw [List.getElem?_map, hj]; rfl), l, _, _, nI c2, rfl, rfl, SqL.of hlc, atI_nat (by rw [List.getElem?_map, hc2]; rfl), A, us, _, v2, rfl, rfl, SqL.of pa.a, atI_nat hv2, ?_⟩
      have ec : ch.getD (row.getD kk 0) 0 = c2 := by rw [M44.getD_of hj, M44.getD_of hc2]
      exact ⟨c2, lt, rfl, v2, hv2, rfl, fun o z => ld o (.ask c kk ch o hp (by rw [ec]; exact z))⟩
set_option maxHeartbeats 4000000 in
theorem ok_law_rows {f : Addr} {fd : FuncData} (A : FnAt K mg "_law_rows" s_law_rows ["_law_widths_here"] f fd) (T : Txt K mg cN) : FnOk P w K mg base CX0 1 f fd ["_law_widths_here"] (sp_rows K) := by
  refine A.F.ok sc_law_rows (fun vs H Q E h => ?_) (fun cdv Ar outer s H vs Q E hr h => ?_)
  · obtain ⟨Wd, ws, rfl, _⟩ := h
    rfl
  · obtain ⟨Wd, ws, rfl, hW, wo, k⟩ := h
    refine ⟨_, (pss_cons (ps_set (i := 1) sc_law_rows.nd rfl (Or.inl rfl) (pe_lst (pa_cons (pe_lst pa_nil) pa_nil)))
      (pss_cons (ps_for PassesOwn.never rfl (pi_list (pv 0)) (pg_name (i := 2) sc_law_rows.nd rfl (Or.inl rfl)) (pss_cons (ps_set (i := 3) sc_law_rows.nd rfl (Or.inl rfl) (pe_lst pa_nil))
      (pss_cons (ps_for PassesOwn.never rfl (pi_list (pv 1)) (pg_name (i := 4) sc_law_rows.nd rfl (Or.inl rfl)) (pss_one (ps_for PassesOwn.never rfl (pi_range1 rfl T.range_ (pa_cons (pv 2) pa_nil)) (pg_name (i := 5) sc_law_rows.nd rfl (Or.inl rfl)) (pss_one (ps_expr (pe_bm PySem.F.plainAttrs_list PySem.F.slot_list_append PySem.F.type_list_append mt_append (pv 3) (pa_cons (pe_op op_cat (pv 4) (pe_lst (pa_cons (pv 5) pa_nil))) pa_nil)))))))
      (pss_one (ps_set (i := 1) sc_law_rows.nd rfl (Or.inl rfl) (pv 3))))))
      (pss_one (ps_ret (pv 1))))), ?_⟩
    have wl4 := wo.l4
    have lW : (ws.map nI).length = ws.length := List.length_map ..
    refine ⟨Nat.zero_le _, fun L0 hL0 => ⟨t1, fun R0 hR0 => ?_⟩⟩
    have S1 := (Same.upd (o := .lst []) hL0).trans (Same.upd (o := .lst [.ref L0]) hR0)
    have rw0 : RwsAt (upd (upd H L0 (.lst [])) R0 (.lst [.ref L0])) R0 [L0] (allRows []) := ⟨upd_same, rfl, fun i r row h1 h2 => by
      cases i with
      | zero =>
        cases h1
        cases h2
        exact ⟨(Same.upd hR0) _ _ upd_same, ne_of_none upd_same hR0⟩
      | succ i => cases h1⟩
    generalize upd (upd H L0 (.lst [])) R0 (.lst [.ref L0]) = H1 at S1 rw0
    refine ⟨_, rfl, Wd, rfl, ⟨_, SqL.of (S1 _ _ hW)⟩, for_list (K := K) (a := Wd) (xs := ws.map nI) (fun i σ H' => Same H H' ∧ ∃ (Rr : Addr) (rs : List Addr) (o2 o3 o4 o5 : Option V), RwsAt H' Rr rs (allRows (ws.take i)) ∧ σ = [some (.ref Wd), some (.ref Rr), o2, o3, o4, o5])
      ⟨S1, R0, [L0], none, none, none, none, rw0, rfl⟩ (fun i σ H' _ z => SqL.of (z.1 _ _ hW)) ?_ ?_⟩
    · rintro i x σ H2 hx ⟨S2, Rr, rs, o2, o3, o4, o5, rw2, rfl⟩
      obtain ⟨wd, hwd, rfl⟩ := map_get hx
      have wb := wo.w wd (List.mem_of_getElem? hwd)
      have hi := (List.getElem?_eq_some_iff.mp hwd).1
      have len2 : rs.length ≤ 216 := by
        rw [rw2.l]
        have h1 := all_len (ws := ws.take i) fun x hx => (wo.w x (List.mem_of_mem_take hx)).2
        rw [List.length_take] at h1
        have h2 : 6 ^ min i ws.length ≤ 6 ^ 3 := Nat.pow_le_pow_right (by decide) (by omega)
        exact Nat.le_trans h1 h2
      have rl : ∀ row ∈ allRows (ws.take i), row.length ≤ 100 := fun row hr => by
        have := ((all_mem _ (ws.take i) rfl row).mp hr).len
        rw [List.length_take] at this
        omega
      have hnext : allRows (ws.take (i + 1)) = longer (allRows (ws.take i)) wd := by rw [take_snoc' hwd, all_snoc]
      generalize allRows (ws.take i) = rows at rw2 rl hnext
      have lrs := rw2.l
      refine ⟨Nat.zero_le _, fun D hD => ?_⟩
      have S3 := Same.upd (o := .lst []) hD
      have rwD : RwsAt (upd H2 D (.lst [])) D [] (longer (rows.take 0) wd) := ⟨upd_same, rfl, fun i r row h1 => by simp at h1⟩
      generalize upd H2 D (.lst []) = H3 at S3 rwD
      have nD : ∀ {b : Addr} {o : HO}, H2 b = some o → b ≠ D := fun {b o} e => ne_of_none e hD
      refine ⟨_, rfl, Rr, rfl, ⟨_, SqL.of (S3 _ _ rw2.a)⟩, for_list (K := K) (a := Rr) (xs := rs.map V.ref) (fun j σ H' => Same H2 H' ∧ ∃ (ds : List Addr) (o4 o5 : Option V), RwsAt H' D ds (longer (rows.take j) wd) ∧ σ = [some (.ref Wd), some (.ref Rr), some (nI wd), some (.ref D), o4, o5])
        ⟨S3, [], _, _, rwD, rfl⟩ (fun j σ H' _ z => SqL.of (z.1 _ _ rw2.a)) ?_ ?_⟩
      · rintro j y σ H4 hy ⟨S4, ds, o4, o5, rwd, rfl⟩
        obtain ⟨r, row, rfl, hr2, hrow, er⟩ := (rw2.same S4).at hy
        have lj := (List.getElem?_eq_some_iff.mp hr2).1
        have ld := rwd.l
        rw [longer_len, List.length_take] at ld
        have ldb : ds.length ≤ 216 * 6 := by
          rw [ld]
          exact Nat.mul_le_mul (by omega) wb.2
        refine ⟨_, rfl, (wd : Int), rfl, by omega, by omega, for_range (lo := 0) (n := (wd : Int).toNat) (fun t σ H' => Same H2 H' ∧ ∃ (ds : List Addr) (o5 : Option V), ds.length ≤ 216 * 6 + t ∧ RwsAt H' D ds (longer (rows.take j) wd ++ (List.range t).map fun t => row ++ [t]) ∧ σ = [some (.ref Wd), some (.ref Rr), some (nI wd), some (.ref D), some (.ref r), o5])
          ⟨S4, ds, _, by omega, by rw [List.range_zero, List.map_nil, List.append_nil]; exact rwd, rfl⟩ ?_ ?_⟩
        · rintro t σ H5 ht ⟨S5, es, o5, le, rwe, rfl⟩
          have er5 := S5 _ _ (rw2.it j r row hr2 hrow).1
          refine ⟨_, rfl, .inl ⟨rfl, _, SqL.of rwe.a⟩, _, rfl, _, rfl, t1, fun b hb => ?_⟩
          have S6 := Same.upd (o := .lst [.int (0 + (t : Int))]) hb
          have e6 : (upd H5 b (.lst [.int (0 + (t : Int))])) b = some (.lst [.int (0 + (t : Int))]) := upd_same
          generalize upd H5 b (.lst [.int (0 + (t : Int))]) = H6 at S6 e6
          have lrow := rl row (List.mem_of_getElem? hrow)
          refine ⟨r, b, _, _, rfl, rfl, S6 _ _ er5, e6, Nat.le_trans (show (row.map nI).length + 1 ≤ 200 by rw [List.length_map]; omega) (by decide), fun q hq => ?_⟩
          have S7 := Same.upd (o := .lst (row.map nI ++ [.int (0 + (t : Int))])) hq
          have e7 : (upd H6 q (.lst (row.map nI ++ [.int (0 + (t : Int))]))) q = some (.lst ((row ++ [t]).map nI)) := by rw [upd_same, List.map_append, Int.zero_add]; rfl
          generalize upd H6 q (.lst (row.map nI ++ [.int (0 + (t : Int))])) = H7 at S7 e7
          have S57 := S6.trans S7
          have rw7 := rwe.same S57
          refine ⟨D, _, _, rfl, rfl, rw7.a, Nat.lt_of_le_of_lt (show (es.map V.ref).length ≤ 2000 by rw [List.length_map]; omega) (by decide), fun c o ec => ?_, es ++ [q], _, by rw [List.length_append]; show es.length + 1 ≤ _; omega, ?_, rfl⟩
          · rw [upd_ne (nD ec)]
            exact S57 _ _ (S5 _ _ ec)
          · rw [List.range_succ, List.map_append, ← List.append_assoc]
            exact rw7.push e7 (ne_of_none (S6 _ _ rwe.a) hq).symm
        · rintro σ H5 ⟨S5, es, o5, le, rwe, rfl⟩
          refine ⟨S5, es, _, _, ?_, rfl⟩
          have e8 : longer (rows.take (j + 1)) wd = longer (rows.take j) wd ++ (List.range wd).map fun t => row ++ [t] := by
            unfold longer
            rw [take_snoc' hrow, List.flatMap_append]
            simp
          rw [e8]
          rw [Int.toNat_natCast] at rwe
          exact rwe
      · rintro σ H4 ⟨S4, ds, o4, o5, rwd, rfl⟩
        rw [List.length_map, List.take_of_length_le (by omega)] at rwd
        refine ⟨_, rfl, S2.trans S4, D, ds, _, _, _, _, ?_, rfl⟩
        rw [hnext]
        exact rwd
    · rintro σ H2 ⟨S2, Rr, rs, o2, o3, o4, o5, rw2, rfl⟩
      rw [lW, List.take_of_length_le (Nat.le_refl _)] at rw2
      exact ⟨_, rfl, k Rr H2 rs S2 rw2⟩
end
end K40
namespace K40
open PySem L2 FW PyProof.Rows
open M44 hiding Prt site Gv Gs hvs way Ld Po Bst
theorem rv_of {ws row : List Nat} {P : List (List (Int × Int))} (e : P.map List.length = ws) : RvW ws row ↔ Rv (Dw P) row := by
  have lP : P.length = ws.length := by rw [← e, List.length_map]
  constructor
  · intro h
    refine ⟨by rw [h.len, dw_len, lP], fun k d hd => ?_⟩
    obtain ⟨p, hp, rfl⟩ := map_get hd
    obtain ⟨j, h1, h2⟩ := h.it k p.length (by rw [← e, List.getElem?_map, hp]; rfl)
    exact ⟨j, h1, by rw [List.length_map]; exact h2⟩
  · intro h
    refine ⟨by rw [h.len, dw_len, lP], fun k wd hk => ?_⟩
    rw [← e] at hk
    obtain ⟨p, hp, rfl⟩ := map_get hk
    obtain ⟨j, h1, h2⟩ := h.it k (wts p) (by rw [List.getElem?_map, hp]; rfl)
    exact ⟨j, h1, by rw [List.length_map] at h2; exact h2⟩
def sp_weights (K : PySem.W.Frag) : Sp := fun vs H Q _ => ∃ (Rr DA : Addr) (ws : List Nat) (rs : List Addr) (ps : List (Addr × List Dt)) (P : List (List (Int × Int))), vs = [.ref Rr, .ref DA] ∧ WdOk ws ∧ RwsAt H Rr rs (allRows ws) ∧ DrsAt K H DA ps P ∧ P.map List.length = ws ∧
  ∀ (Wl : Addr) (H' : Hp), Same H H' → H Wl = none → H' Wl = some (.lst (((allRows ws).map fun row => Wt (Dw P) row 0).map V.int)) → Q (.ref Wl) H'
section
variable {P : Program} {w : World} {K : PySem.W.Frag} {mg : Str → Option Value} {base : Heap} {cN : Addr}
set_option maxHeartbeats 4000000 in
theorem ok_law_weights {f : Addr} {fd : FuncData} (A : FnAt K mg "_law_weights" s_law_weights ["_law_rows_here", "_law_draws_here"] f fd) (T : Txt K mg cN) : FnOk P w K mg base CX0 1 f fd ["_law_rows_here", "_law_draws_here"] (sp_weights K) := by
  refine A.F.ok sc_law_weights (fun vs H Q E h => ?_) (fun cdv Ar outer s H vs Q E hr h => ?_)
  · obtain ⟨Rr, DA, ws, rs, ps, P, rfl, _⟩ := h
    rfl
  · obtain ⟨Rr, DA, ws, rs, ps, Pd, rfl, wo, rw_, da, eP, k⟩ := h
    refine ⟨_, (pss_cons (ps_set (i := 2) sc_law_weights.nd rfl (Or.inl rfl) (pe_lst pa_nil))
      (pss_cons (ps_for PassesOwn.never rfl (pi_list (pv 0)) (pg_name (i := 3) sc_law_weights.nd rfl (Or.inl rfl)) (pss_cons (ps_set (i := 4) sc_law_weights.nd rfl (Or.inl rfl) pe_int)
      (pss_cons (ps_for PassesOwn.never rfl (pi_range1 rfl T.range_ (pa_cons (pe_callB call_len_seq (by rfl) T.len_ Boot.«len» (pa_cons (pv 3) pa_nil)) pa_nil)) (pg_name (i := 5) sc_law_weights.nd rfl (Or.inl rfl)) (pss_one (ps_set (i := 4) sc_law_weights.nd rfl (Or.inl rfl) (pe_op op_mulB (pv 4) (pe_ix ix_tup (pe_ix ix_list (pe_ix ix_list (pv 1) (pv 5) (fun _ _ => rfl)) (pe_ix ix_list (pv 3) (pv 5) (fun _ _ => rfl)) (fun _ _ => rfl)) pe_int (fun _ _ => rfl))))))
      (pss_one (ps_expr (pe_bm PySem.F.plainAttrs_list PySem.F.slot_list_append PySem.F.type_list_append mt_append (pv 2) (pa_cons (pv 4) pa_nil)))))))
      (pss_one (ps_ret (pv 2))))), ?_⟩
    have ld := da.len
    have lP : Pd.length = ws.length := by rw [← eP, List.length_map]
    have wl4 := wo.l4
    have lD : (Dw Pd).length = ws.length := by rw [dw_len, lP]
    have lrows : (allRows ws).length ≤ 1296 := Nat.le_trans (all_len fun x hx => (wo.w x hx).2) (Nat.pow_le_pow_right (n := 6) (by decide) wl4)
    have lrs := rw_.l
    refine ⟨Nat.zero_le _, fun Wl hW => ?_⟩
    refine ⟨_, rfl, Rr, rfl, ⟨_, SqL.of ((Same.upd hW) _ _ rw_.a)⟩, for_list (K := K) (a := Rr) (xs := rs.map V.ref) (fun j σ H' => Same H H' ∧ ∃ (o3 o4 o5 : Option V), H' Wl = some (.lst ((((allRows ws).take j).map fun row => Wt (Dw Pd) row 0).map V.int)) ∧ σ = [some (.ref Rr), some (.ref DA), some (.ref Wl), o3, o4, o5])
      ⟨.upd hW, none, none, none, upd_same, rfl⟩ (fun j σ H' _ z => SqL.of (z.1 _ _ rw_.a)) ?_ ?_⟩
    · rintro j y σ H' hy ⟨S, o3, o4, o5, eW, rfl⟩
      obtain ⟨r, row, rfl, hr2, hrow, er⟩ := (rw_.same S).at hy
      have rvw := (all_mem _ ws rfl row).mp (List.mem_of_getElem? hrow)
      have rv := (rv_of eP).mp rvw
      have lrow := rvw.len
      have da2 := da.same S
      refine ⟨_, rfl, r, _, rfl, .inl (SqL.of er), ((row.map nI).length : Int), rfl, by rw [List.length_map]; omega, by rw [List.length_map]; omega, for_range (lo := 0) (n := (((row.map nI).length : Nat) : Int).toNat) (fun n σ H2 => H2 = H' ∧ ∃ (o5 : Option V), σ = [some (.ref Rr), some (.ref DA), some (.ref Wl), some (.ref r), some (.int (Wp (Dw Pd) row 0 n)), o5])
        ⟨rfl, _, rfl⟩ ?_ ?_⟩
      · rintro n σ H2 hn ⟨rfl, o5, rfl⟩
        rw [List.length_map] at hn
        have hkl : n < Pd.length := by omega
        have hd : Pd[n]? = some Pd[n] := List.getElem?_eq_getElem hkl
        generalize Pd[n] = d at hd
        obtain ⟨q, hq, lq, gd, hD⟩ := da2.at hd
        obtain ⟨uw, eu, du⟩ := lq
        obtain ⟨jj, hj, lj, ew, wp, wle⟩ := wv_pos da.good rv hD
        have lud := du.length
        rw [List.length_map] at lud lj
        obtain ⟨pr, hpr⟩ := get_ex (l := d) (i := jj) lj
        obtain ⟨x, ex⟩ := get_ex (l := uw) (i := jj) (by omega)
        obtain ⟨dd, ed, hxd⟩ := du.get' ex
        rw [List.getElem?_map, hpr] at ed
        cases ed
        obtain ⟨r1, va, vb, rfl, g1, g2, g3⟩ := DatAt.pr (p := (.int pr.1, .int pr.2)) hxd
        rw [g3.int_eq] at g1
        have ewv : wv (Dw Pd) row n = pr.2 := by
          rw [ew]
          exact M44.getD_of (by rw [List.getElem?_map, hpr]; rfl)
        have gm := gd.w pr.2 (List.mem_map.mpr ⟨pr, List.mem_of_getElem? hpr, rfl⟩)
        refine ⟨_, rfl, _, rfl, _, rfl, DA, _, _, .ref q.1, rfl, rfl, SqL.of da2.ll.at_, atI0 (by rw [List.getElem?_map, hq]; rfl), _, rfl, _, rfl, r, _, _, nI jj, rfl, rfl, SqL.of er, atI0 (by rw [List.getElem?_map, hj]; rfl), q.1, uw, _, .ref r1, rfl, rfl, SqL.of eu, atI_nat ex, r1, _, 1, .int pr.2, rfl, rfl, g1, rfl, _, _, rfl, rfl, small_mul (by omega), rfl, some (.int (0 + (n : Int))), ?_⟩
        rw [← ewv]
        show _ = [some (.ref Rr), some (.ref DA), some (.ref Wl), some (.ref r), some (V.int (Wp (Dw Pd) row 0 n * wv (Dw Pd) row (0 + n))), _]
        rw [Nat.zero_add]
        rfl
      · rintro σ H2 ⟨rfl, o5, rfl⟩
        have en : (((row.map nI).length : Nat) : Int).toNat = (Dw Pd).length := by rw [List.length_map]; omega
        rw [en]
        refine ⟨_, rfl, .inl ⟨rfl, _, SqL.of eW⟩, _, rfl, Wl, _, _, rfl, rfl, eW, Nat.lt_of_le_of_lt (show ((((allRows ws).take j).map fun row => Wt (Dw Pd) row 0).map V.int).length ≤ 1296 by rw [List.length_map, List.length_map, List.length_take]; omega) (by decide), fun b o eb => ?_, _, _, _, ?_, rfl⟩
        · rw [upd_ne (ne_of_none eb hW)]
          exact S _ _ eb
        · rw [upd_same, take_snoc' hrow, List.map_append, List.map_append]
          rfl
    · rintro σ H' ⟨S, o3, o4, o5, eW, rfl⟩
      rw [List.take_of_length_le (by rw [List.length_map]; omega)] at eW
      exact ⟨_, rfl, k Wl H' S hW eW⟩
end
end K40
namespace K40
open PySem L2 FW PyProof.Rows
open M44 hiding Prt site Gv Gs hvs way Ld Po Bst
theorem srt_ext : ∀ {a b : List Dt}, Srt a → Srt b → (∀ x, x ∈ a ↔ x ∈ b) → a = b
  | [], [], _, _, _ => rfl
  | [], y :: b, _, _, h => absurd ((h y).mpr (List.mem_cons_self ..)) (by simp)
  | x :: a, [], _, _, h => absurd ((h x).mp (List.mem_cons_self ..)) (by simp)
  | x :: a, y :: b, ha, hb, h => by
    have pa := List.pairwise_cons.mp ha
    have pb := List.pairwise_cons.mp hb
    have e : x = y := by
      rcases List.mem_cons.mp ((h x).mp (List.mem_cons_self ..)) with z | z
      · exact z
      · rcases List.mem_cons.mp ((h y).mpr (List.mem_cons_self ..)) with z2 | z2
        · exact z2.symm
        · have h1 := pb.1 x z
          have h2 := pa.1 y z2
          rw [Dt.lt_asym _ _ h1] at h2
          cases h2
    subst e
    rw [srt_ext pa.2 pb.2 fun z => ⟨fun hz => ?_, fun hz => ?_⟩]
    · rcases List.mem_cons.mp ((h z).mp (List.mem_cons_of_mem _ hz)) with q | q
      · subst q
        have := pa.1 z hz
        rw [Dt.lt_self] at this
        cases this
      · exact q
    · rcases List.mem_cons.mp ((h z).mpr (List.mem_cons_of_mem _ hz)) with q | q
      · subst q
        have := pb.1 z hz
        rw [Dt.lt_self] at this
        cases this
      · exact q
theorem wOf_self : ∀ {R : List (Dt × Int)}, (R.map (·.1)).Nodup → ∀ r ∈ R, wOf R r.1 = r.2
  | q :: R, s0, r, hr => by
    rw [List.map_cons, List.nodup_cons] at s0
    rw [wOf_cons]
    rcases List.mem_cons.mp hr with z | z
    · subst z
      rw [if_pos (Dt.beq_self _), wOf_none s0.1]
      omega
    · have ne : ¬ Dt.beq q.1 r.1 = true := fun b => s0.1 ((Dt.beq_iff _ _).mp b ▸ List.mem_map.mpr ⟨r, z, rfl⟩)
      rw [if_neg ne, wOf_self s0.2 r z]
      omega
def sp_rank3 (K : PySem.W.Frag) : Sp := fun vs H Q _ => ∃ v o, vs = [v] ∧ DatAt K H v o ∧ Oc o ∧ datQ K H Q (rank3D o)
theorem Ld.leaf {ps : List Prt} {row : List Nat} {i : Nat} {o : Dt} (h : Ld ps row i o) : ∃ j : Nat, ps[j]? = some (.lf o) := by
  induction h with
  | lf i o h => exact ⟨i, h⟩
  | ask i k ch o h t ih => exact ih
def cv (ps : List Prt) : List Dt := ps.filterMap fun p => match p with
  | .lf o => some o
  | .ask _ _ => none
theorem cv_mem {ps : List Prt} {j : Nat} {o : Dt} (h : ps[j]? = some (.lf o)) : o ∈ cv ps := List.mem_filterMap.mpr ⟨_, List.mem_of_getElem? h, rfl⟩
theorem cv_len (ps : List Prt) : (cv ps).length ≤ ps.length := List.length_filterMap_le ..
theorem lv_cv {ps : List Prt} (lo : LfO ps) : Lv (cv ps) ps := fun i o h => ⟨cv_mem h, lo i o h⟩
theorem lead_ex {K : PySem.W.Frag} {H : Hp} {A : Addr} {us : List V} {ps : List Prt} {ws row : List Nat} (gw : Gw ws ps) (rv : RvW ws row) : ∀ (n i : Nat), i < n → i < ps.length → ∃ o, Ld ps row i o
  | 0, i, hn, _ => absurd hn (Nat.not_lt_zero _)
  | n + 1, i, hn, hi => by
    have hp := List.getElem?_eq_getElem hi
    generalize ps[i] = p at hp
    cases p with
    | lf o => exact ⟨o, .lf i o hp⟩
    | ask k ch =>
      obtain ⟨wd, hwd, lch, hch⟩ := gw i k ch hp
      obtain ⟨j, hj, lj⟩ := rv.it k wd hwd
      obtain ⟨c2, hc2⟩ := get_ex (l := ch) (i := j) (by omega)
      obtain ⟨lt, p', hp', _⟩ := hch c2 (List.mem_of_getElem? hc2)
      obtain ⟨o, ho⟩ := lead_ex (K := K) (H := H) (A := A) (us := us) gw rv n c2 (by omega) (List.getElem?_eq_some_iff.mp hp').1
      have ec : ch.getD (row.getD k 0) 0 = c2 := by rw [M44.getD_of hj, M44.getD_of hc2]
      exact ⟨o, .ask i k ch o hp (by rw [ec]; exact ho)⟩
theorem lead_cov {K : PySem.W.Frag} {H : Hp} {A : Addr} {us : List V} {ps : List Prt} {ws row : List Nat} {i : Nat} (_pa : PrsAt K H A us ps) (gw : Gw ws ps) (rv : RvW ws row) (hi : i < ps.length) : lead ps row i ∈ cv ps := by
  obtain ⟨o, ho⟩ := lead_ex (K := K) (H := H) (A := A) (us := us) gw rv (i + 1) i (by omega) hi
  rw [lead_is ho]
  obtain ⟨j, hj⟩ := ho.leaf
  exact cv_mem hj
structure DuAt (K : PySem.W.Frag) (w : World) (H : Hp) (D : Addr) (kvs : List (Dt × V × V)) (rows : List (Dt × Int)) : Prop where
  M : DkM K w H D kvs
  mem : ∀ x, x ∈ kvs.map (·.1) ↔ x ∈ rows.map (·.1)
  val : ∀ x ∈ kvs, x.2.2 = V.int (wOf rows x.1)
theorem DuAt.put {K : PySem.W.Frag} {w : World} {H : Hp} {D : Addr} {kvs : List (Dt × V × V)} {rows : List (Dt × Int)} {i : Nat} {r : Dt × Int} {u : V} (h : DuAt K w H D kvs (rows.take i)) (er : rows[i]? = some r) (hu : DatAt K H u r.1) (ho : Oc r.1) (n : Int) (en : n = wOf (rows.take i) r.1 + r.2) : ∃ kvs', DuAt K w (upd H D (DkO w D (putD kvs r.1 u (.int n)))) D kvs' (rows.take (i + 1)) := by
  refine ⟨_, h.M.put hu ho, fun y => ?_, fun x hx => ?_⟩
  · rw [putD_keys, take_snoc' er, List.map_append, List.mem_append]
    split
    · rename_i hh
      have hm := (h.mem r.1).mp (hasD_iff.mp hh)
      rw [h.mem y]
      exact ⟨.inl, fun z => z.elim (fun z => z) fun z => (List.mem_singleton.mp z) ▸ hm⟩
    · rw [List.mem_append, h.mem y]
      rfl
  · rw [take_snoc' er, wOf_snoc]
    rcases putD_val hx with ⟨hx1, hx2⟩ | ⟨hx1, hx2⟩
    · rw [if_neg (fun z => hx2 ((Dt.beq_iff _ _).mp z).symm), Int.add_zero]
      exact h.val x hx1
    · rw [hx1, hx2, if_pos (Dt.beq_self _), en]
def sp_due (K : PySem.W.Frag) (w : World) : Sp := fun vs H Q _ => ∃ (A Rr Wl : Addr) (us : List V) (parts : List Prt) (ws : List Nat) (rs : List Addr) (P : List (List (Int × Int))) (i : Nat), vs = [.ref A, nI i, .ref Rr, .ref Wl] ∧ PrsAt K H A us parts ∧ Gw ws parts ∧ LfO parts ∧ parts.length ≤ 60 ∧ WdOk ws ∧ RwsAt H Rr rs (allRows ws) ∧ H Wl = some (.lst (((allRows ws).map fun row => Wt (Dw P) row 0).map V.int)) ∧ P.map List.length = ws ∧ i < parts.length ∧
  ∀ (D : Addr) (H' : Hp) (kvs : List (Dt × V × V)), Same H H' → DuAt K w H' D kvs (DR P parts i) → Q (.ref D) H'
structure GoodAt (K : PySem.W.Frag) (H : Hp) (r : Addr) (R : List (Dt × Int)) (S W0 : Int) (rows : List (Dt × Int)) : Prop where
  ls : LsM K H r (R.map (parD S))
  srt : Srt (R.map (·.1))
  mem : ∀ o, o ∈ rows.map (·.1) ↔ o ∈ R.map (·.1)
  oc : ∀ r ∈ R, Oc r.1 ∧ 0 < r.2
  few : R.length ≤ 60
  s0 : 0 < S
  s1 : S ≤ 10 ^ 160
  w0 : 0 ≤ W0
  w1 : W0 ≤ 10 ^ 160
  val : ∀ r ∈ R, r.2 ≤ S ∧ 0 ≤ wOf rows r.1 ∧ wOf rows r.1 ≤ 10 ^ 160 ∧ wOf rows r.1 * S = r.2 * W0
theorem GoodAt.same {K : PySem.W.Frag} {H H' : Hp} {r : Addr} {R : List (Dt × Int)} {S W0 : Int} {rows : List (Dt × Int)} (h : GoodAt K H r R S W0 rows) (e : Same H H') : GoodAt K H' r R S W0 rows := ⟨h.ls.same e, h.srt, h.mem, h.oc, h.few, h.s0, h.s1, h.w0, h.w1, h.val⟩
def sp_good (K : PySem.W.Frag) (w : World) : Sp := fun vs H Q _ => ∃ (r D : Addr) (kvs : List (Dt × V × V)) (R : List (Dt × Int)) (S W0 : Int) (rows : List (Dt × Int)), vs = [.ref r, .ref D, .int W0] ∧ DuAt K w H D kvs rows ∧ GoodAt K H r R S W0 rows ∧ ∀ H', Same H H' → Q (.bl true) H'
section
variable {P : Program} {w : World} {K : PySem.W.Frag} {mg : Str → Option Value} {base : Heap} {cN : Addr}
theorem ok_law_rank {f : Addr} {fd : FuncData} (A : FnAt K mg "_law_rank" s_law_rank ["_law_outcome_here"] f fd) (T : Txt K mg cN) : FnOk P w K mg base CX0 1 f fd ["_law_outcome_here"] (sp_rank3 K) := by
  refine A.F.ok sc_law_rank (fun vs H Q E h => ?_) (fun cdv Ar outer s H vs Q E hr h => ?_)
  · obtain ⟨v, o, rfl, _⟩ := h
    rfl
  · obtain ⟨v, o, rfl, hv, ho, k⟩ := h
    refine ⟨_, (pss_cons (ps_if (pt_cmpR op_isN (pv 0) pe_non (nomark _)) (pss_one (ps_ret (pe_tup (pa_cons pe_int (pa_cons pe_int (pa_cons (pe_tup pa_nil) pa_nil)))))) pss_nil)
      (pss_cons (ps_if (pt_val (pe_callB call_isiD (by rfl) T.isinstance_ Boot.«isinstance» (pa_cons (pv 0) (pa_cons (pe_bltn rfl T.int_ Boot.«int» (v := .ty "int") rfl) pa_nil)))) (pss_one (ps_ret (pe_tup (pa_cons pe_int (pa_cons (pv 0) (pa_cons (pe_tup pa_nil) pa_nil)))))) pss_nil)
      (pss_one (ps_ret (pe_tup (pa_cons pe_int (pa_cons pe_int (pa_cons (pv 0) pa_nil)))))))), ?_⟩
    cases ho with
    | non =>
      have := hv.non_eq
      subst this
      refine ⟨_, rfl, rfl, _, rfl, iteT ⟨Nat.zero_le _, fun t0 h0 => ⟨(by show 3 ≤ sizeLine; decide), fun t ht => k _ _ ((Same.upd h0).updR ht) ?_⟩⟩⟩
      exact DatAt.tup (ds := [.int 0, .int 0, .tup []]) (SqT.of upd_same) (.cons (.int 0) (.cons (.int 0) (.cons (DatAt.same (.upd ht) (DatAt.tup (ds := []) (SqT.of upd_same) .nil)) .nil)))
    | int n =>
      have := hv.int_eq
      subst this
      refine ⟨_, rfl, rfl, _, rfl, iteF ⟨_, rfl, _, _, _, _, rfl, hv, kit_ii, _, rfl, iteT ⟨_, rfl, Nat.zero_le _, fun t0 h0 => ⟨(by show 3 ≤ sizeLine; decide), fun t ht => k _ _ ((Same.upd h0).updR ht) ?_⟩⟩⟩⟩
      exact DatAt.tup (ds := [.int 1, .int n, .tup []]) (SqT.of upd_same) (.cons (.int 1) (.cons (.int n) (.cons (DatAt.same (.upd ht) (DatAt.tup (ds := []) (SqT.of upd_same) .nil)) .nil)))
    | recd fs =>
      have hv' := hv
      obtain ⟨r, vs, rfl, h1, h2⟩ := hv.un
      refine ⟨_, rfl, rfl, _, rfl, iteF ⟨_, rfl, _, _, _, _, rfl, hv', kit_ti, _, rfl, iteF ⟨_, rfl, (by show 3 ≤ sizeLine; decide), fun t ht => k _ _ (.upd ht) ?_⟩⟩⟩
      exact DatAt.tup (ds := [.int 2, .int 0, .tup (fs.map pairD)]) (SqT.of upd_same) (.cons (.int 2) (.cons (.int 0) (.cons (hv'.same (.upd ht)) .nil)))
set_option maxHeartbeats 4000000 in
theorem ok_law_due {f fL : Addr} {fd dL : FuncData} (A : FnAt K mg "_law_due" s_law_due ["_law_parts", "_law_place", "_law_rows_here", "_law_weights_here"] f fd) (A_law_lead : FnAt K mg "_law_lead" s_law_lead ["_law_parts", "_law_place", "_law_row"] fL dL) (T : Txt K mg cN) : FnOk P w K mg base CX0 2 f fd ["_law_parts", "_law_place", "_law_rows_here", "_law_weights_here"] (sp_due K w) := by
  have G_law_lead : FnOk P w K mg base CX0 1 fL dL _ (sp_lead K) := ok_law_lead A_law_lead
  refine A.F.ok (k := 1) sc_law_due (fun vs H Q E h => ?_) (fun cdv Ar outer s H vs Q E hr h => ?_)
  · obtain ⟨A, Rr, Wl, us, parts, ws, rs, P, i, rfl, _⟩ := h
    rfl
  · obtain ⟨A, Rr, Wl, us, parts, ws, rs, Pd, i, rfl, pa, gw, lo, hl, wo, rw_, hW, eP, hi, k⟩ := h
    refine ⟨_, (pss_cons (ps_set (i := 4) sc_law_due.nd rfl (Or.inl rfl) pe_dnewD)
      (pss_cons (ps_for PassesOwn.never rfl (pi_range1 rfl T.range_ (pa_cons (pe_callB call_len_seq (by rfl) T.len_ Boot.«len» (pa_cons (pv 2) pa_nil)) pa_nil)) (pg_name (i := 5) sc_law_due.nd rfl (Or.inl rfl)) (pss_cons (ps_set (i := 6) sc_law_due.nd rfl (Or.inl rfl) (pe_call G_law_lead (hr.mono (by decide)) rfl A_law_lead.m A_law_lead.F.kp A_law_lead.b .nil pass0 (pa_cons (pv 0) (pa_cons (pv 1) (pa_cons (pe_ix ix_list (pv 2) (pv 5) (fun _ _ => rfl)) pa_nil)))))
      (pss_one (ps_asg (pe_op op_add (pe_bmD PySem.F.slot_dict_get PySem.F.type_dict_get (mt_getD hr.units) (pv 4) (pa_cons (pv 6) (pa_cons pe_int pa_nil))) (pe_ix ix_list (pv 3) (pv 5) (fun _ _ => rfl))) (pg_sub (pv 4) (pv 6) (st_dk hr.units))))))
      (pss_one (ps_ret (pv 4))))), ?_⟩
    have lrs := rw_.l
    have wl4 := wo.l4
    have lrows : (allRows ws).length ≤ 1296 := Nat.le_trans (all_len fun x hx => (wo.w x hx).2) (Nat.pow_le_pow_right (n := 6) (by decide) wl4)
    have lref : (rs.map V.ref).length = rs.length := List.length_map ..
    intro p hp
    refine ⟨_, rfl, Rr, _, rfl, .inl (SqL.of ((Same.upd hp) _ _ rw_.a)), ((rs.map V.ref).length : Int), rfl, by omega, by omega, for_range (lo := 0) (n := (((rs.map V.ref).length : Nat) : Int).toNat) (fun j σ H' => Same H H' ∧ ∃ kvs o5 o6, σ = [some (.ref A), some (nI i), some (.ref Rr), some (.ref Wl), some (.ref p), o5, o6] ∧ DuAt K w H' p kvs ((DR Pd parts i).take j))
      ⟨.upd hp, [], none, none, rfl, ⟨⟨upd_same, (fun _ h => nomatch h), (fun _ h => nomatch h), .nil⟩, fun x => by simp, fun _ h => nomatch h⟩⟩ ?_ ?_⟩
    · rintro j σ H' hj ⟨S, kvs, o5, o6, rfl, du⟩
      have hjr : j < (allRows ws).length := by omega
      obtain ⟨rr, hrr⟩ := get_ex (l := rs) (i := j) (by omega)
      obtain ⟨r, row, er1, hr2, hrow, er⟩ := (rw_.same S).at (i := j) (v := .ref rr) (by rw [List.getElem?_map, hrr]; rfl)
      cases er1
      have rvw := (all_mem _ ws rfl row).mp (List.mem_of_getElem? hrow)
      refine ⟨_, rfl, _, rfl, _, rfl, _, rfl, Rr, _, _, .ref rr, rfl, rfl, SqL.of (S _ _ rw_.a), atI0 (by rw [List.getElem?_map, hr2]; rfl), A, rr, us, parts, ws, row, i, rfl, pa.same S, er, gw, rvw, hi, fun u o ld hu => ?_⟩
      obtain ⟨jl, hjl⟩ := ld.leaf
      have ho := lo jl o hjl
      have hDR : (DR Pd parts i)[j]? = some (o, Wt (Dw Pd) row 0) := by
        unfold DR
        rw [List.getElem?_map, eP, hrow, ← lead_is ld]
        rfl
      have sub : kvs.length ≤ 1000 := by
        have := nd_le (c := cv parts) du.M.nd fun y hy => by
          obtain ⟨r', hr', e'⟩ := List.mem_map.mp ((du.mem y).mp hy)
          rw [← e']
          have hm := List.mem_of_mem_take hr'
          unfold DR at hm
          obtain ⟨row2, hrow2, rfl⟩ := List.mem_map.mp hm
          exact lead_cov pa gw ((all_mem _ ws rfl row2).mp (by rw [← eP]; exact hrow2)) hi
        have h2 := cv_len parts
        rw [List.length_map] at this
        omega
      have hwt : (((allRows ws).map fun row => Wt (Dw Pd) row 0).map V.int)[j]? = some (.int (Wt (Dw Pd) row 0)) := by
        rw [List.getElem?_map, List.getElem?_map, hrow]
        rfl
      have fin : ∀ {n : Int}, n = wOf ((DR Pd parts i).take j) o + Wt (Dw Pd) row 0 → Same H (upd H' p (DkO w p (putD kvs o u (.int n)))) ∧ ∃ kvs', DuAt K w (upd H' p (DkO w p (putD kvs o u (.int n)))) p kvs' ((DR Pd parts i).take (j + 1)) := fun {n} en => ⟨fun b o eb => by
        rw [upd_ne (ne_of_none eb hp)]
        exact S _ _ eb, du.put hDR hu ho n en⟩
      refine ⟨_, rfl, ⟨p, kvs, rfl, du.M⟩, _, rfl, p, kvs, _, _, o, rfl, rfl, du.M, hu, ho, fun jj e ej ek => ?_, fun no => ?_⟩
      · have hv := du.val e (List.mem_of_getElem? ej)
        rw [ek] at hv
        rw [hv]
        refine ⟨_, rfl, _, rfl, Wl, _, _, _, rfl, rfl, SqL.of (S _ _ hW), atI0 hwt, _, _, rfl, rfl, ?_⟩
        refine ⟨_, rfl, _, rfl, p, kvs, o, rfl, du.M, sub, hu, ho, ?_⟩
        obtain ⟨s1, kvs', d1⟩ := fin rfl
        exact ⟨s1, kvs', _, _, rfl, d1⟩
      · have hv : wOf ((DR Pd parts i).take j) o = 0 := wOf_none fun z => no ((du.mem _).mpr z)
        refine ⟨_, rfl, _, rfl, Wl, _, _, _, rfl, rfl, SqL.of (S _ _ hW), atI0 hwt, _, _, rfl, rfl, ?_⟩
        refine ⟨_, rfl, _, rfl, p, kvs, o, rfl, du.M, sub, hu, ho, ?_⟩
        obtain ⟨s1, kvs', d1⟩ := fin (n := 0 + Wt (Dw Pd) row 0) (by rw [hv])
        exact ⟨s1, kvs', _, _, rfl, d1⟩
    · rintro σ H' ⟨S, kvs, o5, o6, rfl, du⟩
      rw [List.take_of_length_le (by unfold DR; rw [List.length_map, eP]; omega)] at du
      exact ⟨_, rfl, k p H' kvs S du⟩
end
end K40
namespace K40
open PySem L2 FW PyProof.Rows
open M44 hiding Prt site Gv Gs hvs way Ld Po Bst
theorem fin_good {fa fb W0 S X r : Int} (s0 : 0 < S) (e1 : fa * S = r * fb) (e2 : X * S = r * W0) : fa * W0 = X * fb := by
  have : fa * W0 * S = X * fb * S := by
    calc fa * W0 * S = fa * S * W0 := by simp only [Int.mul_assoc, Int.mul_left_comm, Int.mul_comm]
      _ = r * W0 * fb := by rw [e1]; simp only [Int.mul_assoc, Int.mul_left_comm, Int.mul_comm]
      _ = X * S * fb := by rw [e2]
      _ = X * fb * S := by simp only [Int.mul_assoc, Int.mul_left_comm, Int.mul_comm]
  exact Int.eq_of_mul_eq_mul_right (by omega) this
section
variable {P : Program} {w : World} {K : PySem.W.Frag} {mg : Str → Option Value} {base : Heap} {cN : Addr}
set_option maxHeartbeats 8000000 in
theorem ok_law_good {f fR fS fI fW fD : Addr} {fd dR dS dI dW dD : FuncData} (A : FnAt K mg "_law_good" s_law_good ["_law_found", "_law_due_here", "_law_whole_here"] f fd) (A_law_rank : FnAt K mg "_law_rank" s_law_rank ["_law_outcome_here"] fR dR) (A_law_same : FnAt K mg "_law_same" s_law_same ["_law_found", "_law_due_here"] fS dS) (A_law_is_share : FnAt K mg "_law_is_share" s_law_is_share ["_law_found"] fI dI)
    (A_law_whole : FnAt K mg "_law_whole" s_law_whole ["_law_found"] fW dW) (A_law_divisor : FnAt K mg "_law_divisor" s_law_divisor ["_law_one", "_law_other"] fD dD) (T : Txt K mg cN) : FnOk P w K mg base CX0 5 f fd ["_law_found", "_law_due_here", "_law_whole_here"] (sp_good K w) := by
  have G_law_rank : FnOk P w K mg base CX0 1 fR dR _ (sp_rank3 K) := ok_law_rank A_law_rank T
  have G_law_same : FnOk P w K mg base CX0 4 fS dS _ (sp_same K 2) := ok_law_same A_law_same A_law_whole T 2
  have G_law_is_share : FnOk P w K mg base CX0 2 fI dI _ (sp_share K) := ok_law_is_share A_law_is_share A_law_whole A_law_divisor T
  refine A.F.ok (k := 4) sc_law_good (fun vs H Q E h => ?_) (fun cdv Ar outer s H vs Q E hr h => ?_)
  · obtain ⟨r, D, kvs, R, S, W0, rows, rfl, _⟩ := h
    rfl
  · obtain ⟨r, p, kvs, R, S, W0, rows, rfl, du, gd, k⟩ := h
    refine ⟨_, (pss_cons (ps_set (i := 3) sc_law_good.nd rfl (Or.inl rfl) (pe_sortedK3 G_law_rank (hr.mono (by decide)) A_law_rank.b (fun H' v d Q o h q => ⟨v, d, rfl, h, o, q⟩) rfl T.sorted_ Boot.«sorted» (pa_cons (pv 1) pa_nil) (pk_cons (pe_glob rfl A_law_rank.m (v := .ref fR) rfl) pk_nil)))
      (pss_cons (ps_if (PW.pt (pw_or (pt_not (pt_val (pe_callB call_isiA (by rfl) T.isinstance_ Boot.«isinstance» (pa_cons (pv 0) (pa_cons (pe_bltn rfl T.list_ Boot.«list» (v := .ty "list") rfl) pa_nil))))) (pw_or1 (pt_cmpR op_ne (pe_callB call_len_seq (by rfl) T.len_ Boot.«len» (pa_cons (pv 0) pa_nil)) (pe_callB call_len_seq (by rfl) T.len_ Boot.«len» (pa_cons (pv 3) pa_nil)) (nomark _))))) (pss_one (ps_ret pe_bl)) pss_nil)
      (pss_cons (ps_for PassesOwn.never rfl (pi_range1 rfl T.range_ (pa_cons (pe_callB call_len_seq (by rfl) T.len_ Boot.«len» (pa_cons (pv 3) pa_nil)) pa_nil)) (pg_name (i := 4) sc_law_good.nd rfl (Or.inl rfl)) (pss_cons (ps_set (i := 5) sc_law_good.nd rfl (Or.inl rfl) (pe_ix ix_list (pv 0) (pv 4) (fun _ _ => rfl)))
      (pss_cons (ps_if (PW.pt (pw_or (pt_not (pt_val (pe_callB call_isiA (by rfl) T.isinstance_ Boot.«isinstance» (pa_cons (pv 5) (pa_cons (pe_bltn rfl T.tuple_ Boot.«tuple» (v := .ty "tuple") rfl) pa_nil))))) (pw_or (pt_cmpR op_ne (pe_callB call_len_seq (by rfl) T.len_ Boot.«len» (pa_cons (pv 5) pa_nil)) pe_int (nomark _)) (pw_or1 (pt_not (pt_val (pe_call G_law_same (hr.mono (by decide)) rfl A_law_same.m A_law_same.F.kp A_law_same.b .nil pass0 (pa_cons (pe_ix ix_tup (pv 5) pe_int (fun _ _ => rfl)) (pa_cons (pe_ix ix_list (pv 3) (pv 4) (fun _ _ => rfl)) pa_nil))))))))) (pss_one (ps_ret pe_bl)) pss_nil)
      (pss_one (ps_if (PW.pt (pw_or (pt_not (pt_val (pe_call G_law_is_share (hr.mono (by decide)) rfl A_law_is_share.m A_law_is_share.F.kp A_law_is_share.b .nil pass0 (pa_cons (pe_ix ix_tup (pv 5) pe_int (fun _ _ => rfl)) pa_nil)))) (pw_or1 (pt_cmpR op_ne (pe_op op_mulB (pe_ix ix_tup (pe_ix ix_tup (pv 5) pe_int (fun _ _ => rfl)) pe_int (fun _ _ => rfl)) (pv 2)) (pe_op op_mulB (pe_ix (ix_dkK (K := K) (w := w) rfl rfl hr.units) (pv 1) (pe_ix ix_list (pv 3) (pv 4) (fun _ _ => rfl)) (fun _ _ => rfl)) (pe_ix ix_tup (pe_ix ix_tup (pv 5) pe_int (fun _ _ => rfl)) pe_int (fun _ _ => rfl))) (nomark _))))) (pss_one (ps_ret pe_bl)) pss_nil)))))
      (pss_one (ps_ret pe_bl))))), ?_⟩
    have sub : kvs.length < 64 := by
      have := nd_le (c := R.map (·.1)) du.M.nd fun x hx => (gd.mem x).mp ((du.mem x).mp hx)
      have := gd.few
      rw [List.length_map, List.length_map] at *
      omega
    refine ⟨_, rfl, p, kvs, rfl, rfl, du.M, sub, fun D H2 es S2 hD pm srt at2 => ?_⟩
    have dE : DatsAt K H2 (es.map (·.2.1)) (es.map (·.1)) := dk_dats fun x hx => (du.M.dat x (pm.mem_iff.mp hx)).same S2
    have eR : es.map (·.1) = R.map (·.1) := srt_ext srt gd.srt fun x => (pm.map _).mem_iff.trans ((du.mem x).trans (gd.mem x))
    rw [eR] at dE
    generalize es.map (·.2.1) = ev at at2 dE
    replace gd := gd.same S2
    have M := du.M.same S2
    have dmem := du.mem
    have dval := du.val
    clear pm srt eR hD sub du
    obtain ⟨rl, er, dr⟩ := id gd.ls
    have l1 := dE.length
    have l2 := dr.length
    have few := gd.few
    rw [List.length_map] at l1 l2
    refine ⟨_, rfl, _, _, _, _, rfl, .inl ⟨.lst er, rfl⟩, _, rfl, iteF ?_⟩
    refine ⟨_, rfl, r, _, rfl, .inl (SqL.of er), _, rfl, D, _, rfl, .inl (SqL.of at2), rfl, _, rfl, ?_⟩
    rw [show rl.length = ev.length by omega]
    refine iteBB (fun hc => by simp at hc) (fun _ => ?_)
    refine ⟨_, rfl, D, _, rfl, .inl (SqL.of at2), (ev.length : Int), rfl, by omega, by omega, for_range (lo := 0) (n := ev.length) (fun i σ H' => Same H2 H' ∧ ∃ o4 o5, σ = [some (.ref r), some (.ref p), some (.int W0), some (.ref D), o4, o5])
      ⟨.refl _, _, _, rfl⟩ ?_ (fun σ H' z => k H' (S2.trans z.1))⟩
    rintro i σ H' hi ⟨S', o4, o5, rfl⟩
    replace gd := gd.same S'
    replace M := M.same S'
    replace at2 := S' _ _ at2
    replace dE := dE.same S'
    replace er := S' _ _ er
    replace dr := dr.same S'
    obtain ⟨x, hx⟩ := get_ex (l := ev) (i := i) hi
    obtain ⟨y, hy⟩ := get_ex (l := rl) (i := i) (by omega)
    obtain ⟨o, eo, hxo⟩ := dE.get' hx
    obtain ⟨rr, err, rfl⟩ := map_get eo
    obtain ⟨dd, edd, hyd⟩ := dr.get' hy
    rw [List.getElem?_map, err] at edd
    cases edd
    obtain ⟨t, va, vb, rfl, h1, h2, h3⟩ := DatAt.pr (p := (rr.1, frD (low rr.2 S))) hyd
    have rm := List.mem_of_getElem? err
    obtain ⟨ro, rp⟩ := gd.oc rr rm
    obtain ⟨tf, rfl, sf⟩ := DatAt.fr (p := low rr.2 S) h3
    obtain ⟨v0, v1, v2, v3⟩ := gd.val rr rm
    have s0 := gd.s0
    have s1 := gd.s1
    refine ⟨_, rfl, _, rfl, r, rl, _, .ref t, rfl, rfl, SqL.of er, atI0 hy, ?_⟩
    refine ⟨_, rfl, _, _, "tuple", _, rfl, .inr ⟨t, _, rfl, h1, rfl⟩, _, rfl, iteF ?_⟩
    refine ⟨_, rfl, t, _, rfl, .inr h1, rfl, _, rfl, iteF ?_⟩
    refine ⟨_, rfl, t, _, 0, va, rfl, rfl, h1, rfl, _, rfl, _, rfl, D, ev, _, x, rfl, rfl, SqL.of at2, atI0 hx, va, x, rfl, Al.of 2 ro.hgt h2 hxo, _, rfl, iteF ?_⟩
    refine ⟨_, rfl, t, _, 1, .ref tf, rfl, rfl, h1, rfl, tf, _, _, rfl, sf, low_nn (Int.le_of_lt rp) s0, low_Low s0, _, rfl, iteF ?_⟩
    have hk : rr.1 ∈ kvs.map (·.1) := (dmem _).mpr ((gd.mem _).mpr (List.mem_map.mpr ⟨rr, rm, rfl⟩))
    obtain ⟨e, hem, ee⟩ := List.mem_map.mp hk
    obtain ⟨jj, hjj, ej⟩ := List.getElem_of_mem hem
    have ej' : kvs[jj]? = some e := by rw [List.getElem?_eq_getElem hjj, ej]
    have ev2 := dval e hem
    rw [ee] at ev2
    have e2 := low_eq (t := rr.2) (b := S)
    have lab := low_abs rr.2 S
    have lo := low_Low (t := rr.2) s0
    have a0 := low_nn (Int.le_of_lt rp) s0
    have b0 := lo.pos
    have fin := fin_good s0 e2 v3
    generalize (low rr.2 S).1 = fa at sf lab a0 fin
    generalize (low rr.2 S).2 = fb at sf lab b0 fin
    have a1 : fa ≤ 10 ^ 160 := by
      have := lab.1
      omega
    have b1 : fb ≤ 10 ^ 160 := by
      have := lab.2
      omega
    have sma : Sm fa := sm60 a0 a1
    have smfb : Sm fb := sm60 (Int.le_of_lt b0) b1
    have smw : Sm W0 := sm60 gd.w0 gd.w1
    have smv : Sm (wOf rows rr.1) := sm60 v1 v2
    refine ⟨_, rfl, t, _, 1, .ref tf, rfl, rfl, h1, rfl, tf, _, 0, .int fa, rfl, rfl, sf, rfl, _, rfl, _, _, rfl, rfl, sma.mul smw, ?_⟩
    refine ⟨_, rfl, _, rfl, _, rfl, D, ev, _, x, rfl, rfl, SqL.of at2, atI0 hx, p, kvs, rr.1, jj, e, rfl, M, hxo, ro, ej', ee, ?_⟩
    rw [ev2]
    refine ⟨_, rfl, t, _, 1, .ref tf, rfl, rfl, h1, rfl, tf, _, 1, .int fb, rfl, rfl, sf, rfl, _, _, rfl, rfl, smv.mul smfb, rfl, _, rfl, ?_⟩
    refine iteBB (fun hc => absurd (show (!decide (V.int (fa * W0) = V.int (wOf rows rr.1 * fb))) = true from hc) (by rw [decide_eq_true (congrArg V.int fin)]; exact Bool.false_ne_true)) (fun _ => ?_)
    exact ⟨S', _, _, rfl⟩
end
theorem DR_good {K : PySem.W.Frag} {H H2 : Hp} {DA : Addr} {dps : List (Addr × List Dt)} {P : List (List (Int × Int))} (da : DrsAt K H2 DA dps P) {cov : List Dt} {ps : List Prt} {Rs : List (List (Dt × Int))} (gp : Gp P ps) (gt : Gt P cov ps Rs) (cl : cov.length ≤ 60) {i : Nat} {p : Prt} {R : List (Dt × Int)} (hp : ps[i]? = some p) (hR : Rs[i]? = some R) {r : Addr} (ls : LsM K H r (R.map (parD (Ts (Dw P) (site P.length p))))) : GoodAt K H r R (Ts (Dw P) (site P.length p)) (Ts (Dw P) 0) (DR P ps i) := by
  have g := da.good
  obtain ⟨tb, _⟩ := gt.it i p R hp hR
  obtain ⟨s0, s1⟩ := Ts_bd da (site P.length p)
  obtain ⟨w0, w1⟩ := Ts_bd da 0
  have main : ∀ o, wOf (DR P ps i) o * Ts (Dw P) (site P.length p) = wOf R o * Ts (Dw P) 0 := fun o => by
    rw [DR_wOf]
    exact rows_tab g gp gt o (i + 1) i p R (by omega) hp hR
  have pos : ∀ q ∈ DR P ps i, 0 < q.2 := fun q hq => by
    unfold DR at hq
    obtain ⟨row, hrow, rfl⟩ := List.mem_map.mp hq
    have rv := (rv_of (P := P) rfl).mp ((all_mem _ _ rfl row).mp hrow)
    exact Wp_nn g rv 0 _ (by omega)
  refine ⟨ls, tb.srt, fun o => ⟨fun h => ?_, fun h => ?_⟩, fun r hr => ⟨(tb.oc r hr).2, tb.pos r hr⟩, Nat.le_trans tb.few cl, s0, s1, Int.le_of_lt w0, w1, fun r hr => ?_⟩
  · have h1 := wOf_pos pos h
    by_cases z : o ∈ R.map (·.1)
    · exact z
    · have e := main o
      rw [wOf_none z, Int.zero_mul] at e
      have := Int.mul_pos h1 s0
      omega
  · have h1 := wOf_pos tb.pos h
    by_cases z : o ∈ (DR P ps i).map (·.1)
    · exact z
    · have e := main o
      rw [wOf_none z, Int.zero_mul] at e
      have := Int.mul_pos h1 w0
      omega
  · have bd := wOf_bd (rows := DR P ps i) r.1 fun q hq => Int.le_of_lt (pos q hq)
    have e := main r.1
    rw [wOf_self tb.nd r hr] at e
    rw [DR_sum] at bd
    exact ⟨Int.le_trans (sumW_mem (fun r hr => Int.le_of_lt (tb.pos r hr)) r hr) tb.sum, bd.1, Int.le_trans bd.2 w1, e⟩
theorem rows_eq {R R2 : List (Dt × Int)} (s1 : Srt (R.map (·.1))) (s2 : Srt (R2.map (·.1))) (p1 : ∀ r ∈ R, 0 < r.2) (p2 : ∀ r ∈ R2, 0 < r.2) (h : ∀ o, wOf R o = wOf R2 o) : R = R2 := by
  have k : R.map (·.1) = R2.map (·.1) := srt_ext s1 s2 fun o => by
    constructor
    · intro z
      have := wOf_pos p1 z
      by_cases y : o ∈ R2.map (·.1)
      · exact y
      · rw [h o, wOf_none y] at this
        exact absurd this (by decide)
    · intro z
      have := wOf_pos p2 z
      by_cases y : o ∈ R.map (·.1)
      · exact y
      · rw [← h o, wOf_none y] at this
        exact absurd this (by decide)
  have e : ∀ {R : List (Dt × Int)}, Srt (R.map (·.1)) → R = (R.map (·.1)).map fun o => (o, wOf R o) := fun {R} s => by
    rw [List.map_map]
    have : R.map ((fun o => (o, wOf R o)) ∘ fun x => x.1) = R.map id := List.map_congr_left fun r hr => by
      show (r.1, wOf R r.1) = r
      rw [wOf_self (srt_nd s) r hr]
    rw [this, List.map_id]
  rw [e s1, e s2, ← k]
  exact List.map_congr_left fun o _ => by rw [h o]
theorem Gt.one {P : List (List (Int × Int))} (g : M44.Good (Dw P)) {cov cov2 : List Dt} {ps : List Prt} {Rs Rs2 : List (List (Dt × Int))} (gp : Gp P ps) (gt : Gt P cov ps Rs) (gt2 : Gt P cov2 ps Rs2) (l1 : Rs.length = ps.length) (l2 : Rs2.length = ps.length) : Rs = Rs2 := by
  refine List.ext_getElem (by omega) fun i h1 h2 => ?_
  have hp : ps[i]? = some (ps[i]'(by omega)) := List.getElem?_eq_getElem (by omega)
  have e1 := List.getElem?_eq_getElem h1
  have e2 := List.getElem?_eq_getElem h2
  generalize ps[i]'(by omega) = p at hp
  obtain ⟨t1, _⟩ := gt.it i p _ hp e1
  obtain ⟨t2, _⟩ := gt2.it i p _ hp e2
  refine rows_eq t1.srt t2.srt t1.pos t2.pos fun o => ?_
  have a := rows_tab g gp gt o (i + 1) i p _ (by omega) hp e1
  have b := rows_tab g gp gt2 o (i + 1) i p _ (by omega) hp e2
  rw [a] at b
  exact Int.eq_of_mul_eq_mul_right (by have := Ts_pos g 0; omega) b
end K40
namespace K40
open PySem L2 FW PyProof.Rows
open M44 hiding Prt site Gv Gs hvs way Ld Po Bst
theorem LLM.updL {K : PySem.W.Frag} {H : Hp} {a b : Addr} {xs ys : List V} {ps : List (Addr × List Dt)} (h : LLM K H b ps) (ha : H a = some (.lst xs)) (n : b ≠ a) (ni : ∀ p ∈ ps, p.1 ≠ a) : LLM K (upd H a (.lst ys)) b ps := h.but (.lst ha) .upd n ni
theorem cut_drop (xs : List V) (i : Nat) : cutV xs (some (0 + (i : Int) + 1)) none = xs.drop (i + 1) := by
  unfold cutV
  have e : (0 + (i : Int) + 1) = ((i + 1 : Nat) : Int) := by omega
  rw [e, HT.sIx_nat, HT.sIx_none]
  by_cases h : i + 1 ≤ xs.length
  · rw [Nat.min_eq_left h]
    exact List.take_of_length_le (by rw [List.length_drop]; exact Nat.le_refl _)
  · rw [Nat.min_eq_right (by omega), List.drop_length, List.drop_eq_nil_of_le (by omega)]
    simp
theorem drop_get {α : Type} {l : List α} {i : Nat} {x : α} (h : l[i]? = some x) : x ∈ l.drop i := List.mem_of_getElem? (i := 0) (by rw [List.getElem?_drop]; exact h)
theorem mem_drop_succ {α : Type} {l : List α} {i : Nat} {x : α} (h : x ∈ l.drop (i + 1)) : x ∈ l.drop i := by
  have : l.drop (i + 1) = (l.drop i).drop 1 := by rw [List.drop_drop]
  rw [this] at h
  exact List.mem_of_mem_drop h
theorem drop_ne {l : List (Addr × List Dt)} {i : Nat} {p q : Addr × List Dt} (nd : (l.map (·.1)).Nodup) (h : l[i]? = some p) (hq : q ∈ l.drop (i + 1)) : q.1 ≠ p.1 := fun z => by
  obtain ⟨j, hj⟩ := List.getElem?_of_mem hq
  rw [List.getElem?_drop] at hj
  have e1 : (l.map (·.1))[i]? = some p.1 := by rw [List.getElem?_map, h]; rfl
  have e2 : (l.map (·.1))[i + 1 + j]? = some p.1 := by rw [List.getElem?_map, hj, ← z]; rfl
  have := (List.getElem?_inj (List.getElem?_eq_some_iff.mp e1).1 nd).mp (e1.trans e2.symm)
  omega
def tabs (P : List (List (Int × Int))) (parts : List Prt) (Rs : List (List (Dt × Int))) : List (List Dt) := List.zipWith (fun p R => R.map (parD (Ts (Dw P) (site P.length p)))) parts Rs
theorem tabs_at {P : List (List (Int × Int))} {parts : List Prt} {Rs : List (List (Dt × Int))} {i : Nat} {p : Prt} {R : List (Dt × Int)} (hp : parts[i]? = some p) (hR : Rs[i]? = some R) : (tabs P parts Rs)[i]? = some (R.map (parD (Ts (Dw P) (site P.length p)))) := iz_at hp hR
theorem tabs_len {P : List (List (Int × Int))} {parts : List Prt} {Rs : List (List (Dt × Int))} (h : Rs.length = parts.length) : (tabs P parts Rs).length = parts.length := by
  unfold tabs
  rw [List.length_zipWith]
  omega
theorem zip_fst {α β : Type} : ∀ {a : List α} {b : List β}, a.length = b.length → (a.zip b).map (·.1) = a
  | [], _, _ => by simp
  | x :: a, [], h => by simp at h
  | x :: a, y :: b, h => by
    rw [List.zip_cons_cons, List.map_cons, zip_fst (by simpa using h)]
theorem zip_snd {α β : Type} : ∀ {a : List α} {b : List β}, a.length = b.length → (a.zip b).map (·.2) = b
  | [], [], _ => rfl
  | [], y :: b, h => by simp at h
  | x :: a, [], h => by simp at h
  | x :: a, y :: b, h => by
    rw [List.zip_cons_cons, List.map_cons, zip_snd (by simpa using h)]
theorem TbsAt.ll {K : PySem.W.Frag} {H : Hp} {Z : Addr} {zs : List Addr} {Rs : List (List (Dt × Int))} {P : List (List (Int × Int))} {parts : List Prt} (h : TbsAt K H Z zs Rs P parts) (l : Rs.length = parts.length) : ∃ ps : List (Addr × List Dt), ps.map (·.1) = zs ∧ ps.map (·.2) = tabs P parts Rs ∧ LLM K H Z ps := by
  have lz : zs.length = (tabs P parts Rs).length := by rw [tabs_len l, h.l, l]
  have e1 := zip_fst lz
  have e2 := zip_snd lz
  refine ⟨zs.zip (tabs P parts Rs), e1, e2, ⟨?_, fun p hp => ?_, fun p hp => ?_⟩⟩
  · rw [h.a]
    have : (zs.zip (tabs P parts Rs)).map (fun p => V.ref p.1) = zs.map V.ref := by
      conv => rhs; rw [← e1]
      rw [List.map_map]
      rfl
    rw [this]
  all_goals
    obtain ⟨i, hi⟩ := List.getElem?_of_mem hp
    have g1 : zs[i]? = some p.1 := by
      rw [← e1, List.getElem?_map, hi]
      rfl
    have g2 : (tabs P parts Rs)[i]? = some p.2 := by
      rw [← e2, List.getElem?_map, hi]
      rfl
    have lt : i < parts.length := by
      have := (List.getElem?_eq_some_iff.mp g2).1
      rw [tabs_len l] at this
      exact this
    have h1 : parts[i]? = some parts[i] := List.getElem?_eq_getElem lt
    have h2 : Rs[i]? = some (Rs[i]'(by omega)) := List.getElem?_eq_getElem (by omega)
    obtain ⟨t1, t2⟩ := h.t i p.1 _ _ g1 h2 h1
    have := tabs_at (P := P) h1 h2
    rw [g2] at this
    have e := Option.some.inj this
    first
    | exact t2
    | (rw [e]; exact t1)
theorem hgts_par {S : Int} : ∀ {R : List (Dt × Int)}, (∀ r ∈ R, Oc r.1) → Dt.hgts (R.map (parD S)) ≤ 30 ∧ ∀ r ∈ R, (parD S r).hgt ≤ 3
  | [], _ => ⟨by simp [Dt.hgts], fun _ h => nomatch h⟩
  | r :: R, h => by
    obtain ⟨h1, h2⟩ := hgts_par (S := S) (R := R) fun q hq => h q (List.mem_cons_of_mem _ hq)
    have h3 : (parD S r).hgt ≤ 3 := by
      have := hgt_prD (r.1, frD (low r.2 S))
      have a1 := (h r (List.mem_cons_self ..)).hgt
      have a2 := hgt_frD (low r.2 S)
      dsimp only at this
      unfold parD
      omega
    refine ⟨?_, fun q hq => ?_⟩
    · rw [List.map_cons, Dt.hgts]
      omega
    · rcases List.mem_cons.mp hq with z | z
      · rw [z]
        exact h3
      · exact h2 q z
theorem Gt.hgt {P : List (List (Int × Int))} {cov : List Dt} {parts : List Prt} {Rs : List (List (Dt × Int))} (gt : Gt P cov parts Rs) {i : Nat} {ds : List Dt} (h : (tabs P parts Rs)[i]? = some ds) : Dt.hgts ds ≤ 30 ∧ ∀ d ∈ ds, d.hgt ≤ 3 := by
  unfold tabs at h
  obtain ⟨j, p, R, e1, e2, e3⟩ := zw_get (List.mem_of_getElem? h)
  obtain ⟨tb, _⟩ := gt.it j p R e1 e2
  obtain ⟨g1, g2⟩ := hgts_par (S := Ts (Dw P) (site P.length p)) (R := R) fun r hr => (tb.oc r hr).2
  subst e3
  refine ⟨g1, fun d hd => ?_⟩
  obtain ⟨r, hr, rfl⟩ := List.mem_map.mp hd
  exact g2 r hr
theorem hgts_mI : ∀ d : List (Int × Int), Dt.hgts (mI d) ≤ 30
  | [] => by simp [Dt.hgts]
  | p :: d => by
    have : Dt.hgts (List.map pI d) ≤ 30 := hgts_mI d
    simp only [List.map_cons, Dt.hgts, Dt.hgt]
    omega
theorem dats_nat {K : PySem.W.Frag} {H : Hp} : ∀ ch : List Nat, DatsAt K H (ch.map nI) (ch.map fun c : Nat => Dt.int (c : Int))
  | [] => .nil
  | c :: ch => .cons (.int _) (dats_nat ch)
theorem hgts_nat : ∀ ch : List Nat, Dt.hgts (ch.map fun c : Nat => Dt.int (c : Int)) ≤ 30
  | [] => by simp [Dt.hgts]
  | c :: ch => by
    have := hgts_nat ch
    simp only [List.map_cons, Dt.hgts, Dt.hgt]
    omega
theorem PrtAt.pq {K : PySem.W.Frag} {H : Hp} {A B : Addr} {x y : V} {p : Prt} (px : PrtAt K A H x p) (py : PrtAt K B H y p) (lo : ∀ o, p = .lf o → Oc o) : PqAt K H x y := by
  cases px with
  | lf r u o sr hu =>
    cases py with
    | lf q u2 _ sq hu2 =>
      refine ⟨r, q, _, _, rfl, rfl, sr, sq, rfl, fun i a b e1 e2 => ?_⟩
      match i, e1, e2 with
      | 0, e1, e2 => cases e1; cases e2; exact .dat (.str "leaf") (.str _) (.str _) (by decide)
      | 1, e1, e2 => cases e1; cases e2; exact .dat o hu hu2 (Nat.le_trans (lo o rfl).hgt (by decide))
      | j + 2, e1, e2 => simp at e1
  | ask r l k ch sr hl ne =>
    cases py with
    | ask q m _ _ sq hm ne2 =>
      refine ⟨r, q, _, _, rfl, rfl, sr, sq, rfl, fun i a b e1 e2 => ?_⟩
      match i, e1, e2 with
      | 0, e1, e2 => cases e1; cases e2; exact .dat (.str "ask") (.str _) (.str _) (by decide)
      | 1, e1, e2 => cases e1; cases e2; exact .dat (.int k) (.int _) (.int _) (by simp [Dt.hgt])
      | 2, e1, e2 => cases e1; cases e2; exact .lst l m (ch.map fun c : Nat => Dt.int (c : Int)) ⟨_, hl, dats_nat ch⟩ ⟨_, hm, dats_nat ch⟩ (hgts_nat ch)
      | j + 3, e1, e2 => simp at e1
theorem al_tabs {K : PySem.W.Frag} {H : Hp} {a b : Addr} {ps qs : List (Addr × List Dt)} (h1 : LLM K H a ps) (h2 : LLM K H b qs) (e : ps.map (·.2) = qs.map (·.2)) (hg : ∀ p ∈ ps, ∀ d ∈ p.2, d.hgt ≤ 3) : Al K H 5 (.ref a) (.ref b) := by
  have ll := congrArg List.length e
  rw [List.length_map, List.length_map] at ll
  refine .lst a b _ _ h1.at_ h2.at_ (by rw [List.length_map, List.length_map, ll]) fun i x y e1 e2 => ?_
  obtain ⟨p, hp, rfl⟩ := map_get e1
  obtain ⟨q, hq, rfl⟩ := map_get e2
  have epq : p.2 = q.2 := by
    have := congrArg (fun l => l[i]?) e
    simp only at this
    rw [List.getElem?_map, List.getElem?_map, hp, hq] at this
    exact Option.some.inj this
  obtain ⟨vs, ev, dv⟩ := h1.it p (List.mem_of_getElem? hp)
  obtain ⟨us, eu, du⟩ := h2.it q (List.mem_of_getElem? hq)
  rw [← epq] at du
  refine .lst p.1 q.1 vs us ev eu (by rw [dv.length, du.length]) fun j x y e1 e2 => ?_
  obtain ⟨dx, ex, hx⟩ := dv.get' e1
  obtain ⟨dy, ey, hy⟩ := du.get' e2
  rw [ex] at ey
  cases ey
  exact Al.of 3 (hg p (List.mem_of_getElem? hp) _ (List.mem_of_getElem? ex)) hx hy
def sp_weighed0 : Sp := fun vs H Q _ => ∃ (A : Addr) (v : V), vs = [.ref A, v] ∧ H A = some (.lst []) ∧ ∀ (Fd : Addr) (H' : Hp), Same H H' → H' Fd = some (.lst []) → Q (.ref Fd) H'
section
variable {P : Program} {w : World} {K : PySem.W.Frag} {mg : Str → Option Value} {base : Heap} {cN cW : Addr}
set_option maxHeartbeats 4000000 in
theorem ok_weighed0 {f fQ : Addr} {fd dQ : FuncData} (A : FnAt K mg "weighed" s_weighed ["parts", "draws"] f fd) (A_weighed_question : FnAt K mg "weighed_question" s_weighed_question ["draw", "tables"] fQ dQ) (G_weighed_question : FnOk P w K mg base CX0 7 fQ dQ ["draw", "tables"] (sp_wq K)) (T : Txt K mg cN) (T3 : Tw K mg cW) : FnOk P w K mg base CX0 8 f fd ["parts", "draws"] sp_weighed0 := by
  refine A.F.ok (k := 7) sc_weighed (fun vs H Q E h => ?_) (fun cdv Ar outer s H vs Q E hr h => ?_)
  · obtain ⟨A, v, rfl, _⟩ := h
    rfl
  · obtain ⟨A, v, rfl, hA, k⟩ := h
    refine ⟨_, (pss_cons (ps_set (i := 2) sc_weighed.nd rfl (Or.inr rfl) (pe_lst pa_nil))
      (pss_cons (ps_for PassesOwn.never rfl (pi_list (pv 0)) (pg_name (i := 3) sc_weighed.nd rfl (Or.inl rfl)) (pss_one (ps_if (pt_cmpR op_eq (pe_ix ix_tup (pv 3) pe_int (fun _ _ => rfl)) pe_str (nomark _)) (pss_one (ps_expr (pe_bm PySem.F.plainAttrs_list PySem.F.slot_list_append PySem.F.type_list_append mt_append (pv 2) (pa_cons (pe_lst (pa_cons (pe_tup (pa_cons (pe_ix ix_tup (pv 3) pe_int (fun _ _ => rfl)) (pa_cons (pe_glob rfl T3.WHOLE (v := .ref cW) rfl) pa_nil))) pa_nil)) pa_nil)))) (pss_one (ps_expr (pe_bm PySem.F.plainAttrs_list PySem.F.slot_list_append PySem.F.type_list_append mt_append (pv 2) (pa_cons (pe_call G_weighed_question (hr.mono (by decide)) rfl A_weighed_question.m A_weighed_question.F.kp A_weighed_question.b .nil pass0 (pa_cons (pe_ix ix_list (pv 1) (pe_ix ix_tup (pv 3) pe_int (fun _ _ => rfl)) (fun _ _ => rfl)) (pa_cons (pe_comp rfl (Nc := ["child", "tables"]) (caps1 1 2 [(".0", .local), ("child", .local), ("tables", .cell)] rfl rfl rfl (by decide +kernel) (by decide +kernel) rfl (by decide +kernel) rfl rfl rfl rfl) (pi_list (pe_ix ix_tup (pv 3) pe_int (fun _ _ => rfl))) (fun _ _ _ _ => (pg_name (i := 0) (show List.Nodup (["child", "tables"] : List Str) by decide +kernel) rfl (Or.inl rfl))) (fun _ _ _ _ => pts_nil) (fun _ _ _ _ => by exact (pe_ix (ix_listK (K := K) rfl) (pv 1) (pv 0) (fun _ _ => rfl)))) pa_nil))) pa_nil)))))))
      (pss_one (ps_ret (pv 2))))), ?_⟩
    refine ⟨Nat.zero_le _, fun Z hZ => ?_⟩
    refine ⟨_, rfl, A, rfl, ⟨_, SqL.of (Same.upd hZ _ _ hA)⟩, for_list (K := K) (a := A) (xs := []) (fun i σ H' => H' = upd H Z (.lst []) ∧ ∃ o3 : Option V, σ = [some (.ref A), some v, some (.ref Z), o3])
      ⟨rfl, none, rfl⟩ (fun i σ H' _ z => by rw [z.1]; exact SqL.of (Same.upd hZ _ _ hA)) (fun i x σ H' hx => by simp at hx) ?_⟩
    rintro σ H' ⟨rfl, o3, rfl⟩
    exact ⟨_, rfl, k Z _ (.upd hZ) upd_same⟩
end
end K40
namespace K40
open PySem L2 FW PyProof.Rows
open M44 hiding Prt site Gv Gs hvs way Ld Po Bst
theorem ixN_zero {n : Nat} (h : 0 < n) : ixN n 0 = some 0 := by
  unfold ixN
  simp [h]
def sp_law (K : PySem.W.Frag) : Sp := fun vs H Q _ => ∃ (a : Addr) (ns : List Int), vs = [.ref a] ∧ SqL K H a (ns.map V.int) ∧ ns.length ≤ 63 ∧ (∀ n ∈ ns, Builtin.Int.intBits n ≤ 2 ^ 20) ∧ ∀ H', Q (.bl true) H'
structure Clr (K : PySem.W.Frag) (H4 H : Hp) (Fd Kp B D : Addr) (ps1 ks1 qs : List (Addr × List Dt)) (i : Nat) : Prop where
  old : Same H4 H
  at_ : H Fd = some (.lst (ps1.map fun p => V.ref p.1))
  it : ∀ p ∈ ps1.drop i, LsM K H p.1 p.2
  kp : LLM K H Kp ks1
  also : LLM K H D qs
  b : H B = some (.lst [])
theorem Clr.same {K : PySem.W.Frag} {H4 H H' : Hp} {Fd Kp B D : Addr} {ps1 ks1 qs : List (Addr × List Dt)} {i : Nat} (h : Clr K H4 H Fd Kp B D ps1 ks1 qs i) (e : Same H H') : Clr K H4 H' Fd Kp B D ps1 ks1 qs i := ⟨h.old.trans e, e _ _ h.at_, fun p hp => (h.it p hp).same e, h.kp.same e, h.also.same e, e _ _ h.b⟩
structure Apt (H4 : Hp) (Fd Kp B D : Addr) (ps1 ks1 qs : List (Addr × List Dt)) : Prop where
  nd : (ps1.map (·.1)).Nodup
  old : ∀ p ∈ ps1, H4 p.1 = none
  fd : ∀ p ∈ ps1, Fd ≠ p.1
  kp : ∀ p ∈ ps1, Kp ≠ p.1
  ks : ∀ p ∈ ps1, ∀ k ∈ ks1, k.1 ≠ p.1
  d : ∀ p ∈ ps1, D ≠ p.1
  q : ∀ p ∈ ps1, ∀ q ∈ qs, q.1 ≠ p.1
  b : ∀ p ∈ ps1, B ≠ p.1
theorem Clr.clear {K : PySem.W.Frag} {H4 H : Hp} {Fd Kp B D : Addr} {ps1 ks1 qs : List (Addr × List Dt)} {i : Nat} (h : Clr K H4 H Fd Kp B D ps1 ks1 qs i) (ap : Apt H4 Fd Kp B D ps1 ks1 qs) {p : Addr × List Dt} (hp : ps1[i]? = some p) {vs : List V} (ev : H p.1 = some (.lst vs)) : Clr K H4 (upd H p.1 (.lst [])) Fd Kp B D ps1 ks1 qs (i + 1) := by
  have pm := List.mem_of_getElem? hp
  refine ⟨fun b o eb => ?_, by rw [upd_ne (ap.fd p pm)]; exact h.at_, fun q hq => ?_, LLM.updL h.kp ev (ap.kp p pm) (ap.ks p pm), LLM.updL h.also ev (ap.d p pm) (ap.q p pm), by rw [upd_ne (ap.b p pm)]; exact h.b⟩
  · rw [upd_ne (ne_of_none eb (ap.old p pm))]
    exact h.old _ _ eb
  · exact LsM.updL ev (drop_ne ap.nd hp hq) (h.it q (mem_drop_succ hq))
section
variable {P : Program} {w : World} {K : PySem.W.Frag} {mg : Str → Option Value} {base : Heap} {cN : Addr}
set_option maxHeartbeats 16000000 in
theorem ok_law {f f1 f2 f3 f4 f5 f6 f7 f8 f9 f10 : Addr} {fd d1 d2 d3 d4 d5 d6 d7 d8 d9 d10 : FuncData} (A : FnAt K mg "law" s_law ["_law_script"] f fd)
    (A_law_widths : FnAt K mg "_law_widths" s_law_widths ["_law_script"] f1 d1) (G_law_widths : FnOk P w K mg base CX0 2 f1 d1 ["_law_script"] (sp_widths K))
    (A_law_draws : FnAt K mg "_law_draws" s_law_draws ["_law_script", "_law_widths_here"] f2 d2) (G_law_draws : FnOk P w K mg base CX0 2 f2 d2 ["_law_script", "_law_widths_here"] (sp_draws K))
    (A_law_lists : FnAt K mg "_law_lists" s_law_lists ["_law_script", "_law_widths_here"] f3 d3) (G_law_lists : FnOk P w K mg base CX0 3 f3 d3 ["_law_script", "_law_widths_here"] (sp_lists K))
    (A_law_rows : FnAt K mg "_law_rows" s_law_rows ["_law_widths_here"] f4 d4) (G_law_rows : FnOk P w K mg base CX0 1 f4 d4 ["_law_widths_here"] (sp_rows K))
    (A_law_weights : FnAt K mg "_law_weights" s_law_weights ["_law_rows_here", "_law_draws_here"] f10 d10) (G_law_weights : FnOk P w K mg base CX0 1 f10 d10 ["_law_rows_here", "_law_draws_here"] (sp_weights K))
    (A_law_copy : FnAt K mg "_law_copy" s_law_copy ["_law_parts"] f5 d5) (G_law_copy : FnOk P w K mg base CX0 1 f5 d5 ["_law_parts"] (sp_copy K))
    (A_weighed : FnAt K mg "weighed" s_weighed ["parts", "draws"] f6 d6) (G_weighed : FnOk P w K mg base CX0 8 f6 d6 ["parts", "draws"] (sp_weighed K)) (G_weighed0 : FnOk P w K mg base CX0 8 f6 d6 ["parts", "draws"] sp_weighed0)
    (A_law_due : FnAt K mg "_law_due" s_law_due ["_law_parts", "_law_place", "_law_rows_here", "_law_weights_here"] f7 d7) (G_law_due : FnOk P w K mg base CX0 2 f7 d7 ["_law_parts", "_law_place", "_law_rows_here", "_law_weights_here"] (sp_due K w))
    (A_law_good : FnAt K mg "_law_good" s_law_good ["_law_found", "_law_due_here", "_law_whole_here"] f8 d8) (G_law_good : FnOk P w K mg base CX0 5 f8 d8 ["_law_found", "_law_due_here", "_law_whole_here"] (sp_good K w))
    (A_law_same : FnAt K mg "_law_same" s_law_same ["_law_found", "_law_due_here"] f9 d9) (G_law_same : FnOk P w K mg base CX0 7 f9 d9 ["_law_found", "_law_due_here"] (sp_same K 5))
    (T : Txt K mg cN) : FnOk P w K mg base CX0 9 f fd ["_law_script"] (sp_law K) := by
  refine A.F.ok (k := 8) sc_law (fun vs H Q E h => ?_) (fun cdv Ar outer s0 H vs Q E hr h => ?_)
  · obtain ⟨a, ns, rfl, _⟩ := h
    rfl
  · obtain ⟨a, ns, rfl, hS, hl63, hbits, k⟩ := h
    refine ⟨_, (pss_cons (ps_set (i := 1) sc_law.nd rfl (Or.inl rfl) (pe_call G_law_widths (hr.mono (by decide)) rfl A_law_widths.m A_law_widths.F.kp A_law_widths.b .nil pass0 (pa_cons (pv 0) pa_nil)))
      (pss_cons (ps_set (i := 2) sc_law.nd rfl (Or.inl rfl) (pe_call G_law_draws (hr.mono (by decide)) rfl A_law_draws.m A_law_draws.F.kp A_law_draws.b .nil pass0 (pa_cons (pv 0) (pa_cons (pv 1) pa_nil))))
      (pss_cons (ps_set (i := 3) sc_law.nd rfl (Or.inl rfl) (pe_call G_law_lists (hr.mono (by decide)) rfl A_law_lists.m A_law_lists.F.kp A_law_lists.b .nil pass0 (pa_cons (pv 0) (pa_cons (pv 1) pa_nil))))
      (pss_cons (ps_set (i := 4) sc_law.nd rfl (Or.inl rfl) (pe_call G_law_rows (hr.mono (by decide)) rfl A_law_rows.m A_law_rows.F.kp A_law_rows.b .nil pass0 (pa_cons (pv 1) pa_nil)))
      (pss_cons (ps_set (i := 5) sc_law.nd rfl (Or.inl rfl) (pe_call G_law_weights (hr.mono (by decide)) rfl A_law_weights.m A_law_weights.F.kp A_law_weights.b .nil pass0 (pa_cons (pv 4) (pa_cons (pv 2) pa_nil))))
      (pss_cons (ps_set (i := 6) sc_law.nd rfl (Or.inl rfl) (pe_call G_law_copy (hr.mono (by decide)) rfl A_law_copy.m A_law_copy.F.kp A_law_copy.b .nil pass0 (pa_cons (pv 3) pa_nil)))
      (pss_cons (ps_comp (i := 7) rfl sc_law.nd rfl (Or.inl rfl) (Nc := ["_law_draw"]) (caps0 rfl (by decide +kernel) (by decide +kernel) (by decide +kernel)) (pi_list (pv 2)) (fun _ _ _ _ => (pg_name (i := 0) (show List.Nodup (["_law_draw"] : List Str) by decide +kernel) rfl (Or.inl rfl))) (fun _ _ _ _ => pts_nil) (fun _ _ _ _ => by exact (pe_callTy (call_list_ofK (K := K) rfl) (by rfl) T.list_ Boot.«list» (pa_cons (pv 0) pa_nil))))
      (pss_cons (ps_set (i := 8) sc_law.nd rfl (Or.inl rfl) (pe_call G_weighed hr rfl A_weighed.m A_weighed.F.kp A_weighed.b .nil pass0 (pa_cons (pv 6) (pa_cons (pv 7) pa_nil))))
      (pss_cons (ps_if (PW.pt (pw_or (pt_not (pt_val (pe_callB call_isiA (by rfl) T.isinstance_ Boot.«isinstance» (pa_cons (pv 8) (pa_cons (pe_bltn rfl T.list_ Boot.«list» (v := .ty "list") rfl) pa_nil))))) (pw_or (pt_cmpR op_ne (pe_callB call_len_seq (by rfl) T.len_ Boot.«len» (pa_cons (pv 8) pa_nil)) (pe_callB call_len_seq (by rfl) T.len_ Boot.«len» (pa_cons (pv 3) pa_nil)) (nomark _)) (pw_or (pt_cmpR (op_nePq hr.units) (pv 6) (pv 3) (nomark _)) (pw_or1 (pt_cmpR (op_neLL hr.units) (pv 7) (pv 2) (nomark _))))))) (pss_one (ps_ret pe_bl)) pss_nil)
      (pss_cons (ps_for PassesOwn.never rfl (pi_range1 rfl T.range_ (pa_cons (pe_callB call_len_seq (by rfl) T.len_ Boot.«len» (pa_cons (pv 3) pa_nil)) pa_nil)) (pg_name (i := 9) sc_law.nd rfl (Or.inl rfl)) (pss_one (ps_if (pt_not (pt_val (pe_call G_law_good (hr.mono (by decide)) rfl A_law_good.m A_law_good.F.kp A_law_good.b .nil pass0 (pa_cons (pe_ix ix_list (pv 8) (pv 9) (fun _ _ => rfl)) (pa_cons (pe_call G_law_due (hr.mono (by decide)) rfl A_law_due.m A_law_due.F.kp A_law_due.b .nil pass0 (pa_cons (pv 3) (pa_cons (pv 9) (pa_cons (pv 4) (pa_cons (pv 5) pa_nil))))) (pa_cons (pe_callB (call_sum rfl) (by rfl) T.sum_ Boot.«sum» (pa_cons (pv 5) pa_nil)) pa_nil)))))) (pss_one (ps_ret pe_bl)) pss_nil)))
      (pss_cons (ps_comp (i := 10) rfl sc_law.nd rfl (Or.inl rfl) (Nc := ["_law_one"]) (caps0 rfl (by decide +kernel) (by decide +kernel) (by decide +kernel)) (pi_list (pv 8)) (fun _ _ _ _ => (pg_name (i := 0) (show List.Nodup (["_law_one"] : List Str) by decide +kernel) rfl (Or.inl rfl))) (fun _ _ _ _ => pts_nil) (fun _ _ _ _ => by exact (pe_callTy (call_list_ofK (K := K) rfl) (by rfl) T.list_ Boot.«list» (pa_cons (pv 0) pa_nil))))
      (pss_cons (ps_expr (pe_bm0 PySem.F.plainAttrs_list PySem.F.slot_list_clear PySem.F.type_list_clear mt_clear (pv 6)))
      (pss_cons (ps_for PassesOwn.never rfl (pi_range1 rfl T.range_ (pa_cons (pe_callB call_len_seq (by rfl) T.len_ Boot.«len» (pa_cons (pv 3) pa_nil)) pa_nil)) (pg_name (i := 9) sc_law.nd rfl (Or.inl rfl)) (pss_cons (ps_expr (pe_bm0 PySem.F.plainAttrs_list PySem.F.slot_list_clear PySem.F.type_list_clear mt_clear (pe_ix ix_list (pv 8) (pv 9) (fun _ _ => rfl))))
      (pss_one (ps_if (pt_cmpR (op_neLL hr.units) (pe_slice sl_list (pv 8) (po_some (pe_op op_add (pv 9) pe_int)) po_none) (pe_slice sl_list (pv 10) (po_some (pe_op op_add (pv 9) pe_int)) po_none) (nomark _)) (pss_one (ps_ret pe_bl)) pss_nil))))
      (pss_cons (ps_expr (pe_bm0 PySem.F.plainAttrs_list PySem.F.slot_list_clear PySem.F.type_list_clear mt_clear (pv 8)))
      (pss_cons (ps_asg (pe_tup (pa_cons pe_int (pa_cons (pe_op op_pow pe_int pe_int) pa_nil))) (pg_sub (pe_ix ix_list (pv 7) pe_int (fun _ _ => rfl)) pe_int set_list))
      (pss_one (ps_ret (pe_and (pe_cmpR (op_eqLL hr.units) (pe_call G_weighed0 hr rfl A_weighed.m A_weighed.F.kp A_weighed.b .nil pass0 (pa_cons (pv 6) (pa_cons (pv 7) pa_nil))) (pe_lst pa_nil) (nomark _)) (pe_one (pe_call G_law_same (hr.mono (by decide)) rfl A_law_same.m A_law_same.F.kp A_law_same.b .nil pass0 (pa_cons (pe_call G_weighed hr rfl A_weighed.m A_weighed.F.kp A_weighed.b .nil pass0 (pa_cons (pe_call G_law_copy (hr.mono (by decide)) rfl A_law_copy.m A_law_copy.F.kp A_law_copy.b .nil pass0 (pa_cons (pv 3) pa_nil)) (pa_cons (pv 2) pa_nil))) (pa_cons (pv 10) pa_nil)))))))))))))))))))))), ?_⟩
    refine ⟨_, rfl, a, ns, rfl, hS, fun Wd H1 ws S1 hW wo => ?_⟩
    refine ⟨_, rfl, _, rfl, a, Wd, ns, ws, rfl, S1.seq hS, hW, wo, fun DA H2 ps Pd S2 da eP => ?_⟩
    replace hW := S2 _ _ hW
    refine ⟨_, rfl, _, rfl, a, Wd, ns, ws, rfl, (S1.trans S2).seq hS, hW, wo, fun A H3 us parts S3 pa gw lo hl => ?_⟩
    replace hW := S3 _ _ hW
    replace da := da.same S3
    refine ⟨_, rfl, Wd, ws, rfl, hW, wo, fun Rr H3b rs S3b rws => ?_⟩
    replace da := da.same S3b
    replace pa := pa.same S3b
    refine ⟨_, rfl, _, rfl, Rr, DA, ws, rs, ps, Pd, rfl, wo, rws, da, eP, fun Wl H4 S4 _ eWl => ?_⟩
    replace da := da.same S4
    replace pa := pa.same S4
    replace rws := rws.same S4
    clear S1 S2 S3 S3b S4 hW hS
    have gp := gw.gp eP
    have gD := da.good
    have ld := da.len
    have l4 := da.l
    have lus := pa.l
    refine ⟨_, rfl, A, us, parts, rfl, pa, by omega, fun B H5 zb S5 hB pb => ?_⟩
    have da5 := da.same S5
    refine ⟨_, rfl, DA, rfl, ⟨_, SqL.of da5.ll.at_⟩, fun D hD => ?_⟩
    refine comp_list (K := K) (a := DA) (D := D) (xs := ps.map fun p => V.ref p.1) (fun i σ ys H' => (∃ o1, σ = [o1]) ∧ Same H5 H' ∧ H' D = some (.lst ys) ∧ ∃ qs : List (Addr × List Dt), ys = qs.map (fun p => V.ref p.1) ∧ qs.map (·.2) = (Pd.take i).map mI ∧ ∀ q ∈ qs, LsM K H' q.1 q.2 ∧ q.1 ≠ D ∧ H5 q.1 = none)
      ⟨⟨none, rfl⟩, .upd hD, upd_same, [], rfl, rfl, (fun _ h => nomatch h)⟩ ?_ ?_ ?_
    · rintro i σ ys H' hi ⟨_, S, eD, qs, rfl, eq, _⟩
      have := congrArg List.length eq
      rw [List.length_map, List.length_map, List.length_take] at this
      exact ⟨SqL.of (S _ _ da5.ll.at_), eD, Nat.lt_of_le_of_lt (show (qs.map fun p => V.ref p.1).length ≤ 100 by rw [List.length_map]; omega) (by decide)⟩
    · rintro i x σ ys H' hx ⟨⟨o1, rfl⟩, S, eD, qs, rfl, eq, hq⟩ N hN
      obtain ⟨q, d, rfl, hd, ⟨uw, eu, du⟩, gd, hDw⟩ := (da5.same S).of hx
      refine iteT (B := True) ?_
      refine ⟨_, rfl, q, uw, rfl, .inl (SqL.of eu), fun l hl' => ?_⟩
      have S4 := Same.upd (o := .lst uw) hl'
      have e4 : (upd H' l (.lst uw)) l = some (.lst uw) := upd_same
      generalize upd H' l (.lst uw) = H4' at S4 e4
      have eD4 := S4 _ _ eD
      have nl : l ≠ D := (ne_of_none eD hl').symm
      refine ⟨eD4, hN _ _ _ ⟨⟨_, rfl⟩, fun b o eb => ?_, upd_same, qs ++ [(l, mI d)], by rw [List.map_append]; rfl, by rw [List.map_append, take_snoc' hd, List.map_append, eq]; rfl, fun z hz => ?_⟩⟩
      · rw [upd_ne (ne_of_none eb hD)]
        exact S4 _ _ (S _ _ eb)
      · rcases List.mem_append.mp hz with y | y
        · obtain ⟨h1, h2, h3⟩ := hq z y
          exact ⟨LsM.updL eD4 h2 (h1.same S4), h2, h3⟩
        · cases List.mem_singleton.mp y
          exact ⟨LsM.updL eD4 nl ⟨uw, e4, du.same S4⟩, nl, S.free hl'⟩
    rintro σ ys H6 ⟨_, S6, eD, qs, rfl, eq, hq⟩
    rw [ld, List.take_of_length_le (Nat.le_refl _)] at eq
    have dd : DrsAt K H6 D qs Pd := ⟨⟨eD, fun q hq' => (hq q hq').1, fun q hq' => (hq q hq').2.1⟩, eq, da.g, da.l⟩
    have pb6 := pb.same S6
    have S46 := S5.trans S6
    have B6 := pb6.a
    refine ⟨_, rfl, _, rfl, B, D, zb, parts, qs, Pd, cv parts, rfl, pb6, dd, gp, lv_cv lo, Nat.le_trans (cv_len parts) hl, by omega, fun Fd H7 zs Rs S7 hFd fz tb lR gt => ?_⟩
    obtain ⟨ps1, e1, e2, ll1⟩ := tb.ll lR
    have hg := @Gt.hgt Pd (cv parts) parts Rs gt
    have lps : ps1.length = parts.length := by
      have := congrArg List.length e2
      rw [List.length_map, tabs_len lR] at this
      exact this
    have hgt1 : ∀ p ∈ ps1, Dt.hgts p.2 ≤ 30 ∧ ∀ d ∈ p.2, d.hgt ≤ 3 := fun p hp => by
      have : p.2 ∈ tabs Pd parts Rs := by rw [← e2]; exact List.mem_map.mpr ⟨p, hp, rfl⟩
      obtain ⟨i, hi⟩ := List.getElem?_of_mem this
      exact hg hi
    have S47 := S46.trans S7
    have pa7 := pa.same S47
    have da7 := da.same S47
    have pb7 := pb6.same S7
    have dd7 := dd.same S7
    have lzb := pb.l
    have lp1 : (ps1.map fun p => V.ref p.1).length = us.length := by rw [List.length_map]; omega
    refine ⟨_, rfl, _, _, _, _, rfl, .inl ⟨.lst ll1.at_, rfl⟩, _, rfl, iteF ?_⟩
    refine ⟨_, rfl, Fd, _, rfl, .inl (SqL.of ll1.at_), _, rfl, A, _, rfl, .inl (SqL.of pa7.a), rfl, _, rfl, ?_⟩
    rw [lp1]
    refine iteBB (fun hc => by simp at hc) (fun _ => ?_)
    refine ⟨_, rfl, _, rfl, B, A, zb, us, rfl, rfl, SqL.of pb7.a, SqL.of pa7.a, by omega, fun i v x e1 e2 => ?_, _, rfl, iteF ?_⟩
    · obtain ⟨p, hp, px⟩ := pb7.at e1
      exact px.pq (pa7.p i x p e2 hp) fun o z => lo i o (by rw [hp, z])
    refine ⟨_, rfl, _, rfl, D, DA, qs, ps, rfl, rfl, dd7.ll, da7.ll, eq.trans da.e.symm, fun q hq => ?_, _, rfl, iteF ?_⟩
    · have : q.2 ∈ Pd.map mI := by rw [← eq]; exact List.mem_map.mpr ⟨q, hq, rfl⟩
      obtain ⟨d, _, e⟩ := List.mem_map.mp this
      rw [← e]
      exact hgts_mI d
    have eW7 := S47 _ _ eWl
    have rws7 := rws.same S47
    refine ⟨_, rfl, A, _, rfl, .inl (SqL.of pa7.a), (us.length : Int), rfl, by omega, by omega, for_range (lo := 0) (n := (us.length : Int).toNat) (fun i σ H' => Same H7 H' ∧ ∃ o9, σ = [some (.ref a), some (.ref Wd), some (.ref DA), some (.ref A), some (.ref Rr), some (.ref Wl), some (.ref B), some (.ref D), some (.ref Fd), o9, none])
      ⟨.refl _, none, rfl⟩ ?_ ?_⟩
    · rintro i σ H8 hi ⟨S8, o9, rfl⟩
      have hip : i < parts.length := by omega
      obtain ⟨p, hp⟩ := get_ex (l := parts) (i := i) hip
      obtain ⟨R, hR⟩ := get_ex (l := Rs) (i := i) (by omega)
      obtain ⟨q1, hq1⟩ := get_ex (l := ps1) (i := i) (by omega)
      have et : q1.2 = R.map (parD (Ts (Dw Pd) (site Pd.length p))) := by
        have h1 := tabs_at (P := Pd) hp hR
        rw [← e2, List.getElem?_map, hq1] at h1
        exact Option.some.inj h1
      refine ⟨_, rfl, _, rfl, Fd, _, _, .ref q1.1, rfl, rfl, SqL.of (S8 _ _ ll1.at_), atI0 (by rw [List.getElem?_map, hq1]; rfl), ?_⟩
      refine ⟨_, rfl, _, rfl, _, rfl, _, rfl, A, Rr, Wl, us, parts, ws, rs, Pd, i, by rw [Int.zero_add]; rfl, pa7.same S8, gw, lo, hl, wo, rws7.same S8, S8 _ _ eW7, eP, hip, fun Dd H9 kvs S9 du => ?_⟩
      have S79 := S8.trans S9
      refine ⟨_, rfl, Wl, _, rfl, SqL.of (S79 _ _ eW7), ?_⟩
      have es : ((allRows ws).map fun row => Wt (Dw Pd) row 0).sum = Ts (Dw Pd) 0 := by
        rw [← eP]
        exact wts_sum Pd
      rw [es]
      have ls9 := (ll1.it q1 (List.mem_of_getElem? hq1)).same S79
      rw [et] at ls9
      exact ⟨q1.1, Dd, kvs, R, _, _, _, rfl, du, DR_good da gp gt (Nat.le_trans (cv_len parts) hl) hp hR ls9, fun H10 S10 => ⟨_, rfl, iteF ⟨S79.trans S10, _, rfl⟩⟩⟩
    rintro σ H8 ⟨S8, o9, rfl⟩
    have ll8 := ll1.same S8
    refine ⟨_, rfl, Fd, rfl, ⟨_, SqL.of ll8.at_⟩, fun Kp hKp => ?_⟩
    refine comp_list (K := K) (a := Fd) (D := Kp) (xs := ps1.map fun p => V.ref p.1) (fun i σ ys H' => (∃ o1, σ = [o1]) ∧ Same H8 H' ∧ H' Kp = some (.lst ys) ∧ ∃ ks : List (Addr × List Dt), ys = ks.map (fun p => V.ref p.1) ∧ ks.map (·.2) = (ps1.take i).map (·.2) ∧ ∀ q ∈ ks, LsM K H' q.1 q.2 ∧ q.1 ≠ Kp ∧ H8 q.1 = none)
      ⟨⟨none, rfl⟩, .upd hKp, upd_same, [], rfl, rfl, (fun _ h => nomatch h)⟩ ?_ ?_ ?_
    · rintro i σ ys H' hi ⟨_, S, eD, qs, rfl, eq, _⟩
      have := congrArg List.length eq
      rw [List.length_map, List.length_map, List.length_take] at this
      exact ⟨SqL.of (S _ _ ll8.at_), eD, Nat.lt_of_le_of_lt (show (qs.map fun p => V.ref p.1).length ≤ 100 by rw [List.length_map]; omega) (by decide)⟩
    · rintro i x σ ys H' hx ⟨⟨o1, rfl⟩, S, eK, ks, rfl, ek, hk⟩ N hN
      obtain ⟨q1, hq1, rfl⟩ := map_get hx
      obtain ⟨uw, eu, du⟩ := (ll8.it q1 (List.mem_of_getElem? hq1)).same S
      refine iteT (B := True) ?_
      refine ⟨_, rfl, q1.1, uw, rfl, .inl (SqL.of eu), fun l hl' => ?_⟩
      have S4 := Same.upd (o := .lst uw) hl'
      have e4 : (upd H' l (.lst uw)) l = some (.lst uw) := upd_same
      generalize upd H' l (.lst uw) = H4' at S4 e4
      have eK4 := S4 _ _ eK
      have nl : l ≠ Kp := (ne_of_none eK hl').symm
      refine ⟨eK4, hN _ _ _ ⟨⟨_, rfl⟩, fun b o eb => ?_, upd_same, ks ++ [(l, q1.2)], by rw [List.map_append]; rfl, by rw [List.map_append, take_snoc' hq1, List.map_append, ek]; rfl, fun z hz => ?_⟩⟩
      · rw [upd_ne (ne_of_none eb hKp)]
        exact S4 _ _ (S _ _ eb)
      · rcases List.mem_append.mp hz with y | y
        · obtain ⟨h1, h2, h3⟩ := hk z y
          exact ⟨LsM.updL eK4 h2 (h1.same S4), h2, h3⟩
        · cases List.mem_singleton.mp y
          exact ⟨LsM.updL eK4 nl ⟨uw, e4, du.same S4⟩, nl, S.free hl'⟩
    rintro σ ys H9 ⟨_, S9, eK, ks, rfl, ek, hk⟩
    rw [List.take_of_length_le (by rw [List.length_map]; exact Nat.le_refl _)] at ek
    have S89 := S8.trans S9
    have S49 := S47.trans S89
    have B9 := S89 _ _ (S7 _ _ B6)
    have kp9 : LLM K H9 Kp ks := ⟨eK, fun q hq' => (hk q hq').1, fun q hq' => (hk q hq').2.1⟩
    have dd9 := dd7.same S89
    have some8 : ∀ {b : Addr} {o : HO}, H7 b = some o → H8 b = some o := fun {b o} e => S8 _ _ e
    have ps8 : ∀ p ∈ ps1, ∃ o, H8 p.1 = some o := fun p hp => by
      obtain ⟨uw, eu, _⟩ := ll8.it p hp
      exact ⟨_, eu⟩
    have zm : ∀ p ∈ ps1, p.1 ∈ zs := fun p hp => by rw [← e1]; exact List.mem_map.mpr ⟨p, hp, rfl⟩
    have fz6 : ∀ p ∈ ps1, H6 p.1 = none := fun p hp => fz _ (zm p hp)
    have B8 : H8 B = some (.lst zb) := S8 _ _ (S7 _ _ B6)
    have ap : Apt H4 Fd Kp B D ps1 ks qs := ⟨by rw [e1]; exact tb.nd, fun p hp => S46.free (fz6 p hp), fun p hp => (ll8.ne p hp).symm, fun p hp => by
        obtain ⟨o, eo⟩ := ps8 p hp
        exact (ne_of_none eo hKp).symm, fun p hp q hq' => by
        obtain ⟨o, eo⟩ := ps8 p hp
        exact (ne_of_none eo (hk q hq').2.2).symm, fun p hp => ne_of_none eD (fz6 p hp), fun p hp q hq' => by
        obtain ⟨uw, eu, _⟩ := (hq q hq').1
        exact ne_of_none eu (fz6 p hp), fun p hp => ne_of_none B6 (fz6 p hp)⟩
    have nBF : Fd ≠ B := (ne_of_none B6 hFd).symm
    have nBK : Kp ≠ B := (ne_of_none B8 hKp).symm
    have nBD : D ≠ B := (ne_of_none pb.a hD).symm
    refine ⟨_, rfl, .inl ⟨rfl, _, SqL.of B9⟩, B, zb, rfl, rfl, B9, ?_⟩
    have c0 : Clr K H4 (upd H9 B (.lst [])) Fd Kp B D ps1 ks qs 0 := ⟨fun b o eb => by
        rw [upd_ne (ne_of_none eb hB)]
        exact S49 _ _ eb, by rw [upd_ne nBF]; exact S9 _ _ ll8.at_, fun p hp => LsM.updL B9 (ne_of_none B6 (fz6 p hp)).symm ((ll8.it p hp).same S9), LLM.updL kp9 B9 nBK (fun q hq' => (ne_of_none B8 (hk q hq').2.2).symm), LLM.updL dd9.ll B9 nBD (fun q hq' => (ne_of_none pb.a (hq q hq').2.2).symm), upd_same⟩
    generalize upd H9 B (.lst []) = H10 at c0
    have paX := fun {H' : Hp} (e : Same H4 H') => pa.same e
    refine ⟨_, rfl, A, _, rfl, .inl (SqL.of (c0.old _ _ pa.a)), (us.length : Int), rfl, by omega, by omega, for_range (lo := 0) (n := (us.length : Int).toNat) (fun i σ H' => Clr K H4 H' Fd Kp B D ps1 ks qs i ∧ ∃ o9, σ = [some (.ref a), some (.ref Wd), some (.ref DA), some (.ref A), some (.ref Rr), some (.ref Wl), some (.ref B), some (.ref D), some (.ref Fd), o9, some (.ref Kp)])
      ⟨c0, _, rfl⟩ ?_ ?_⟩
    · rintro i σ H' hi ⟨c, o9, rfl⟩
      obtain ⟨q1, hq1⟩ := get_ex (l := ps1) (i := i) (by omega)
      obtain ⟨uw, eu, du⟩ := c.it q1 (drop_get hq1)
      refine ⟨_, rfl, _, rfl, Fd, _, _, .ref q1.1, rfl, rfl, SqL.of c.at_, atI0 (by rw [List.getElem?_map, hq1]; rfl), .inl ⟨rfl, _, SqL.of eu⟩, q1.1, uw, rfl, rfl, eu, ?_⟩
      have c1 := c.clear ap hq1 eu
      generalize upd H' q1.1 (.lst []) = H1 at c1
      refine ⟨_, rfl, _, rfl, _, _, rfl, rfl, _, rfl, Fd, _, rfl, SqL.of c1.at_, fun s1 hs1 => ?_⟩
      dsimp only at hs1 ⊢
      rw [cut_drop]
      have T1 := Same.upd (o := .lst ((ps1.map fun p => V.ref p.1).drop (i + 1))) hs1
      have g1 : LLM K (upd H1 s1 (.lst ((ps1.map fun p => V.ref p.1).drop (i + 1)))) s1 (ps1.drop (i + 1)) := ⟨by rw [upd_same, List.map_drop], fun p hp => (c1.it p hp).same T1, fun p hp => by
        obtain ⟨w1, ew, _⟩ := c1.it p hp
        exact ne_of_none ew hs1⟩
      have c2 := c1.same T1
      generalize upd H1 s1 (.lst ((ps1.map fun p => V.ref p.1).drop (i + 1))) = H2 at T1 g1 c2
      refine ⟨_, rfl, _, rfl, _, _, rfl, rfl, _, rfl, Kp, _, rfl, SqL.of c2.kp.at_, fun s2 hs2 => ?_⟩
      dsimp only at hs2 ⊢
      rw [cut_drop]
      have T2 := Same.upd (o := .lst ((ks.map fun p => V.ref p.1).drop (i + 1))) hs2
      have g2 : LLM K (upd H2 s2 (.lst ((ks.map fun p => V.ref p.1).drop (i + 1)))) s2 (ks.drop (i + 1)) := ⟨by rw [upd_same, List.map_drop], fun p hp => (c2.kp.it p (List.mem_of_mem_drop hp)).same T2, fun p hp => by
        obtain ⟨w1, ew, _⟩ := c2.kp.it p (List.mem_of_mem_drop hp)
        exact ne_of_none ew hs2⟩
      have c3 := c2.same T2
      have g1' := g1.same T2
      generalize upd H2 s2 (.lst ((ks.map fun p => V.ref p.1).drop (i + 1))) = H3 at g1' g2 c3
      refine ⟨s1, s2, _, _, rfl, rfl, g1', g2, by rw [List.map_drop, List.map_drop, ek], fun p hp => (hgt1 p (List.mem_of_mem_drop hp)).1, _, rfl, iteF ⟨c3, _, rfl⟩⟩
    rintro σ H11 ⟨c, o9, rfl⟩
    refine ⟨_, rfl, .inl ⟨rfl, _, SqL.of c.at_⟩, Fd, _, rfl, rfl, c.at_, ?_⟩
    have F8 : H8 Fd = some (.lst (ps1.map fun p => V.ref p.1)) := ll8.at_
    have old12 : Same H4 (upd H11 Fd (.lst [])) := fun b o eb => by
      rw [upd_ne (ne_of_none eb (S46.free hFd))]
      exact c.old _ _ eb
    have kp12 : LLM K (upd H11 Fd (.lst [])) Kp ks := LLM.updL c.kp c.at_ (ne_of_none F8 hKp).symm fun q hq' => (ne_of_none F8 (hk q hq').2.2).symm
    have al12 : LLM K (upd H11 Fd (.lst [])) D qs := LLM.updL c.also c.at_ (ne_of_none eD hFd) fun q hq' => by
      obtain ⟨uw, eu, _⟩ := (hq q hq').1
      exact ne_of_none eu hFd
    have b12 : (upd H11 Fd (.lst [])) B = some (.lst []) := by rw [upd_ne nBF.symm]; exact c.b
    generalize upd H11 Fd (.lst []) = H12 at old12 kp12 al12 b12
    have lq : qs.length = Pd.length := by
      have := congrArg List.length eq
      rwa [List.length_map, List.length_map] at this
    have lPd : Pd.length = ws.length := by rw [← eP, List.length_map]
    have wl0 := wo.l0
    obtain ⟨q0, hq0⟩ := get_ex (l := qs) (i := 0) (by omega)
    obtain ⟨p0, hp0⟩ := get_ex (l := Pd) (i := 0) (by omega)
    have q0m := List.mem_of_getElem? hq0
    have e0 : q0.2 = mI p0 := by
      have h : (qs.map (·.2))[0]? = (Pd.map mI)[0]? := by rw [eq]
      rw [List.getElem?_map, List.getElem?_map, hq0, hp0] at h
      exact Option.some.inj h
    obtain ⟨u0, eu0, du0⟩ := al12.it q0 q0m
    have lu0 : 0 < u0.length := by
      have := du0.length
      rw [e0, List.length_map] at this
      have := (da.g p0 (List.mem_of_getElem? hp0)).l0
      omega
    refine ⟨_, _, rfl, rfl, ⟨by decide, by decide, by decide⟩, two_le, fun t ht => ?_⟩
    dsimp only at ht ⊢
    have T1 := Same.upd (o := .tup [.int 7, .int (10 ^ (6 : Int).toNat)]) ht
    generalize upd H12 t (.tup [.int 7, .int (10 ^ (6 : Int).toNat)]) = H13 at T1
    replace al12 := al12.same T1
    replace kp12 := kp12.same T1
    replace b12 := T1 _ _ b12
    replace old12 := old12.trans T1
    replace eu0 := T1 _ _ eu0
    obtain ⟨x0, ex0⟩ := get_ex (l := u0) (i := 0) lu0
    refine ⟨_, rfl, D, _, 0, .ref q0.1, rfl, rfl, SqL.of al12.at_, atI_nat (j := 0) (by rw [List.getElem?_map, hq0]; rfl), ?_⟩
    refine ⟨q0.1, u0, 0, 0, rfl, rfl, eu0, ?ix, ?_⟩
    case ix =>
      cases u0 with
      | nil => simp at lu0
      | cons x u0 => exact ixN_zero (by simp)
    have hq5 := (hq q0 q0m).2.2
    have old14 : Same H4 (upd H13 q0.1 (.lst (u0.set 0 (.ref t)))) := fun b o eb => by
      rw [upd_ne (ne_of_none eb (S5.free hq5))]
      exact old12 _ _ eb
    have s8q : ∃ o, H8 q0.1 = some o := by
      obtain ⟨uw, eu, _⟩ := (hq q0 q0m).1
      exact ⟨_, S8 _ _ (S7 _ _ eu)⟩
    obtain ⟨oq, eoq⟩ := s8q
    have kp14 : LLM K (upd H13 q0.1 (.lst (u0.set 0 (.ref t)))) Kp ks := LLM.updL kp12 eu0 (ne_of_none eoq hKp).symm fun q hq' => (ne_of_none eoq (hk q hq').2.2).symm
    have b14 : (upd H13 q0.1 (.lst (u0.set 0 (.ref t)))) B = some (.lst []) := by rw [upd_ne (ne_of_none pb.a hq5)]; exact b12
    generalize upd H13 q0.1 (.lst (u0.set 0 (.ref t))) = H14 at old14 kp14 b14
    refine ⟨_, rfl, _, rfl, B, .ref D, rfl, b14, fun F2 H15 S15 eF2 => ⟨Nat.zero_le _, fun L hL => ?_⟩⟩
    have S16 := Same.upd (o := .lst []) hL
    have eL : (upd H15 L (.lst [])) L = some (.lst []) := upd_same
    generalize upd H15 L (.lst []) = H16 at S16 eL
    refine ⟨F2, L, [], [], rfl, rfl, ⟨S16 _ _ eF2, (fun _ h => nomatch h), (fun _ h => nomatch h)⟩, ⟨eL, (fun _ h => nomatch h), (fun _ h => nomatch h)⟩, rfl, (fun _ h => nomatch h), _, rfl, iteT ?_⟩
    have S4x := old14.trans (S15.trans S16)
    have kp16 := kp14.same (S15.trans S16)
    refine ⟨_, rfl, A, us, parts, rfl, pa.same S4x, by omega, fun B2 H17 zb2 S17 hB2 pb2 => ?_⟩
    refine ⟨_, rfl, B2, DA, zb2, parts, ps, Pd, cv parts, rfl, pb2, da.same (S4x.trans S17), gp, lv_cv lo, Nat.le_trans (cv_len parts) hl, by omega, fun Fd2 H18 zs2 Rs2 S18 _ _ tb2 lR2 gt2 => ?_⟩
    have eRs : Rs = Rs2 := gt.one gD gp gt2 lR lR2
    subst eRs
    obtain ⟨ps2, _, e22, ll2⟩ := tb2.ll lR2
    refine ⟨_, rfl, .ref Fd2, .ref Kp, rfl, al_tabs ll2 (kp16.same (S17.trans S18)) (by rw [e22, ek, e2]) fun p hp => ?_, k _⟩
    have : p.2 ∈ tabs Pd parts Rs := by rw [← e22]; exact List.mem_map.mpr ⟨p, hp, rfl⟩
    obtain ⟨i, hi⟩ := List.getElem?_of_mem this
    exact (hg hi).2
end
end K40
namespace K40
open PySem L2 FW PyProof.Rows
theorem whole_mk {K : PySem.W.Frag} {a : Addr} {o : Obj} (hk : K.lookup a = some o) (h : o.cls = .type "tuple" ∧ ∃ n t0 t1, o.data = .seq #[.int 1 t0, .int 1 t1] n) : ∀ H, SqT K H a [.int 1, .int 1] := by
  intro H
  obtain ⟨h1, n, t0, t1, h2⟩ := h
  exact .inr ⟨o, _, n, hk, h1, h2, (by show 2 ≤ sizeLine; decide), .cons ⟨t0, rfl⟩ (.cons ⟨t1, rfl⟩ .nil)⟩
end K40
namespace K40
open PySem L2 FW PyProof.Rows
noncomputable def KF : Params → PySem.W.Frag := fun P =>
 (nat_lit 2, ⟨.none, none, (.dict #[] 0), #[]⟩) ::
 (nat_lit 3, ⟨(.type "dict"), none, (.dict #[⟨PyData.keyHash P "__name__", (.str "__name__" 165), (.str "law_flipwright_k40_weighed_by_rows" 335)⟩, ⟨PyData.keyHash P "__doc__", (.str "__doc__" 166), .none⟩, ⟨PyData.keyHash P "__package__", (.str "__package__" 167), .none⟩, ⟨PyData.keyHash P "__loader__", (.str "__loader__" 168), (.builtin "__main__.__loader__#opaque")⟩, ⟨PyData.keyHash P "__spec__", (.str "__spec__" 169), .none⟩, ⟨PyData.keyHash P "__annotations__", (.str "__annotations__" 170), (.ref 6)⟩, ⟨PyData.keyHash P "__builtins__", (.str "__builtins__" 171), (.ref 4)⟩, ⟨PyData.keyHash P "__file__", (.str "__file__" 173), (.str "/claim/cut.py" 172)⟩, ⟨PyData.keyHash P "__cached__", (.str "__cached__" 174), .none⟩, ⟨PyData.keyHash P "FlipError", (.str "FlipError" 206), (.ref 24)⟩, ⟨PyData.keyHash P "NoShare", (.str "NoShare" 222), (.ref 37)⟩, ⟨PyData.keyHash P "NOUGHT", (.str "NOUGHT" 227), (.ref 40)⟩, ⟨PyData.keyHash P "WHOLE", (.str "WHOLE" 230), (.ref 41)⟩, ⟨PyData.keyHash P "greatest_divisor", (.str "greatest_divisor" 239), (.ref 48)⟩, ⟨PyData.keyHash P "fraction", (.str "fraction" 248), (.ref 55)⟩, ⟨PyData.keyHash P "plus", (.str "plus" 260), (.ref 62)⟩, ⟨PyData.keyHash P "times", (.str "times" 270), (.ref 69)⟩, ⟨PyData.keyHash P "rank", (.str "rank" 279), (.ref 76)⟩, ⟨PyData.keyHash P "in_order", (.str "in_order" 288), (.ref 83)⟩, ⟨PyData.keyHash P "gathered", (.str "gathered" 294), (.ref 88)⟩, ⟨PyData.keyHash P "mixed", (.str "mixed" 306), (.ref 95)⟩, ⟨PyData.keyHash P "weights_of", (.str "weights_of" 312), (.ref 100)⟩, ⟨PyData.keyHash P "draw_shares", (.str "draw_shares" 318), (.ref 105)⟩, ⟨PyData.keyHash P "weighed_question", (.str "weighed_question" 328), (.ref 112)⟩, ⟨PyData.keyHash P "weighed", (.str "weighed" 334), (.ref 117)⟩, ⟨PyData.keyHash P "_law_cell_at", (.str "_law_cell_at" 344), (.ref 124)⟩, ⟨PyData.keyHash P "_law_whole", (.str "_law_whole" 351), (.ref 131)⟩, ⟨PyData.keyHash P "_law_mix", (.str "_law_mix" 360), (.ref 138)⟩, ⟨PyData.keyHash P "_law_same", (.str "_law_same" 369), (.ref 145)⟩, ⟨PyData.keyHash P "_law_word", (.str "_law_word" 379), (.ref 152)⟩, ⟨PyData.keyHash P "_law_outcome", (.str "_law_outcome" 388), (.ref 159)⟩, ⟨PyData.keyHash P "_law_divisor", (.str "_law_divisor" 396), (.ref 166)⟩, ⟨PyData.keyHash P "_law_is_share", (.str "_law_is_share" 403), (.ref 173)⟩, ⟨PyData.keyHash P "_law_rank", (.str "_law_rank" 410), (.ref 180)⟩, ⟨PyData.keyHash P "_law_widths", (.str "_law_widths" 419), (.ref 187)⟩, ⟨PyData.keyHash P "_law_draws", (.str "_law_draws" 433), (.ref 194)⟩, ⟨PyData.keyHash P "_law_site", (.str "_law_site" 440), (.ref 201)⟩, ⟨PyData.keyHash P "_law_lists", (.str "_law_lists" 446), (.ref 206)⟩, ⟨PyData.keyHash P "_law_copy", (.str "_law_copy" 452), (.ref 211)⟩, ⟨PyData.keyHash P "_law_lead", (.str "_law_lead" 462), (.ref 218)⟩, ⟨PyData.keyHash P "_law_rows", (.str "_law_rows" 474), (.ref 225)⟩, ⟨PyData.keyHash P "_law_weights", (.str "_law_weights" 486), (.ref 232)⟩, ⟨PyData.keyHash P "_law_due", (.str "_law_due" 499), (.ref 239)⟩, ⟨PyData.keyHash P "_law_good", (.str "_law_good" 511), (.ref 246)⟩, ⟨PyData.keyHash P "law", (.str "law" 517), (.ref 251)⟩] 45), #[]⟩) ::
 (nat_lit 15, ⟨(.type "tuple"), none, (.seq #[(.type "ValueError")] 0), #[]⟩) ::
 (nat_lit 22, ⟨(.type "tuple"), none, (.seq #[] 0), #[]⟩) ::
 (nat_lit 23, ⟨(.type "dict"), none, (.dict #[⟨PyData.keyHash P "__module__", (.str "__module__" 196), (.str "flipwright.errors" 187)⟩, ⟨PyData.keyHash P "__firstlineno__", (.str "__firstlineno__" 200), (.int 2 199)⟩, ⟨PyData.keyHash P "__static_attributes__", (.str "__static_attributes__" 201), (.ref 22)⟩, ⟨PyData.keyHash P "__weakref__", (.str "__weakref__" 203), (.ref 25)⟩, ⟨PyData.keyHash P "__doc__", (.str "__doc__" 204), .none⟩] 3), #[]⟩) ::
 (nat_lit 24, ⟨(.type "type"), none, (.cls (.mk "FlipError" [(.type "ValueError")] [(.ref 24), (.type "ValueError"), (.type "Exception"), (.type "BaseException"), (.type "object")] 23 "FlipError" true [] [(.ref 37)] false none false)), #[(some (.ref 15)), none, (some (.str "FlipError" 189)), (some (.str "FlipError" 197)), (some (.builtin "ValueError.__new__")), (some (.bool true))]⟩) ::
 (nat_lit 25, ⟨(.type "getset_descriptor"), none, (.fields #[(.str "__weakref__" 202), (.ref 24), (.builtin "ExceptionGroup.__weakref__"), .none]), #[]⟩) ::
 (nat_lit 28, ⟨(.type "tuple"), none, (.seq #[(.ref 24)] 0), #[]⟩) ::
 (nat_lit 35, ⟨(.type "tuple"), none, (.seq #[] 0), #[]⟩) ::
 (nat_lit 36, ⟨(.type "dict"), none, (.dict #[⟨PyData.keyHash P "__module__", (.str "__module__" 214), (.str "flipwright.errors" 187)⟩, ⟨PyData.keyHash P "__firstlineno__", (.str "__firstlineno__" 218), (.int 4 217)⟩, ⟨PyData.keyHash P "__static_attributes__", (.str "__static_attributes__" 219), (.ref 35)⟩, ⟨PyData.keyHash P "__doc__", (.str "__doc__" 220), .none⟩] 2), #[]⟩) ::
 (nat_lit 37, ⟨(.type "type"), none, (.cls (.mk "NoShare" [(.ref 24)] [(.ref 37), (.ref 24), (.type "ValueError"), (.type "Exception"), (.type "BaseException"), (.type "object")] 36 "NoShare" true [] [] false none false)), #[(some (.ref 28)), none, (some (.str "NoShare" 207)), (some (.str "NoShare" 215)), (some (.builtin "ValueError.__new__")), (some (.bool true))]⟩) ::
 (nat_lit 40, ⟨(.type "tuple"), none, (.seq #[(.int 0 225), (.int 1 226)] 0), #[]⟩) ::
 (nat_lit 41, ⟨(.type "tuple"), none, (.seq #[(.int 1 228), (.int 1 229)] 0), #[]⟩) ::
 (nat_lit 42, ⟨(.type "tuple"), none, (.seq #[] 0), #[]⟩) ::
 (nat_lit 44, ⟨(.type "tuple"), none, (.seq #[(.str "one" 234), (.str "other" 235), (.str "rest" 236)] 0), #[]⟩) ::
 (nat_lit 45, ⟨(.type "tuple"), none, (.seq #[] 0), #[]⟩) ::
 (nat_lit 47, ⟨(.type "code"), none, (.fields #[(.str "greatest_divisor" 231), (.str "greatest_divisor" 232), (.str "/claim/cut.py" 233), (.int 9 0), (.int 2 0), (.int 0 0), (.int 0 0), (.int 3 0), (.ref 42), (.bool true), (.int 181 0), (.ref 43), .none, (.ref 44), (.ref 45), (.ref 46), (.int 237 0), (.int 9 0), (.str "/claim/cut.py" 238)]), #[]⟩) ::
 (nat_lit 48, ⟨(.type "function"), none, (.func ⟨"greatest_divisor", "greatest_divisor", defArgs s_greatest_divisor, .stmts (defBody s_greatest_divisor), defScope s_greatest_divisor, 3, [], .none, .none, .none, (.str "flipwright.ratios" 223), none, (.ref 47), .none, 0⟩), #[]⟩) ::
 (nat_lit 49, ⟨(.type "tuple"), none, (.seq #[] 0), #[]⟩) ::
 (nat_lit 51, ⟨(.type "tuple"), none, (.seq #[(.str "top" 243), (.str "bottom" 244), (.str "divisor" 245)] 0), #[]⟩) ::
 (nat_lit 52, ⟨(.type "tuple"), none, (.seq #[] 0), #[]⟩) ::
 (nat_lit 54, ⟨(.type "code"), none, (.fields #[(.str "fraction" 240), (.str "fraction" 241), (.str "/claim/cut.py" 242), (.int 17 0), (.int 2 0), (.int 0 0), (.int 0 0), (.int 3 0), (.ref 49), (.bool true), (.int 181 0), (.ref 50), .none, (.ref 51), (.ref 52), (.ref 53), (.int 246 0), (.int 17 0), (.str "/claim/cut.py" 247)]), #[]⟩) ::
 (nat_lit 55, ⟨(.type "function"), none, (.func ⟨"fraction", "fraction", defArgs s_fraction, .stmts (defBody s_fraction), defScope s_fraction, 3, [], .none, .none, .none, (.str "flipwright.ratios" 223), none, (.ref 54), .none, 0⟩), #[]⟩) ::
 (nat_lit 56, ⟨(.type "tuple"), none, (.seq #[] 0), #[]⟩) ::
 (nat_lit 58, ⟨(.type "tuple"), none, (.seq #[(.str "one" 252), (.str "other" 253), (.str "shared" 254), (.str "lacking" 255), (.str "top" 256), (.str "divisor" 257)] 0), #[]⟩) ::
 (nat_lit 59, ⟨(.type "tuple"), none, (.seq #[] 0), #[]⟩) ::
 (nat_lit 61, ⟨(.type "code"), none, (.fields #[(.str "plus" 249), (.str "plus" 250), (.str "/claim/cut.py" 251), (.int 24 0), (.int 2 0), (.int 0 0), (.int 0 0), (.int 3 0), (.ref 56), (.bool true), (.int 181 0), (.ref 57), .none, (.ref 58), (.ref 59), (.ref 60), (.int 258 0), (.int 24 0), (.str "/claim/cut.py" 259)]), #[]⟩) ::
 (nat_lit 62, ⟨(.type "function"), none, (.func ⟨"plus", "plus", defArgs s_plus, .stmts (defBody s_plus), defScope s_plus, 3, [], .none, .none, .none, (.str "flipwright.ratios" 223), none, (.ref 61), .none, 0⟩), #[]⟩) ::
 (nat_lit 63, ⟨(.type "tuple"), none, (.seq #[] 0), #[]⟩) ::
 (nat_lit 65, ⟨(.type "tuple"), none, (.seq #[(.str "one" 264), (.str "other" 265), (.str "first" 266), (.str "second" 267)] 0), #[]⟩) ::
 (nat_lit 66, ⟨(.type "tuple"), none, (.seq #[] 0), #[]⟩) ::
 (nat_lit 68, ⟨(.type "code"), none, (.fields #[(.str "times" 261), (.str "times" 262), (.str "/claim/cut.py" 263), (.int 30 0), (.int 2 0), (.int 0 0), (.int 0 0), (.int 3 0), (.ref 63), (.bool true), (.int 181 0), (.ref 64), .none, (.ref 65), (.ref 66), (.ref 67), (.int 268 0), (.int 30 0), (.str "/claim/cut.py" 269)]), #[]⟩) ::
 (nat_lit 69, ⟨(.type "function"), none, (.func ⟨"times", "times", defArgs s_times, .stmts (defBody s_times), defScope s_times, 3, [], .none, .none, .none, (.str "flipwright.ratios" 223), none, (.ref 68), .none, 0⟩), #[]⟩) ::
 (nat_lit 70, ⟨(.type "tuple"), none, (.seq #[] 0), #[]⟩) ::
 (nat_lit 72, ⟨(.type "tuple"), none, (.seq #[(.str "outcome" 276)] 0), #[]⟩) ::
 (nat_lit 73, ⟨(.type "tuple"), none, (.seq #[] 0), #[]⟩) ::
 (nat_lit 75, ⟨(.type "code"), none, (.fields #[(.str "rank" 273), (.str "rank" 274), (.str "/claim/cut.py" 275), (.int 35 0), (.int 1 0), (.int 0 0), (.int 0 0), (.int 3 0), (.ref 70), (.bool true), (.int 181 0), (.ref 71), .none, (.ref 72), (.ref 73), (.ref 74), (.int 277 0), (.int 35 0), (.str "/claim/cut.py" 278)]), #[]⟩) ::
 (nat_lit 76, ⟨(.type "function"), none, (.func ⟨"rank", "rank", defArgs s_rank, .stmts (defBody s_rank), defScope s_rank, 3, [], .none, .none, .none, (.str "flipwright.tables" 271), none, (.ref 75), .none, 0⟩), #[]⟩) ::
 (nat_lit 77, ⟨(.type "tuple"), none, (.seq #[] 0), #[]⟩) ::
 (nat_lit 79, ⟨(.type "tuple"), none, (.seq #[(.str "outcomes" 283), (.str "kept" 284), (.str "outcome" 285)] 0), #[]⟩) ::
 (nat_lit 80, ⟨(.type "tuple"), none, (.seq #[] 0), #[]⟩) ::
 (nat_lit 82, ⟨(.type "code"), none, (.fields #[(.str "in_order" 280), (.str "in_order" 281), (.str "/claim/cut.py" 282), (.int 41 0), (.int 1 0), (.int 0 0), (.int 0 0), (.int 3 0), (.ref 77), (.bool true), (.int 181 0), (.ref 78), .none, (.ref 79), (.ref 80), (.ref 81), (.int 286 0), (.int 41 0), (.str "/claim/cut.py" 287)]), #[]⟩) ::
 (nat_lit 83, ⟨(.type "function"), none, (.func ⟨"in_order", "in_order", defArgs s_in_order, .stmts (defBody s_in_order), defScope s_in_order, 3, [], .none, .none, .none, (.str "flipwright.tables" 271), none, (.ref 82), .none, 0⟩), #[]⟩) ::
 (nat_lit 84, ⟨(.type "tuple"), none, (.seq #[] 0), #[]⟩) ::
 (nat_lit 87, ⟨(.type "code"), none, (.fields #[(.str "gathered" 289), (.str "gathered" 290), (.str "/claim/cut.py" 291), (.int 46 0), (.int 1 0), (.int 0 0), (.int 0 0), (.int 3 0), (.ref 84), (.bool true), (.int 181 0), (.ref 85), .none, .none, .none, (.ref 86), (.int 292 0), (.int 46 0), (.str "/claim/cut.py" 293)]), #[]⟩) ::
 (nat_lit 88, ⟨(.type "function"), none, (.func ⟨"gathered", "gathered", defArgs s_gathered, .stmts (defBody s_gathered), defScope s_gathered, 3, [], .none, .none, .none, (.str "flipwright.tables" 271), none, (.ref 87), .none, 0⟩), #[]⟩) ::
 (nat_lit 89, ⟨(.type "tuple"), none, (.seq #[] 0), #[]⟩) ::
 (nat_lit 91, ⟨(.type "tuple"), none, (.seq #[(.str "parts" 298), (.str "pairs" 299), (.str "weight" 300), (.str "part" 301), (.str "outcome" 302), (.str "share" 303)] 0), #[]⟩) ::
 (nat_lit 92, ⟨(.type "tuple"), none, (.seq #[] 0), #[]⟩) ::
 (nat_lit 94, ⟨(.type "code"), none, (.fields #[(.str "mixed" 295), (.str "mixed" 296), (.str "/claim/cut.py" 297), (.int 51 0), (.int 1 0), (.int 0 0), (.int 0 0), (.int 3 0), (.ref 89), (.bool true), (.int 181 0), (.ref 90), .none, (.ref 91), (.ref 92), (.ref 93), (.int 304 0), (.int 51 0), (.str "/claim/cut.py" 305)]), #[]⟩) ::
 (nat_lit 95, ⟨(.type "function"), none, (.func ⟨"mixed", "mixed", defArgs s_mixed, .stmts (defBody s_mixed), defScope s_mixed, 3, [], .none, .none, .none, (.str "flipwright.tables" 271), none, (.ref 94), .none, 0⟩), #[]⟩) ::
 (nat_lit 96, ⟨(.type "tuple"), none, (.seq #[] 0), #[]⟩) ::
 (nat_lit 99, ⟨(.type "code"), none, (.fields #[(.str "weights_of" 307), (.str "weights_of" 308), (.str "/claim/cut.py" 309), (.int 57 0), (.int 1 0), (.int 0 0), (.int 0 0), (.int 3 0), (.ref 96), (.bool true), (.int 181 0), (.ref 97), .none, .none, .none, (.ref 98), (.int 310 0), (.int 57 0), (.str "/claim/cut.py" 311)]), #[]⟩) ::
 (nat_lit 100, ⟨(.type "function"), none, (.func ⟨"weights_of", "weights_of", defArgs s_weights_of, .stmts (defBody s_weights_of), defScope s_weights_of, 3, [], .none, .none, .none, (.str "flipwright.tables" 271), none, (.ref 99), .none, 0⟩), #[]⟩) ::
 (nat_lit 101, ⟨(.type "tuple"), none, (.seq #[] 0), #[]⟩) ::
 (nat_lit 104, ⟨(.type "code"), none, (.fields #[(.str "draw_shares" 313), (.str "draw_shares" 314), (.str "/claim/cut.py" 315), (.int 59 0), (.int 1 0), (.int 0 0), (.int 0 0), (.int 3 0), (.ref 101), (.bool true), (.int 181 0), (.ref 102), .none, .none, .none, (.ref 103), (.int 316 0), (.int 59 0), (.str "/claim/cut.py" 317)]), #[]⟩) ::
 (nat_lit 105, ⟨(.type "function"), none, (.func ⟨"draw_shares", "draw_shares", defArgs s_draw_shares, .stmts (defBody s_draw_shares), defScope s_draw_shares, 3, [], .none, .none, .none, (.str "flipwright.tables" 271), none, (.ref 104), .none, 0⟩), #[]⟩) ::
 (nat_lit 106, ⟨(.type "tuple"), none, (.seq #[] 0), #[]⟩) ::
 (nat_lit 108, ⟨(.type "tuple"), none, (.seq #[(.str "draw" 324), (.str "tables" 325)] 0), #[]⟩) ::
 (nat_lit 109, ⟨(.type "tuple"), none, (.seq #[] 0), #[]⟩) ::
 (nat_lit 111, ⟨(.type "code"), none, (.fields #[(.str "weighed_question" 321), (.str "weighed_question" 322), (.str "/claim/cut.py" 323), (.int 63 0), (.int 2 0), (.int 0 0), (.int 0 0), (.int 3 0), (.ref 106), (.bool true), (.int 181 0), (.ref 107), .none, (.ref 108), (.ref 109), (.ref 110), (.int 326 0), (.int 63 0), (.str "/claim/cut.py" 327)]), #[]⟩) ::
 (nat_lit 112, ⟨(.type "function"), none, (.func ⟨"weighed_question", "weighed_question", defArgs s_weighed_question, .stmts (defBody s_weighed_question), defScope s_weighed_question, 3, [], .none, .none, .none, (.str "flipwright.weighing" 319), none, (.ref 111), .none, 0⟩), #[]⟩) ::
 (nat_lit 113, ⟨(.type "tuple"), none, (.seq #[] 0), #[]⟩) ::
 (nat_lit 116, ⟨(.type "code"), none, (.fields #[(.str "weighed" 329), (.str "weighed" 330), (.str "/claim/cut.py" 331), (.int 65 0), (.int 2 0), (.int 0 0), (.int 0 0), (.int 3 0), (.ref 113), (.bool true), (.int 181 0), (.ref 114), .none, .none, .none, (.ref 115), (.int 332 0), (.int 65 0), (.str "/claim/cut.py" 333)]), #[]⟩) ::
 (nat_lit 117, ⟨(.type "function"), none, (.func ⟨"weighed", "weighed", defArgs s_weighed, .stmts (defBody s_weighed), defScope s_weighed, 3, [], .none, .none, .none, (.str "flipwright.weighing" 319), none, (.ref 116), .none, 0⟩), #[]⟩) ::
 (nat_lit 118, ⟨(.type "tuple"), none, (.seq #[] 0), #[]⟩) ::
 (nat_lit 120, ⟨(.type "tuple"), none, (.seq #[(.str "_law_script" 340), (.str "_law_k" 341)] 0), #[]⟩) ::
 (nat_lit 121, ⟨(.type "tuple"), none, (.seq #[] 0), #[]⟩) ::
 (nat_lit 123, ⟨(.type "code"), none, (.fields #[(.str "_law_cell_at" 337), (.str "_law_cell_at" 338), (.str "/claim/cut.py" 339), (.int 74 0), (.int 2 0), (.int 0 0), (.int 0 0), (.int 3 0), (.ref 118), (.bool true), (.int 181 0), (.ref 119), .none, (.ref 120), (.ref 121), (.ref 122), (.int 342 0), (.int 74 0), (.str "/claim/cut.py" 343)]), #[]⟩) ::
 (nat_lit 124, ⟨(.type "function"), none, (.func ⟨"_law_cell_at", "_law_cell_at", defArgs s_law_cell_at, .stmts (defBody s_law_cell_at), defScope s_law_cell_at, 3, [], .none, .none, .none, (.str "law_flipwright_k40_weighed_by_rows" 335), none, (.ref 123), .none, 0⟩), #[]⟩) ::
 (nat_lit 125, ⟨(.type "tuple"), none, (.seq #[] 0), #[]⟩) ::
 (nat_lit 127, ⟨(.type "tuple"), none, (.seq #[(.str "_law_found" 348)] 0), #[]⟩) ::
 (nat_lit 128, ⟨(.type "tuple"), none, (.seq #[] 0), #[]⟩) ::
 (nat_lit 130, ⟨(.type "code"), none, (.fields #[(.str "_law_whole" 345), (.str "_law_whole" 346), (.str "/claim/cut.py" 347), (.int 78 0), (.int 1 0), (.int 0 0), (.int 0 0), (.int 3 0), (.ref 125), (.bool true), (.int 181 0), (.ref 126), .none, (.ref 127), (.ref 128), (.ref 129), (.int 349 0), (.int 78 0), (.str "/claim/cut.py" 350)]), #[]⟩) ::
 (nat_lit 131, ⟨(.type "function"), none, (.func ⟨"_law_whole", "_law_whole", defArgs s_law_whole, .stmts (defBody s_law_whole), defScope s_law_whole, 3, [], .none, .none, .none, (.str "law_flipwright_k40_weighed_by_rows" 335), none, (.ref 130), .none, 0⟩), #[]⟩) ::
 (nat_lit 132, ⟨(.type "tuple"), none, (.seq #[] 0), #[]⟩) ::
 (nat_lit 134, ⟨(.type "tuple"), none, (.seq #[(.str "_law_cell" 355), (.str "_law_k" 356), (.str "_law_figure" 357)] 0), #[]⟩) ::
 (nat_lit 135, ⟨(.type "tuple"), none, (.seq #[] 0), #[]⟩) ::
 (nat_lit 137, ⟨(.type "code"), none, (.fields #[(.str "_law_mix" 352), (.str "_law_mix" 353), (.str "/claim/cut.py" 354), (.int 80 0), (.int 2 0), (.int 0 0), (.int 0 0), (.int 3 0), (.ref 132), (.bool true), (.int 181 0), (.ref 133), .none, (.ref 134), (.ref 135), (.ref 136), (.int 358 0), (.int 80 0), (.str "/claim/cut.py" 359)]), #[]⟩) ::
 (nat_lit 138, ⟨(.type "function"), none, (.func ⟨"_law_mix", "_law_mix", defArgs s_law_mix, .stmts (defBody s_law_mix), defScope s_law_mix, 3, [], .none, .none, .none, (.str "law_flipwright_k40_weighed_by_rows" 335), none, (.ref 137), .none, 0⟩), #[]⟩) ::
 (nat_lit 139, ⟨(.type "tuple"), none, (.seq #[] 0), #[]⟩) ::
 (nat_lit 141, ⟨(.type "tuple"), none, (.seq #[(.str "_law_found" 364), (.str "_law_due_here" 365), (.str "_law_k" 366)] 0), #[]⟩) ::
 (nat_lit 142, ⟨(.type "tuple"), none, (.seq #[] 0), #[]⟩) ::
 (nat_lit 144, ⟨(.type "code"), none, (.fields #[(.str "_law_same" 361), (.str "_law_same" 362), (.str "/claim/cut.py" 363), (.int 83 0), (.int 2 0), (.int 0 0), (.int 0 0), (.int 3 0), (.ref 139), (.bool true), (.int 181 0), (.ref 140), .none, (.ref 141), (.ref 142), (.ref 143), (.int 367 0), (.int 83 0), (.str "/claim/cut.py" 368)]), #[]⟩) ::
 (nat_lit 145, ⟨(.type "function"), none, (.func ⟨"_law_same", "_law_same", defArgs s_law_same, .stmts (defBody s_law_same), defScope s_law_same, 3, [], .none, .none, .none, (.str "law_flipwright_k40_weighed_by_rows" 335), none, (.ref 144), .none, 0⟩), #[]⟩) ::
 (nat_lit 146, ⟨(.type "tuple"), none, (.seq #[] 0), #[]⟩) ::
 (nat_lit 148, ⟨(.type "tuple"), none, (.seq #[(.str "_law_figure" 373), (.str "_law_letters" 374), (.str "_law_word_here" 375), (.str "_law_k" 376)] 0), #[]⟩) ::
 (nat_lit 149, ⟨(.type "tuple"), none, (.seq #[] 0), #[]⟩) ::
 (nat_lit 151, ⟨(.type "code"), none, (.fields #[(.str "_law_word" 370), (.str "_law_word" 371), (.str "/claim/cut.py" 372), (.int 98 0), (.int 1 0), (.int 0 0), (.int 0 0), (.int 3 0), (.ref 146), (.bool true), (.int 181 0), (.ref 147), .none, (.ref 148), (.ref 149), (.ref 150), (.int 377 0), (.int 98 0), (.str "/claim/cut.py" 378)]), #[]⟩) ::
 (nat_lit 152, ⟨(.type "function"), none, (.func ⟨"_law_word", "_law_word", defArgs s_law_word, .stmts (defBody s_law_word), defScope s_law_word, 3, [], .none, .none, .none, (.str "law_flipwright_k40_weighed_by_rows" 335), none, (.ref 151), .none, 0⟩), #[]⟩) ::
 (nat_lit 153, ⟨(.type "tuple"), none, (.seq #[] 0), #[]⟩) ::
 (nat_lit 155, ⟨(.type "tuple"), none, (.seq #[(.str "_law_cell" 383), (.str "_law_fields" 384), (.str "_law_k" 385)] 0), #[]⟩) ::
 (nat_lit 156, ⟨(.type "tuple"), none, (.seq #[] 0), #[]⟩) ::
 (nat_lit 158, ⟨(.type "code"), none, (.fields #[(.str "_law_outcome" 380), (.str "_law_outcome" 381), (.str "/claim/cut.py" 382), (.int 104 0), (.int 1 0), (.int 0 0), (.int 0 0), (.int 3 0), (.ref 153), (.bool true), (.int 181 0), (.ref 154), .none, (.ref 155), (.ref 156), (.ref 157), (.int 386 0), (.int 104 0), (.str "/claim/cut.py" 387)]), #[]⟩) ::
 (nat_lit 159, ⟨(.type "function"), none, (.func ⟨"_law_outcome", "_law_outcome", defArgs s_law_outcome, .stmts (defBody s_law_outcome), defScope s_law_outcome, 3, [], .none, .none, .none, (.str "law_flipwright_k40_weighed_by_rows" 335), none, (.ref 158), .none, 0⟩), #[]⟩) ::
 (nat_lit 160, ⟨(.type "tuple"), none, (.seq #[] 0), #[]⟩) ::
 (nat_lit 162, ⟨(.type "tuple"), none, (.seq #[(.str "_law_one" 392), (.str "_law_other" 393)] 0), #[]⟩) ::
 (nat_lit 163, ⟨(.type "tuple"), none, (.seq #[] 0), #[]⟩) ::
 (nat_lit 165, ⟨(.type "code"), none, (.fields #[(.str "_law_divisor" 389), (.str "_law_divisor" 390), (.str "/claim/cut.py" 391), (.int 117 0), (.int 2 0), (.int 0 0), (.int 0 0), (.int 3 0), (.ref 160), (.bool true), (.int 181 0), (.ref 161), .none, (.ref 162), (.ref 163), (.ref 164), (.int 394 0), (.int 117 0), (.str "/claim/cut.py" 395)]), #[]⟩) ::
 (nat_lit 166, ⟨(.type "function"), none, (.func ⟨"_law_divisor", "_law_divisor", defArgs s_law_divisor, .stmts (defBody s_law_divisor), defScope s_law_divisor, 3, [], .none, .none, .none, (.str "law_flipwright_k40_weighed_by_rows" 335), none, (.ref 165), .none, 0⟩), #[]⟩) ::
 (nat_lit 167, ⟨(.type "tuple"), none, (.seq #[] 0), #[]⟩) ::
 (nat_lit 169, ⟨(.type "tuple"), none, (.seq #[(.str "_law_found" 400)] 0), #[]⟩) ::
 (nat_lit 170, ⟨(.type "tuple"), none, (.seq #[] 0), #[]⟩) ::
 (nat_lit 172, ⟨(.type "code"), none, (.fields #[(.str "_law_is_share" 397), (.str "_law_is_share" 398), (.str "/claim/cut.py" 399), (.int 121 0), (.int 1 0), (.int 0 0), (.int 0 0), (.int 3 0), (.ref 167), (.bool true), (.int 181 0), (.ref 168), .none, (.ref 169), (.ref 170), (.ref 171), (.int 401 0), (.int 121 0), (.str "/claim/cut.py" 402)]), #[]⟩) ::
 (nat_lit 173, ⟨(.type "function"), none, (.func ⟨"_law_is_share", "_law_is_share", defArgs s_law_is_share, .stmts (defBody s_law_is_share), defScope s_law_is_share, 3, [], .none, .none, .none, (.str "law_flipwright_k40_weighed_by_rows" 335), none, (.ref 172), .none, 0⟩), #[]⟩) ::
 (nat_lit 174, ⟨(.type "tuple"), none, (.seq #[] 0), #[]⟩) ::
 (nat_lit 176, ⟨(.type "tuple"), none, (.seq #[(.str "_law_outcome_here" 407)] 0), #[]⟩) ::
 (nat_lit 177, ⟨(.type "tuple"), none, (.seq #[] 0), #[]⟩) ::
 (nat_lit 179, ⟨(.type "code"), none, (.fields #[(.str "_law_rank" 404), (.str "_law_rank" 405), (.str "/claim/cut.py" 406), (.int 125 0), (.int 1 0), (.int 0 0), (.int 0 0), (.int 3 0), (.ref 174), (.bool true), (.int 181 0), (.ref 175), .none, (.ref 176), (.ref 177), (.ref 178), (.int 408 0), (.int 125 0), (.str "/claim/cut.py" 409)]), #[]⟩) ::
 (nat_lit 180, ⟨(.type "function"), none, (.func ⟨"_law_rank", "_law_rank", defArgs s_law_rank, .stmts (defBody s_law_rank), defScope s_law_rank, 3, [], .none, .none, .none, (.str "law_flipwright_k40_weighed_by_rows" 335), none, (.ref 179), .none, 0⟩), #[]⟩) ::
 (nat_lit 181, ⟨(.type "tuple"), none, (.seq #[] 0), #[]⟩) ::
 (nat_lit 183, ⟨(.type "tuple"), none, (.seq #[(.str "_law_script" 414), (.str "_law_cell" 415), (.str "_law_some" 416)] 0), #[]⟩) ::
 (nat_lit 184, ⟨(.type "tuple"), none, (.seq #[] 0), #[]⟩) ::
 (nat_lit 186, ⟨(.type "code"), none, (.fields #[(.str "_law_widths" 411), (.str "_law_widths" 412), (.str "/claim/cut.py" 413), (.int 131 0), (.int 1 0), (.int 0 0), (.int 0 0), (.int 3 0), (.ref 181), (.bool true), (.int 181 0), (.ref 182), .none, (.ref 183), (.ref 184), (.ref 185), (.int 417 0), (.int 131 0), (.str "/claim/cut.py" 418)]), #[]⟩) ::
 (nat_lit 187, ⟨(.type "function"), none, (.func ⟨"_law_widths", "_law_widths", defArgs s_law_widths, .stmts (defBody s_law_widths), defScope s_law_widths, 3, [], .none, .none, .none, (.str "law_flipwright_k40_weighed_by_rows" 335), none, (.ref 186), .none, 0⟩), #[]⟩) ::
 (nat_lit 188, ⟨(.type "tuple"), none, (.seq #[] 0), #[]⟩) ::
 (nat_lit 190, ⟨(.type "tuple"), none, (.seq #[(.str "_law_script" 423), (.str "_law_widths_here" 424), (.str "_law_draws_here" 425), (.str "_law_turn" 426), (.str "_law_cell" 427), (.str "_law_draw" 428), (.str "_law_k" 429), (.str "_law_figure" 430)] 0), #[]⟩) ::
 (nat_lit 191, ⟨(.type "tuple"), none, (.seq #[] 0), #[]⟩) ::
 (nat_lit 193, ⟨(.type "code"), none, (.fields #[(.str "_law_draws" 420), (.str "_law_draws" 421), (.str "/claim/cut.py" 422), (.int 135 0), (.int 2 0), (.int 0 0), (.int 0 0), (.int 3 0), (.ref 188), (.bool true), (.int 181 0), (.ref 189), .none, (.ref 190), (.ref 191), (.ref 192), (.int 431 0), (.int 135 0), (.str "/claim/cut.py" 432)]), #[]⟩) ::
 (nat_lit 194, ⟨(.type "function"), none, (.func ⟨"_law_draws", "_law_draws", defArgs s_law_draws, .stmts (defBody s_law_draws), defScope s_law_draws, 3, [], .none, .none, .none, (.str "law_flipwright_k40_weighed_by_rows" 335), none, (.ref 193), .none, 0⟩), #[]⟩) ::
 (nat_lit 195, ⟨(.type "tuple"), none, (.seq #[] 0), #[]⟩) ::
 (nat_lit 197, ⟨(.type "tuple"), none, (.seq #[(.str "_law_entry" 437)] 0), #[]⟩) ::
 (nat_lit 198, ⟨(.type "tuple"), none, (.seq #[] 0), #[]⟩) ::
 (nat_lit 200, ⟨(.type "code"), none, (.fields #[(.str "_law_site" 434), (.str "_law_site" 435), (.str "/claim/cut.py" 436), (.int 145 0), (.int 1 0), (.int 0 0), (.int 0 0), (.int 3 0), (.ref 195), (.bool true), (.int 181 0), (.ref 196), .none, (.ref 197), (.ref 198), (.ref 199), (.int 438 0), (.int 145 0), (.str "/claim/cut.py" 439)]), #[]⟩) ::
 (nat_lit 201, ⟨(.type "function"), none, (.func ⟨"_law_site", "_law_site", defArgs s_law_site, .stmts (defBody s_law_site), defScope s_law_site, 3, [], .none, .none, .none, (.str "law_flipwright_k40_weighed_by_rows" 335), none, (.ref 200), .none, 0⟩), #[]⟩) ::
 (nat_lit 202, ⟨(.type "tuple"), none, (.seq #[] 0), #[]⟩) ::
 (nat_lit 205, ⟨(.type "code"), none, (.fields #[(.str "_law_lists" 441), (.str "_law_lists" 442), (.str "/claim/cut.py" 443), (.int 149 0), (.int 2 0), (.int 0 0), (.int 0 0), (.int 3 0), (.ref 202), (.bool true), (.int 181 0), (.ref 203), .none, .none, .none, (.ref 204), (.int 444 0), (.int 149 0), (.str "/claim/cut.py" 445)]), #[]⟩) ::
 (nat_lit 206, ⟨(.type "function"), none, (.func ⟨"_law_lists", "_law_lists", defArgs s_law_lists, .stmts (defBody s_law_lists), defScope s_law_lists, 3, [], .none, .none, .none, (.str "law_flipwright_k40_weighed_by_rows" 335), none, (.ref 205), .none, 0⟩), #[]⟩) ::
 (nat_lit 207, ⟨(.type "tuple"), none, (.seq #[] 0), #[]⟩) ::
 (nat_lit 210, ⟨(.type "code"), none, (.fields #[(.str "_law_copy" 447), (.str "_law_copy" 448), (.str "/claim/cut.py" 449), (.int 161 0), (.int 1 0), (.int 0 0), (.int 0 0), (.int 3 0), (.ref 207), (.bool true), (.int 181 0), (.ref 208), .none, .none, .none, (.ref 209), (.int 450 0), (.int 161 0), (.str "/claim/cut.py" 451)]), #[]⟩) ::
 (nat_lit 211, ⟨(.type "function"), none, (.func ⟨"_law_copy", "_law_copy", defArgs s_law_copy, .stmts (defBody s_law_copy), defScope s_law_copy, 3, [], .none, .none, .none, (.str "law_flipwright_k40_weighed_by_rows" 335), none, (.ref 210), .none, 0⟩), #[]⟩) ::
 (nat_lit 212, ⟨(.type "tuple"), none, (.seq #[] 0), #[]⟩) ::
 (nat_lit 214, ⟨(.type "tuple"), none, (.seq #[(.str "_law_parts" 456), (.str "_law_place" 457), (.str "_law_row" 458), (.str "_law_entry" 459)] 0), #[]⟩) ::
 (nat_lit 215, ⟨(.type "tuple"), none, (.seq #[] 0), #[]⟩) ::
 (nat_lit 217, ⟨(.type "code"), none, (.fields #[(.str "_law_lead" 453), (.str "_law_lead" 454), (.str "/claim/cut.py" 455), (.int 163 0), (.int 3 0), (.int 0 0), (.int 0 0), (.int 3 0), (.ref 212), (.bool true), (.int 181 0), (.ref 213), .none, (.ref 214), (.ref 215), (.ref 216), (.int 460 0), (.int 163 0), (.str "/claim/cut.py" 461)]), #[]⟩) ::
 (nat_lit 218, ⟨(.type "function"), none, (.func ⟨"_law_lead", "_law_lead", defArgs s_law_lead, .stmts (defBody s_law_lead), defScope s_law_lead, 3, [], .none, .none, .none, (.str "law_flipwright_k40_weighed_by_rows" 335), none, (.ref 217), .none, 0⟩), #[]⟩) ::
 (nat_lit 219, ⟨(.type "tuple"), none, (.seq #[] 0), #[]⟩) ::
 (nat_lit 221, ⟨(.type "tuple"), none, (.seq #[(.str "_law_widths_here" 466), (.str "_law_rows_here" 467), (.str "_law_many" 468), (.str "_law_longer" 469), (.str "_law_row" 470), (.str "_law_turn" 471)] 0), #[]⟩) ::
 (nat_lit 222, ⟨(.type "tuple"), none, (.seq #[] 0), #[]⟩) ::
 (nat_lit 224, ⟨(.type "code"), none, (.fields #[(.str "_law_rows" 463), (.str "_law_rows" 464), (.str "/claim/cut.py" 465), (.int 168 0), (.int 1 0), (.int 0 0), (.int 0 0), (.int 3 0), (.ref 219), (.bool true), (.int 181 0), (.ref 220), .none, (.ref 221), (.ref 222), (.ref 223), (.int 472 0), (.int 168 0), (.str "/claim/cut.py" 473)]), #[]⟩) ::
 (nat_lit 225, ⟨(.type "function"), none, (.func ⟨"_law_rows", "_law_rows", defArgs s_law_rows, .stmts (defBody s_law_rows), defScope s_law_rows, 3, [], .none, .none, .none, (.str "law_flipwright_k40_weighed_by_rows" 335), none, (.ref 224), .none, 0⟩), #[]⟩) ::
 (nat_lit 226, ⟨(.type "tuple"), none, (.seq #[] 0), #[]⟩) ::
 (nat_lit 228, ⟨(.type "tuple"), none, (.seq #[(.str "_law_rows_here" 478), (.str "_law_draws_here" 479), (.str "_law_found" 480), (.str "_law_row" 481), (.str "_law_weight" 482), (.str "_law_k" 483)] 0), #[]⟩) ::
 (nat_lit 229, ⟨(.type "tuple"), none, (.seq #[] 0), #[]⟩) ::
 (nat_lit 231, ⟨(.type "code"), none, (.fields #[(.str "_law_weights" 475), (.str "_law_weights" 476), (.str "/claim/cut.py" 477), (.int 177 0), (.int 2 0), (.int 0 0), (.int 0 0), (.int 3 0), (.ref 226), (.bool true), (.int 181 0), (.ref 227), .none, (.ref 228), (.ref 229), (.ref 230), (.int 484 0), (.int 177 0), (.str "/claim/cut.py" 485)]), #[]⟩) ::
 (nat_lit 232, ⟨(.type "function"), none, (.func ⟨"_law_weights", "_law_weights", defArgs s_law_weights, .stmts (defBody s_law_weights), defScope s_law_weights, 3, [], .none, .none, .none, (.str "law_flipwright_k40_weighed_by_rows" 335), none, (.ref 231), .none, 0⟩), #[]⟩) ::
 (nat_lit 233, ⟨(.type "tuple"), none, (.seq #[] 0), #[]⟩) ::
 (nat_lit 235, ⟨(.type "tuple"), none, (.seq #[(.str "_law_parts" 490), (.str "_law_place" 491), (.str "_law_rows_here" 492), (.str "_law_weights_here" 493), (.str "_law_found" 494), (.str "_law_k" 495), (.str "_law_outcome_here" 496)] 0), #[]⟩) ::
 (nat_lit 236, ⟨(.type "tuple"), none, (.seq #[] 0), #[]⟩) ::
 (nat_lit 238, ⟨(.type "code"), none, (.fields #[(.str "_law_due" 487), (.str "_law_due" 488), (.str "/claim/cut.py" 489), (.int 185 0), (.int 4 0), (.int 0 0), (.int 0 0), (.int 3 0), (.ref 233), (.bool true), (.int 181 0), (.ref 234), .none, (.ref 235), (.ref 236), (.ref 237), (.int 497 0), (.int 185 0), (.str "/claim/cut.py" 498)]), #[]⟩) ::
 (nat_lit 239, ⟨(.type "function"), none, (.func ⟨"_law_due", "_law_due", defArgs s_law_due, .stmts (defBody s_law_due), defScope s_law_due, 3, [], .none, .none, .none, (.str "law_flipwright_k40_weighed_by_rows" 335), none, (.ref 238), .none, 0⟩), #[]⟩) ::
 (nat_lit 240, ⟨(.type "tuple"), none, (.seq #[] 0), #[]⟩) ::
 (nat_lit 242, ⟨(.type "tuple"), none, (.seq #[(.str "_law_found" 503), (.str "_law_due_here" 504), (.str "_law_whole_here" 505), (.str "_law_outcomes" 506), (.str "_law_k" 507), (.str "_law_pair" 508)] 0), #[]⟩) ::
 (nat_lit 243, ⟨(.type "tuple"), none, (.seq #[] 0), #[]⟩) ::
 (nat_lit 245, ⟨(.type "code"), none, (.fields #[(.str "_law_good" 500), (.str "_law_good" 501), (.str "/claim/cut.py" 502), (.int 191 0), (.int 3 0), (.int 0 0), (.int 0 0), (.int 3 0), (.ref 240), (.bool true), (.int 181 0), (.ref 241), .none, (.ref 242), (.ref 243), (.ref 244), (.int 509 0), (.int 191 0), (.str "/claim/cut.py" 510)]), #[]⟩) ::
 (nat_lit 246, ⟨(.type "function"), none, (.func ⟨"_law_good", "_law_good", defArgs s_law_good, .stmts (defBody s_law_good), defScope s_law_good, 3, [], .none, .none, .none, (.str "law_flipwright_k40_weighed_by_rows" 335), none, (.ref 245), .none, 0⟩), #[]⟩) ::
 (nat_lit 247, ⟨(.type "tuple"), none, (.seq #[] 0), #[]⟩) ::
 (nat_lit 250, ⟨(.type "code"), none, (.fields #[(.str "law" 512), (.str "law" 513), (.str "/claim/cut.py" 514), (.int 202 0), (.int 1 0), (.int 0 0), (.int 0 0), (.int 3 0), (.ref 247), (.bool true), (.int 181 0), (.ref 248), .none, .none, .none, (.ref 249), (.int 515 0), (.int 202 0), (.str "/claim/cut.py" 516)]), #[]⟩) ::
 (nat_lit 251, ⟨(.type "function"), none, (.func ⟨"law", "law", defArgs s_law, .stmts (defBody s_law), defScope s_law, 3, [], .none, .none, .none, (.str "law_flipwright_k40_weighed_by_rows" 335), none, (.ref 250), .none, 0⟩), #[]⟩) :: []
def KA : List Addr := [2, 3, 15, 22, 23, 24, 25, 28, 35, 36, 37, 40, 41, 42, 44, 45, 47, 48, 49, 51, 52, 54, 55, 56, 58, 59, 61, 62, 63, 65, 66, 68, 69, 70, 72, 73, 75, 76, 77, 79, 80, 82, 83, 84, 87, 88, 89, 91, 92, 94, 95, 96, 99, 100, 101, 104, 105, 106, 108, 109, 111, 112, 113, 116, 117, 118, 120, 121, 123, 124, 125, 127, 128, 130, 131, 132, 134, 135, 137, 138, 139, 141, 142, 144, 145, 146, 148, 149, 151, 152, 153, 155, 156, 158, 159, 160, 162, 163, 165, 166, 167, 169, 170, 172, 173, 174, 176, 177, 179, 180, 181, 183, 184, 186, 187, 188, 190, 191, 193, 194, 195, 197, 198, 200, 201, 202, 205, 206, 207, 210, 211, 212, 214, 215, 217, 218, 219, 221, 222, 224, 225, 226, 228, 229, 231, 232, 233, 235, 236, 238, 239, 240, 242, 243, 245, 246, 247, 250, 251]
theorem KAs (P : Params) : KA = List.map (fun x => x.fst) (KF P) := by kernel_rfl
noncomputable def vw : Program := { PySem.Challenge.rw_flipwright_k40_weighed_by_rows.row.toRowW.1 with main := { PySem.Challenge.rw_flipwright_k40_weighed_by_rows.row.toRowW.1.main with body := ((PySem.Challenge.rw_flipwright_k40_weighed_by_rows.row.toRowW.1.main.body.drop 1).take 2 ++ ((PySem.Challenge.rw_flipwright_k40_weighed_by_rows.row.toRowW.1.main.body.drop 4).take 6 ++ ((PySem.Challenge.rw_flipwright_k40_weighed_by_rows.row.toRowW.1.main.body.drop 11).take 6 ++ ((PySem.Challenge.rw_flipwright_k40_weighed_by_rows.row.toRowW.1.main.body.drop 18).take 2 ++ (PySem.Challenge.rw_flipwright_k40_weighed_by_rows.row.toRowW.1.main.body.drop 21))))) } }
end K40
namespace K40
open PySem L2 FW PyProof.Rows
theorem all_mk {l : PySem.W.OpenLaw} {w : World} {K : PySem.W.Frag} {mg : Str → Option Value} {fa   : Addr} {f0 f1 f2 f3 f4 f5 f6 f7 f8 f9 f10 f11 f12 f13 f14 f15 f16 f17 f18 f19 f20 f21 f22 f23 f24 f25 f26 f27 f28 f29 f30 f31 : Addr} {d0 d1 d2 d3 d4 d5 d6 d7 d8 d9 d10 d11 d12 d13 d14 d15 d16 d17 d18 d19 d20 d21 d22 d23 d24 d25 d26 d27 d28 d29 d30 d31 : FuncData} {cN cW : Addr} (hfa : mg "law" = some (.ref fa))
    (A0 : FnAt K mg "law" s_law ["_law_script"] f0 d0)
    (A1 : FnAt K mg "greatest_divisor" s_greatest_divisor ["one", "other"] f1 d1)
    (A2 : FnAt K mg "fraction" s_fraction ["top", "bottom"] f2 d2)
    (A3 : FnAt K mg "plus" s_plus ["one", "other"] f3 d3)
    (A4 : FnAt K mg "times" s_times ["one", "other"] f4 d4)
    (A5 : FnAt K mg "rank" s_rank ["outcome"] f5 d5)
    (A6 : FnAt K mg "in_order" s_in_order ["outcomes"] f6 d6)
    (A7 : FnAt K mg "gathered" s_gathered ["pairs"] f7 d7)
    (A8 : FnAt K mg "mixed" s_mixed ["parts"] f8 d8)
    (A9 : FnAt K mg "weights_of" s_weights_of ["draw"] f9 d9)
    (A10 : FnAt K mg "draw_shares" s_draw_shares ["draw"] f10 d10)
    (A11 : FnAt K mg "weighed_question" s_weighed_question ["draw", "tables"] f11 d11)
    (A12 : FnAt K mg "weighed" s_weighed ["parts", "draws"] f12 d12)
    (A13 : FnAt K mg "_law_cell_at" s_law_cell_at ["_law_script", "_law_k"] f13 d13)
    (A14 : FnAt K mg "_law_whole" s_law_whole ["_law_found"] f14 d14)
    (A15 : FnAt K mg "_law_mix" s_law_mix ["_law_cell", "_law_k"] f15 d15)
    (A16 : FnAt K mg "_law_same" s_law_same ["_law_found", "_law_due_here"] f16 d16)
    (A17 : FnAt K mg "_law_word" s_law_word ["_law_figure"] f17 d17)
    (A18 : FnAt K mg "_law_outcome" s_law_outcome ["_law_cell"] f18 d18)
    (A19 : FnAt K mg "_law_divisor" s_law_divisor ["_law_one", "_law_other"] f19 d19)
    (A20 : FnAt K mg "_law_is_share" s_law_is_share ["_law_found"] f20 d20)
    (A21 : FnAt K mg "_law_rank" s_law_rank ["_law_outcome_here"] f21 d21)
    (A22 : FnAt K mg "_law_widths" s_law_widths ["_law_script"] f22 d22)
    (A23 : FnAt K mg "_law_draws" s_law_draws ["_law_script", "_law_widths_here"] f23 d23)
    (A24 : FnAt K mg "_law_site" s_law_site ["_law_entry"] f24 d24)
    (A25 : FnAt K mg "_law_lists" s_law_lists ["_law_script", "_law_widths_here"] f25 d25)
    (A26 : FnAt K mg "_law_copy" s_law_copy ["_law_parts"] f26 d26)
    (A27 : FnAt K mg "_law_lead" s_law_lead ["_law_parts", "_law_place", "_law_row"] f27 d27)
    (A28 : FnAt K mg "_law_rows" s_law_rows ["_law_widths_here"] f28 d28)
    (A29 : FnAt K mg "_law_weights" s_law_weights ["_law_rows_here", "_law_draws_here"] f29 d29)
    (A30 : FnAt K mg "_law_due" s_law_due ["_law_parts", "_law_place", "_law_rows_here", "_law_weights_here"] f30 d30)
    (A31 : FnAt K mg "_law_good" s_law_good ["_law_found", "_law_due_here", "_law_whole_here"] f31 d31)
    (Tl : Txt K mg cN)
    (Tw3 : Tw K mg cW)
    (hb : ∀ (s : Shared) (v : Value), BindsTo s d0 ⟨[v], []⟩ [("_law_script", v)]) :
    ∃ fd : FuncData, (∀ (s : Shared) (v : Value), BindsTo s fd ⟨[v], []⟩ [("_law_script", v)]) ∧ ∀ base : Heap, K.In base → base.Ns mainGlobals mg → FnOk l.prog w K mg base CX0 9 fa fd ["_law_script"] (sp_law K) := by
  have e := hfa.symm.trans A0.m
  cases e
  refine ⟨d0, hb, fun base _ _ => ?_⟩
  exact ok_law A0 A22 (ok_law_widths A22 A13 A15 Tl) A23 (ok_law_draws A23 A13 A15 Tl) A25 (ok_law_lists A25 A15 A24 A18 (ok_law_outcome A18 A17 A15 Tl) Tl) A28 (ok_law_rows A28 Tl) A29 (ok_law_weights A29 Tl) A26 (ok_law_copy A26 Tl) A12 (ok_weighed A12 A11 (ok_weighed_question A11 A10 A9 A2 A8 A4 A7 A3 A1 A6 A5 Tl) Tl Tw3) (ok_weighed0 A12 A11 (ok_weighed_question A11 A10 A9 A2 A8 A4 A7 A3 A1 A6 A5 Tl) Tl Tw3) A30 (ok_law_due A30 A27 Tl) A31 (ok_law_good A31 A21 A16 A20 A14 A19 Tl) A16 (ok_law_same A16 A14 Tl 5) Tl
theorem walk {l : PySem.W.OpenLaw} {q : Program} {loose : List Str} {XP : (Str → Option Value) → Heap → Prop} {YP : World → Heap → Prop} {d : DefRec} {K : Params → PySem.W.Frag} (hn : l.most = some 63) (hdf : d.params.defaults = [])
    (hY : ∀ (w : World) (h : Heap), YP w h → (K w.params).In h)
    (F : ∀ (w : World) (mg : Str → Option Value) (fa : Addr) (h : Heap), (K w.params).In h → h.Ns mainGlobals mg → mg d.name = some (.ref fa) →
      ∃ fd : FuncData, (∀ (s : Shared) (u : Value), BindsTo s fd ⟨[u], []⟩ [("_law_script", u)]) ∧ ∀ base : Heap, (K w.params).In base → base.Ns mainGlobals mg → FnOk l.prog w (K w.params) mg base CX0 9 fa fd ["_law_script"] (sp_law (K w.params))) :
    PySem.W.WalkO q loose XP YP l.row.toRowW d [] (fun f vs => PySem.call f vs) :=
  L2.walk_ofB (n := 63) (k := 9) (x := "_law_script") (CX := fun _ => CX0) (sp := fun w => sp_law (K w.params)) hn (by decide) hdf ⟨rfl, by decide, by decide⟩ hY F (fun _ _ a ns hl hb _ hS => ⟨a, ns, rfl, hS, hl, hb, fun _ => rfl⟩) fun _ _ _ _ _ z => z
end K40
open PySem PySem.W PyProof.Rows L2
set_option maxRecDepth 100000 in
set_option maxHeartbeats 0 in
theorem PySem.Challenge.cw_flipwright_k40_weighed_by_rows_holds : PySem.Challenge.rw_flipwright_k40_weighed_by_rows.Holds := by
  w_on; o_law
  refine holds_open (q := K40.vw) (loose := []) (Xt := fun s => xlAt K40.vw [] s && recOk (RowW.records (OpenRow.toRowW PySem.Challenge.rw_flipwright_k40_weighed_by_rows.row)) s) (XP := XL K40.vw []) (Yf := Hook.obs (kHook K40.KF K40.KA K40.KAs)) (Ya := Hook.val (kHook K40.KF K40.KA K40.KAs)) (YP := Hook.says (kHook K40.KF K40.KA K40.KAs)) (N := 3004) ?hl (Hook.of _) (Hook.keeps _) (fun s e => xl_of s (Bool.and_eq_true_iff.mp e).1) XL.keeps (by rfl) (by rfl) (by rfl) (fun s e => recFacts_of (Bool.and_eq_true_iff.mp e).2) (by rfl) (by first | assumption | decide +kernel) (by decide +kernel) ⟨rfl, rfl, rfl, rfl, rfl, by decide +kernel⟩ ?hw ?hc
  (case hw => w_witness2)
  (case hl => intro w; kernel_rfl)
  k_fill
  refine K40.walk (l := PySem.Challenge.rw_flipwright_k40_weighed_by_rows) rfl rfl (fun w h Y => PySem.W.kIn_of Y) ?F
  case F =>
    intro w mg fa h KX G hmg
    refine' K40.all_mk hmg (fnAt_mk KX G ?a0 ?l0 ?c0 ?k0 (fun _ _ _ _ _ _ us hl => match us, hl with | [_], _ => rfl))
      (fnAt_mk KX G ?a1 ?l1 ?c1 ?k1 (fun _ _ _ _ _ _ us hl => match us, hl with | [_, _], _ => rfl))
      (fnAt_mk KX G ?a2 ?l2 ?c2 ?k2 (fun _ _ _ _ _ _ us hl => match us, hl with | [_, _], _ => rfl))
      (fnAt_mk KX G ?a3 ?l3 ?c3 ?k3 (fun _ _ _ _ _ _ us hl => match us, hl with | [_, _], _ => rfl))
      (fnAt_mk KX G ?a4 ?l4 ?c4 ?k4 (fun _ _ _ _ _ _ us hl => match us, hl with | [_, _], _ => rfl))
      (fnAt_mk KX G ?a5 ?l5 ?c5 ?k5 (fun _ _ _ _ _ _ us hl => match us, hl with | [_], _ => rfl))
      (fnAt_mk KX G ?a6 ?l6 ?c6 ?k6 (fun _ _ _ _ _ _ us hl => match us, hl with | [_], _ => rfl))
      (fnAt_mk KX G ?a7 ?l7 ?c7 ?k7 (fun _ _ _ _ _ _ us hl => match us, hl with | [_], _ => rfl))
      (fnAt_mk KX G ?a8 ?l8 ?c8 ?k8 (fun _ _ _ _ _ _ us hl => match us, hl with | [_], _ => rfl))
      (fnAt_mk KX G ?a9 ?l9 ?c9 ?k9 (fun _ _ _ _ _ _ us hl => match us, hl with | [_], _ => rfl))
      (fnAt_mk KX G ?a10 ?l10 ?c10 ?k10 (fun _ _ _ _ _ _ us hl => match us, hl with | [_], _ => rfl))
      (fnAt_mk KX G ?a11 ?l11 ?c11 ?k11 (fun _ _ _ _ _ _ us hl => match us, hl with | [_, _], _ => rfl))
      (fnAt_mk KX G ?a12 ?l12 ?c12 ?k12 (fun _ _ _ _ _ _ us hl => match us, hl with | [_, _], _ => rfl))
      (fnAt_mk KX G ?a13 ?l13 ?c13 ?k13 (fun _ _ _ _ _ _ us hl => match us, hl with | [_, _], _ => rfl))
      (fnAt_mk KX G ?a14 ?l14 ?c14 ?k14 (fun _ _ _ _ _ _ us hl => match us, hl with | [_], _ => rfl))
      (fnAt_mk KX G ?a15 ?l15 ?c15 ?k15 (fun _ _ _ _ _ _ us hl => match us, hl with | [_, _], _ => rfl))
      (fnAt_mk KX G ?a16 ?l16 ?c16 ?k16 (fun _ _ _ _ _ _ us hl => match us, hl with | [_, _], _ => rfl))
      (fnAt_mk KX G ?a17 ?l17 ?c17 ?k17 (fun _ _ _ _ _ _ us hl => match us, hl with | [_], _ => rfl))
      (fnAt_mk KX G ?a18 ?l18 ?c18 ?k18 (fun _ _ _ _ _ _ us hl => match us, hl with | [_], _ => rfl))
      (fnAt_mk KX G ?a19 ?l19 ?c19 ?k19 (fun _ _ _ _ _ _ us hl => match us, hl with | [_, _], _ => rfl))
      (fnAt_mk KX G ?a20 ?l20 ?c20 ?k20 (fun _ _ _ _ _ _ us hl => match us, hl with | [_], _ => rfl))
      (fnAt_mk KX G ?a21 ?l21 ?c21 ?k21 (fun _ _ _ _ _ _ us hl => match us, hl with | [_], _ => rfl))
      (fnAt_mk KX G ?a22 ?l22 ?c22 ?k22 (fun _ _ _ _ _ _ us hl => match us, hl with | [_], _ => rfl))
      (fnAt_mk KX G ?a23 ?l23 ?c23 ?k23 (fun _ _ _ _ _ _ us hl => match us, hl with | [_, _], _ => rfl))
      (fnAt_mk KX G ?a24 ?l24 ?c24 ?k24 (fun _ _ _ _ _ _ us hl => match us, hl with | [_], _ => rfl))
      (fnAt_mk KX G ?a25 ?l25 ?c25 ?k25 (fun _ _ _ _ _ _ us hl => match us, hl with | [_, _], _ => rfl))
      (fnAt_mk KX G ?a26 ?l26 ?c26 ?k26 (fun _ _ _ _ _ _ us hl => match us, hl with | [_], _ => rfl))
      (fnAt_mk KX G ?a27 ?l27 ?c27 ?k27 (fun _ _ _ _ _ _ us hl => match us, hl with | [_, _, _], _ => rfl))
      (fnAt_mk KX G ?a28 ?l28 ?c28 ?k28 (fun _ _ _ _ _ _ us hl => match us, hl with | [_], _ => rfl))
      (fnAt_mk KX G ?a29 ?l29 ?c29 ?k29 (fun _ _ _ _ _ _ us hl => match us, hl with | [_, _], _ => rfl))
      (fnAt_mk KX G ?a30 ?l30 ?c30 ?k30 (fun _ _ _ _ _ _ us hl => match us, hl with | [_, _, _, _], _ => rfl))
      (fnAt_mk KX G ?a31 ?l31 ?c31 ?k31 (fun _ _ _ _ _ _ us hl => match us, hl with | [_, _, _], _ => rfl))
      ⟨PySem.W.mg_of KX G ?gN, K40.nought_mk ?lN ?sN, PySem.W.mg_none_of KX G ?zl0, PySem.W.mg_none_of KX G ?zl1, PySem.W.mg_none_of KX G ?zl2, PySem.W.mg_none_of KX G ?zl3, PySem.W.mg_none_of KX G ?zl4, PySem.W.mg_none_of KX G ?zl5, PySem.W.mg_none_of KX G ?zl6, PySem.W.mg_none_of KX G ?zl7, PySem.W.mg_none_of KX G ?zl8, PySem.W.mg_none_of KX G ?zl9, PySem.W.mg_none_of KX G ?zl10, PySem.W.mg_none_of KX G ?zl11, PySem.W.mg_none_of KX G ?zl12, PySem.W.mg_none_of KX G ?zl13⟩
      ⟨PySem.W.mg_of KX G ?gW, K40.whole_mk ?lW ?sW⟩
      ?hb
    (case a0 => k_is); (case l0 => k_is); (case c0 => k_is); (case k0 => k_is)
    (case a1 => k_is); (case l1 => k_is); (case c1 => k_is); (case k1 => k_is)
    (case a2 => k_is); (case l2 => k_is); (case c2 => k_is); (case k2 => k_is)
    (case a3 => k_is); (case l3 => k_is); (case c3 => k_is); (case k3 => k_is)
    (case a4 => k_is); (case l4 => k_is); (case c4 => k_is); (case k4 => k_is)
    (case a5 => k_is); (case l5 => k_is); (case c5 => k_is); (case k5 => k_is)
    (case a6 => k_is); (case l6 => k_is); (case c6 => k_is); (case k6 => k_is)
    (case a7 => k_is); (case l7 => k_is); (case c7 => k_is); (case k7 => k_is)
    (case a8 => k_is); (case l8 => k_is); (case c8 => k_is); (case k8 => k_is)
    (case a9 => k_is); (case l9 => k_is); (case c9 => k_is); (case k9 => k_is)
    (case a10 => k_is); (case l10 => k_is); (case c10 => k_is); (case k10 => k_is)
    (case a11 => k_is); (case l11 => k_is); (case c11 => k_is); (case k11 => k_is)
    (case a12 => k_is); (case l12 => k_is); (case c12 => k_is); (case k12 => k_is)
    (case a13 => k_is); (case l13 => k_is); (case c13 => k_is); (case k13 => k_is)
    (case a14 => k_is); (case l14 => k_is); (case c14 => k_is); (case k14 => k_is)
    (case a15 => k_is); (case l15 => k_is); (case c15 => k_is); (case k15 => k_is)
    (case a16 => k_is); (case l16 => k_is); (case c16 => k_is); (case k16 => k_is)
    (case a17 => k_is); (case l17 => k_is); (case c17 => k_is); (case k17 => k_is)
    (case a18 => k_is); (case l18 => k_is); (case c18 => k_is); (case k18 => k_is)
    (case a19 => k_is); (case l19 => k_is); (case c19 => k_is); (case k19 => k_is)
    (case a20 => k_is); (case l20 => k_is); (case c20 => k_is); (case k20 => k_is)
    (case a21 => k_is); (case l21 => k_is); (case c21 => k_is); (case k21 => k_is)
    (case a22 => k_is); (case l22 => k_is); (case c22 => k_is); (case k22 => k_is)
    (case a23 => k_is); (case l23 => k_is); (case c23 => k_is); (case k23 => k_is)
    (case a24 => k_is); (case l24 => k_is); (case c24 => k_is); (case k24 => k_is)
    (case a25 => k_is); (case l25 => k_is); (case c25 => k_is); (case k25 => k_is)
    (case a26 => k_is); (case l26 => k_is); (case c26 => k_is); (case k26 => k_is)
    (case a27 => k_is); (case l27 => k_is); (case c27 => k_is); (case k27 => k_is)
    (case a28 => k_is); (case l28 => k_is); (case c28 => k_is); (case k28 => k_is)
    (case a29 => k_is); (case l29 => k_is); (case c29 => k_is); (case k29 => k_is)
    (case a30 => k_is); (case l30 => k_is); (case c30 => k_is); (case k30 => k_is)
    (case a31 => k_is); (case l31 => k_is); (case c31 => k_is); (case k31 => k_is)
    (case gN => k_is)
    (case lN => k_is)
    (case gW => k_is)
    (case lW => k_is)
    (case sN => exact ⟨rfl, _, _, _, rfl⟩)
    (case zl0 => k_is)
    (case zl1 => k_is)
    (case zl2 => k_is)
    (case zl3 => k_is)
    (case zl4 => k_is)
    (case zl5 => k_is)
    (case zl6 => k_is)
    (case zl7 => k_is)
    (case zl8 => k_is)
    (case zl9 => k_is)
    (case zl10 => k_is)
    (case zl11 => k_is)
    (case zl12 => k_is)
    (case zl13 => k_is)
    (case sW => exact ⟨rfl, _, _, _, rfl⟩)
    (case hb => exact fun s u => .of_eq rfl)
