import PyProof.Rows.All
import Wide.All
import OpenK.AllK
import Wide.FinOn
import PyProof.EqAt
import PyProof.EqKinds
import PyProof.TupleCall
import Lean
import PySem.Challenge.RW_flipwright_k70_bases_and_numbers
set_option Elab.async false
set_option linter.all false
set_option maxRecDepth 100000
namespace L2
open PySem PySem.Spec PyProof.Rows
abbrev Key := Sum Int Str
def keyIs : Key → Value → Bool
  | .inl k, v => Value.isInt k v
  | .inr x, v => Value.isStrOf x v
def keyH (w : World) : Key → Int
  | .inl k => hashInt k
  | .inr x => hashStr w x
theorem keyIs_shape : ∀ {k : Key} {v : Value}, keyIs k v = true → (∃ i t, k = Sum.inl i ∧ v = Value.int i t) ∨ (∃ x t, k = Sum.inr x ∧ v = Value.str x t)
  | .inl i, v, h => by
    obtain ⟨t, e⟩ := Value.isInt_shape (k := i) (v := v) h
    exact .inl ⟨i, t, rfl, e⟩
  | .inr x, v, h => by
    obtain ⟨t, e⟩ := Value.isStrOf_shape (x := x) (v := v) h
    exact .inr ⟨x, t, rfl, e⟩
theorem keyIs_int (i : Int) (t : Tok) : keyIs (.inl i) (.int i t) = true := by simp [keyIs, Value.isInt]
theorem keyIs_str (x : Str) (t : Tok) : keyIs (.inr x) (.str x t) = true := by simp [keyIs, Value.isStrOf]
theorem key_ll (a b : Int) : decide ((Sum.inl a : Key) = Sum.inl b) = (a == b) := by
  by_cases e : a = b
  · subst e; simp
  · have h : ¬ (Sum.inl a : Key) = Sum.inl b := fun q => e (Sum.inl.inj q)
    rw [decide_eq_false h]
    exact (beq_eq_false_iff_ne.mpr e).symm
theorem key_rr (a b : Str) : decide ((Sum.inr a : Key) = Sum.inr b) = decide (a = b) := by
  by_cases e : a = b
  · subst e; simp
  · have h : ¬ (Sum.inr a : Key) = Sum.inr b := fun q => e (Sum.inr.inj q)
    rw [decide_eq_false h, decide_eq_false e]
theorem key_lr (a : Int) (b : Str) : decide ((Sum.inl a : Key) = Sum.inr b) = false := decide_eq_false (fun q => nomatch q)
theorem key_rl (a : Str) (b : Int) : decide ((Sum.inr a : Key) = Sum.inl b) = false := decide_eq_false (fun q => nomatch q)
def mixKind (prog : Program) (w : World) : PySem.KeyKind prog w Key where
  is := keyIs
  hash := keyH w
  inj := fun v a b ha hb => by
    rcases keyIs_shape ha with ⟨i, t, rfl, rfl⟩ | ⟨x, t, rfl, rfl⟩
    · rcases keyIs_shape hb with ⟨j, u, rfl, e⟩ | ⟨y, u, rfl, e⟩
      · injection e with e1 _; rw [e1]
      · exact nomatch e
    · rcases keyIs_shape hb with ⟨j, u, rfl, e⟩ | ⟨y, u, rfl, e⟩
      · exact nomatch e
      · injection e with e1 _; rw [e1]
  byValue := fun k v h => by
    rcases keyIs_shape h with ⟨i, t, rfl, rfl⟩ | ⟨x, t, rfl, rfl⟩ <;> rfl
  pyHash := fun hv h => by
    rcases keyIs_shape hv with ⟨i, t, rfl, rfl⟩ | ⟨x, t, rfl, rfl⟩
    · exact wpAny_pyHash_int h
    · exact wpAny_pyHash_str h
  eqBool := fun hu hv h => by
    rcases keyIs_shape hu with ⟨i, t, rfl, rfl⟩ | ⟨x, t, rfl, rfl⟩
    · rcases keyIs_shape hv with ⟨j, u, rfl, rfl⟩ | ⟨y, u, rfl, rfl⟩
      · rw [key_ll] at h; exact wpAny_eqBool_int h
      · rw [key_lr] at h; exact SeqAt.EqAt.int_str i t y u _ _ _ _ h
    · rcases keyIs_shape hv with ⟨j, u, rfl, rfl⟩ | ⟨y, u, rfl, rfl⟩
      · rw [key_rl] at h; exact SeqAt.EqAt.str_int x t j u _ _ _ _ h
      · rw [key_rr] at h; exact wpAny_eqBool_str h
  «strs» := fun k x t v h => by
    rcases keyIs_shape h with ⟨i, u, rfl, e⟩ | ⟨y, u, rfl, e⟩
    · exact nomatch e
    · injection e with e1 _
      subst e1
      cases v <;> rfl
theorem mixKind_int (prog : Program) (w : World) (i : Int) (t : Tok) : (mixKind prog w).is (.inl i) (.int i t) = true := keyIs_int i t
theorem mixKind_str (prog : Program) (w : World) (x : Str) (t : Tok) : (mixKind prog w).is (.inr x) (.str x t) = true := keyIs_str x t
end L2
namespace L2
open PySem PySem.Spec PyProof.Rows
inductive V where
  | non | bl (b : Bool) | int (i : Int) | str (x : Str) | byt (b : Array UInt8) | flt (b : UInt64) | ref (a : Addr) | ty (n : String)
  deriving DecidableEq
def RelV : V → Value → Prop
  | .non, u => u = Value.none
  | .bl b, u => u = Value.bool b
  | .int i, u => ∃ t, u = Value.int i t
  | .str x, u => ∃ t, u = Value.str x t
  | .byt b, u => ∃ t, u = Value.bytes b t
  | .flt b, u => ∃ t, u = Value.float b t
  | .ref a, u => u = Value.ref a
  | .ty n, u => u = Value.type n
abbrev Vals : List V → List Value → Prop := Paired RelV
theorem Vals.length {xs : List V} {us : List Value} (r : Vals xs us) : xs.length = us.length := Paired.length r
theorem Vals.get : ∀ {xs : List V} {us : List Value} {i : Nat} {x : V}, Vals xs us → xs[i]? = some x → ∃ u, us[i]? = some u ∧ RelV x u
  | _, _, _, _, .nil, e => by simp at e
  | _, _, 0, _, .cons r _, e => by simp at e; subst e; exact ⟨_, rfl, r⟩
  | _, _, i + 1, x, .cons _ t, e => by
    obtain ⟨u, h1, h2⟩ := Vals.get (i := i) (x := x) t (by simpa using e)
    exact ⟨u, by simpa using h1, h2⟩
theorem Vals.append : ∀ {xs ys : List V} {us ws : List Value}, Vals xs us → Vals ys ws → Vals (xs ++ ys) (us ++ ws)
  | _, _, _, _, .nil, s => s
  | _, _, _, _, .cons r t, s => .cons r (Vals.append t s)
theorem Vals.take : ∀ {xs : List V} {us : List Value} (n : Nat), Vals xs us → Vals (xs.take n) (us.take n)
  | _, _, 0, _ => .nil
  | _, _, _ + 1, .nil => .nil
  | _, _, n + 1, .cons r t => .cons r (Vals.take n t)
theorem Vals.drop : ∀ {xs : List V} {us : List Value} (n : Nat), Vals xs us → Vals (xs.drop n) (us.drop n)
  | _, _, 0, r => r
  | _, _, _ + 1, .nil => .nil
  | _, _, n + 1, .cons _ t => Vals.drop n t
def RelO : Option V → Option Value → Prop
  | some v, some u => RelV v u
  | none, none => True
  | _, _ => False
def KV {κ : Type} : List (κ × V) → List (κ × Value) → Prop := Paired fun (p : κ × V) (q : κ × Value) => p.1 = q.1 ∧ RelV p.2 q.2
def kV : Key → V
  | .inl i => .int i
  | .inr x => .str x
inductive HO where
  | lst (xs : List V)
  | tup (xs : List V)
  | dK (kvs : List (Key × V)) | dT (kvs : List (List Key × V))
  | set (S : Int → Bool) (n : Nat)
  | ins (C dx : Addr) (fs : List (Str × V))
  | own (x : Addr)
  | xd (fs : List (Str × V))
  | met (f x : Addr)
  | rng (lo hi : Int)
  | frz (o : Obj) (u : HO)
  | tbl (ps : Array Value)
  | ext (φ : Heap → Prop)
abbrev Hp := Addr → Option HO
def upd (H : Hp) (a : Addr) (o : HO) : Hp := fun b => if b = a then some o else H b
theorem upd_same {H : Hp} {a : Addr} {o : HO} : upd H a o a = some o := by unfold upd; rw [if_pos rfl]
theorem upd_ne {H : Hp} {a b : Addr} {o : HO} (h : b ≠ a) : upd H a o b = H b := by unfold upd; rw [if_neg h]
theorem ne_of {H : Hp} {a b : Addr} {o u : HO} (h : H a = some o) (h' : H b = some u) (d : o ≠ u) : a ≠ b := by
  intro e; subst e; rw [h] at h'; exact d (Option.some.inj h')
theorem ne_of_none {H : Hp} {a b : Addr} {o : HO} (h : H a = some o) (h' : H b = none) : a ≠ b := by
  intro e; subst e; rw [h] at h'; cases h'
section
variable (P : Program) (w : World)
def ObjOk (H : Hp) (h : Heap) (a : Addr) : HO → Prop
  | .lst xs => xs.length ≤ sizeLine ∧ ∃ (its : List Value) (n : Nat), Vals xs its ∧ h.get? a = some { cls := .type "list", data := .seq its.toArray n }
  | .tup xs => xs.length ≤ sizeLine ∧ ∃ its : List Value, Vals xs its ∧ IsTup h a its.toArray
  | .dK kvs => kvs.length ≤ sizeLine ∧ (a == sysModules) = false ∧ ∃ vs, KV kvs vs ∧ h.DictOf (mixKind P w) a vs
  | .dT kvs => kvs.length ≤ sizeLine ∧ (a == sysModules) = false ∧ ∃ xs : List (List Key × Addr × Value),
      Paired (fun (p : List Key × V) (q : List Key × Addr × Value) => p.1 = q.1 ∧ H q.2.1 = some (.tup (p.1.map kV)) ∧ RelV p.2 q.2.2) kvs xs ∧
      ∃ o es ep, h.get? a = some o ∧ o.ExactDict ∧ o.data = .dict es ep ∧ es.toList = xs.map (entryOfKey (tupleKind (mixKind P w))) ∧ (xs.map (·.1)).Nodup
  | .set S n => h.SetOf (intKind P w) a S n
  | .ins C dx fs => H dx = some (.own a) ∧ fs.length ≤ 1000 ∧ dx ≠ a ∧ h.get? a = some (PySem.W.instObj C dx) ∧
      ∃ mA, h.Ns1 dx mA ∧ (∀ f, RelO (fs.lookup f) (mA f)) ∧ PySem.Within mA (fs.map (·.1))
  | .own _ => ∃ o, h.get? a = some o
  | .xd fs => ∃ mA, h.Ns1 a mA ∧ ∀ f, RelO (fs.lookup f) (mA f)
  | .rng lo hi => ∃ t u v, h.get? a = some { cls := .type "range", data := .fields #[.int lo t, .int hi u, .int 1 v] }
  | .frz o u => h.get? a = some o ∧ ObjOk H h a u
  | .tbl ps => h.get? a = some { cls := .none, data := .fields ps }
  | .met f x => h.get? a = some (PySem.W.methodObj (.ref f) (.ref x))
  | .ext φ => φ h ∧ (∃ o, h.get? a = some o) ∧ ∀ h1 h2 : Heap, φ h1 → (∀ o, h1.get? a = some o → h2.get? a = some o) → φ h2
def HOk (H : Hp) (h : Heap) : Prop := ∀ a o, H a = some o → ObjOk P w H h a o
end
section
variable {P : Program} {w : World} {H H' : Hp} {h h' : Heap} {a : Addr} {o : HO}
theorem ObjOk.lt (x : ObjOk P w H h a o) : a < h.objs.size := by
  cases o with
  | lst xs => obtain ⟨_, _, _, _, e⟩ := x; exact Heap.lt_size e
  | tup xs => obtain ⟨_, _, _, p⟩ := x; exact p.lt
  | dK kvs => obtain ⟨_, _, _, _, o, _, _, e, _⟩ := x; exact Heap.lt_size e
  | dT kvs => obtain ⟨_, _, _, _, o, _, _, e, _⟩ := x; exact Heap.lt_size e
  | set S n => obtain ⟨o, _, _, _, e, _⟩ := x; exact Heap.lt_size e
  | ins C dx fs => obtain ⟨_, _, _, e, _⟩ := x; exact Heap.lt_size e
  | own y => obtain ⟨_, e⟩ := x; exact Heap.lt_size e
  | xd fs => obtain ⟨_, ⟨_, _, _, e, _⟩, _⟩ := x; exact Heap.lt_size e
  | rng lo hi => obtain ⟨_, _, _, e⟩ := x; exact Heap.lt_size e
  | frz ob u => obtain ⟨e, _⟩ := x; exact Heap.lt_size e
  | tbl ps => exact Heap.lt_size (show h.get? a = some _ from x)
  | met f y => exact Heap.lt_size (show h.get? a = some _ from x)
  | ext φ => obtain ⟨_, ⟨_, e⟩, _⟩ := x; exact Heap.lt_size e
theorem Paired.mapP {α β : Type} {F G : α → β → Prop} : ∀ {l₁ : List α} {l₂ : List β}, Paired F l₁ l₂ → (∀ a b, F a b → G a b) → Paired G l₁ l₂
  | _, _, .nil, _ => .nil
  | _, _, .cons r t, f => .cons (f _ _ r) (Paired.mapP t f)
theorem ObjOk.stay (x : ObjOk P w H h a o) (k : ∀ b u, (b = a ∨ H b = some (.own a)) → h.get? b = some u → h'.get? b = some u)
    (ho : ∀ b, H b = some (.own a) → H' b = some (.own a)) (ht : ∀ b xs, H b = some (.tup xs) → H' b = some (.tup xs)) : ObjOk P w H' h' a o := by
  induction o with
  | lst xs => obtain ⟨z, its, n, r, e⟩ := x; exact ⟨z, its, n, r, k _ _ (.inl rfl) e⟩
  | tup xs => obtain ⟨z, its, r, ob, e, c⟩ := x; exact ⟨z, its, r, ob, k _ _ (.inl rfl) e, c⟩
  | dK kvs => obtain ⟨z, y, vs, r, ob, es, ep, e, c⟩ := x; exact ⟨z, y, vs, r, ob, es, ep, k _ _ (.inl rfl) e, c⟩
  | dT kvs =>
    obtain ⟨z, y, xs, r, ob, es, ep, e, c⟩ := x
    exact ⟨z, y, xs, Paired.mapP r fun p q z => ⟨z.1, ht _ _ z.2.1, z.2.2⟩, ob, es, ep, k _ _ (.inl rfl) e, c⟩
  | set S n => obtain ⟨ob, es, ep, t, e, c⟩ := x; exact ⟨ob, es, ep, t, k _ _ (.inl rfl) e, c⟩
  | ins C dx fs =>
    obtain ⟨d, z, ne, e, mA, ⟨od, es, ep, e2, c⟩, r⟩ := x
    exact ⟨ho _ d, z, ne, k _ _ (.inl rfl) e, mA, ⟨od, es, ep, k _ _ (.inr d) e2, c⟩, r⟩
  | own y => obtain ⟨ob, e⟩ := x; exact ⟨ob, k _ _ (.inl rfl) e⟩
  | xd fs => obtain ⟨mA, ⟨od, es, ep, e, c⟩, r⟩ := x; exact ⟨mA, ⟨od, es, ep, k _ _ (.inl rfl) e, c⟩, r⟩
  | rng lo hi => obtain ⟨t, u, v, e⟩ := x; exact ⟨t, u, v, k _ _ (.inl rfl) e⟩
  | frz ob u ih => obtain ⟨e, q⟩ := x; exact ⟨k _ _ (.inl rfl) e, ih q⟩
  | tbl ps =>
    have e : h.get? a = some { cls := .none, data := .fields ps } := x
    show h'.get? a = some { cls := .none, data := .fields ps }
    exact k a _ (.inl rfl) e
  | met f y =>
    have e : h.get? a = some (PySem.W.methodObj (.ref f) (.ref y)) := x
    show h'.get? a = some (PySem.W.methodObj (.ref f) (.ref y))
    exact k a _ (.inl rfl) e
  | ext φ => obtain ⟨p, ⟨o, e⟩, st⟩ := x; exact ⟨st _ _ p fun o q => k _ _ (.inl rfl) q, ⟨o, k _ _ (.inl rfl) e⟩, st⟩
theorem HOk.lt (x : HOk P w H h) (e : H a = some o) : a < h.objs.size := (x a o e).lt
theorem HOk.fresh (x : HOk P w H h) (e : h.objs.size ≤ a) : H a = none := by
  cases q : H a with
  | none => rfl
  | some u => exact absurd (Nat.lt_of_lt_of_le (x.lt q) e) (Nat.lt_irrefl _)
theorem HOk.kept (x : HOk P w H h) (k : ∀ b u, h.get? b = some u → h'.get? b = some u) : HOk P w H h' := fun a o e =>
  (x a o e).stay (fun b u _ q => k b u q) (fun _ q => q) fun _ _ q => q
theorem HOk.laid (x : HOk P w H h) (k : ∀ b u, h.get? b = some u → h'.get? b = some u) (hp : h.objs.size ≤ a) (new : ObjOk P w (upd H a o) h' a o) : HOk P w (upd H a o) h' := fun b u e => by
  have hn := x.fresh hp
  by_cases hb : b = a
  · subst hb; rw [upd_same] at e; cases e; exact new
  · rw [upd_ne hb] at e
    exact (x b u e).stay (fun c v _ q => k c v q) (fun c q => by rw [upd_ne (ne_of_none q hn)]; exact q) fun c xs q => by rw [upd_ne (ne_of_none q hn)]; exact q
end
def Rd (H : Hp) (a : Addr) (u : HO) : Prop := H a = some u ∨ ∃ o, H a = some (.frz o u)
theorem Rd.ok {P : Program} {w : World} {H : Hp} {h : Heap} {a : Addr} {u : HO} (r : Rd H a u) (x : HOk P w H h) : ObjOk P w H h a u := by
  rcases r with r | ⟨o, r⟩
  · exact x a u r
  · obtain ⟨_, q⟩ := x a _ r
    exact q
def Mut : Option HO → Prop
  | some (.lst _) => True
  | some (.dK _) => True
  | some (.dT _) => True
  | some (.set _ _) => True
  | some (.ins _ _ _) => True
  | some (.ext _) => True
  | _ => False
section
variable {P : Program} {w : World} {H : Hp} {h h' : Heap} {x e : Addr} {o' : HO}
theorem HOk.write (ok : HOk P w H h) (mu : Mut (H x)) (he : e = x ∨ H e = some (.own x)) (k : ∀ b u, b ≠ e → h.get? b = some u → h'.get? b = some u) (heo : ∃ u, h'.get? e = some u)
    (new : ObjOk P w (upd H x o') h' x o') : HOk P w (upd H x o') h' := fun b u q => by
  have nown : ∀ c y, H c = some (.own y) → c ≠ x := fun c y r z => by subst z; rw [r] at mu; exact mu
  have ntup : ∀ c xs, H c = some (.tup xs) → c ≠ x := fun c xs r z => by subst z; rw [r] at mu; exact mu
  by_cases hb : b = x
  · subst hb; rw [upd_same] at q; cases q; exact new
  · rw [upd_ne hb] at q
    by_cases hbe : b = e
    · have q' : H b = some (.own x) := by
        rcases he with z | z
        · exact absurd (hbe.trans z) hb
        · rw [hbe]; exact z
      rw [q] at q'; cases q'
      obtain ⟨v, hv⟩ := heo
      exact ⟨v, by rw [hbe]; exact hv⟩
    · refine (ok b u q).stay (fun c v hc r => k c v ?_ r) (fun c r => by rw [upd_ne (nown c b r)]; exact r) fun c xs r => by rw [upd_ne (ntup c xs r)]; exact r
      rcases hc with rfl | hc
      · exact hbe
      · rintro rfl
        rcases he with z | z
        · exact nown c b hc z
        · rw [hc] at z; cases z; exact hb rfl
end
structure Un (fs ex : List Addr) (H H' : Hp) (h h' : Heap) : Prop where
  keep : ∀ b o, h.get? b = some o → H b = none → b ∉ fs → b ∉ ex → h'.get? b = some o
  slot : ∀ b o, h.get? b = some o → H b = none → b ∈ fs → b ∉ ex → ∃ sl, h'.get? b = some { o with slots := sl }
  free : ∀ b o, h.get? b = some o → H b = none → b ∉ ex → H' b = none
  there : ∀ b o, h.get? b = some o → b ∉ ex → ∃ o', h'.get? b = some o'
  tups : ∀ b xs, H b = some (.tup xs) → H' b = some (.tup xs)
  frzs : ∀ b o u, H b = some (.frz o u) → H' b = some (.frz o u)
  tbls : ∀ b ps, H b = some (.tbl ps) → ∃ more, H' b = some (.tbl (ps ++ more))
section
variable {fs fs' ex ex' : List Addr} {H H1 H2 : Hp} {h h1 h2 h' : Heap} {a x e : Addr} {o : HO}
theorem Un.any (u : Un fs ex H H1 h h1) {b : Addr} {ob : Obj} (q : h.get? b = some ob) (n : H b = none) (hx : b ∉ ex) : ∃ sl, h1.get? b = some { ob with slots := sl } := by
  by_cases hb : b ∈ fs
  · exact u.slot b ob q n hb hx
  · exact ⟨ob.slots, u.keep b ob q n hb hx⟩
theorem Un.kept (k : ∀ b u, h.get? b = some u → h'.get? b = some u) : Un fs ex H H h h' :=
  ⟨fun b ob q _ _ _ => k b ob q, fun b ob q _ _ _ => ⟨ob.slots, k b ob q⟩, fun _ _ _ n _ => n, fun b ob q _ => ⟨ob, k b ob q⟩, fun _ _ q => q, fun _ _ _ q => q, fun _ ps q => ⟨#[], by rw [q]; simp⟩⟩
theorem Un.refl : Un fs ex H H h h := Un.kept fun _ _ q => q
theorem Un.laid (k : ∀ b u, h.get? b = some u → h'.get? b = some u) (hp : h.objs.size ≤ a) (hn : H a = none) : Un fs ex H (upd H a o) h h' where
  keep := fun b u q _ _ _ => k b u q
  slot := fun b u q _ _ _ => ⟨u.slots, k b u q⟩
  free := fun b u q n _ => by rw [upd_ne (Nat.ne_of_lt (Nat.lt_of_lt_of_le (Heap.lt_size q) hp))]; exact n
  there := fun b u q _ => ⟨u, k b u q⟩
  tups := fun b xs q => by rw [upd_ne (ne_of_none q hn)]; exact q
  frzs := fun b u xs q => by rw [upd_ne (ne_of_none q hn)]; exact q
  tbls := fun b ps q => ⟨#[], by rw [upd_ne (ne_of_none q hn), q]; simp⟩
theorem Un.write (mu : Mut (H x)) (he : e = x ∨ H e = some (.own x)) (k : ∀ b u, b ≠ e → h.get? b = some u → h'.get? b = some u) (heo : ∃ u, h'.get? e = some u) : Un fs ex H (upd H x o) h h' := by
  have hx : ∀ b, H b = none → b ≠ x := fun b n z => by subst z; rw [n] at mu; exact mu
  have hb : ∀ b, H b = none → b ≠ e := fun b n z => by
    subst z
    rcases he with r | r
    · exact hx b n r
    · rw [n] at r; cases r
  have hm : ∀ b u, H b = some u → ¬ Mut (some u) → b ≠ x := fun b u q nm z => by subst z; rw [q] at mu; exact nm mu
  refine ⟨fun b u q n _ _ => k b u (hb b n) q, fun b u q n _ _ => ⟨u.slots, k b u (hb b n) q⟩, fun b u q n _ => by rw [upd_ne (hx b n)]; exact n, fun b u q _ => ?_,
    fun b xs q => by rw [upd_ne (hm b _ q fun z => z)]; exact q, fun b u xs q => by rw [upd_ne (hm b _ q fun z => z)]; exact q, fun b ps q => ⟨#[], by rw [upd_ne (hm b _ q fun z => z), q]; simp⟩⟩
  by_cases hbe : b = e
  · subst hbe; exact heo
  · exact ⟨u, k b u hbe q⟩
end
def trk (h : Heap) (H : Hp) : List Addr := (List.range h.objs.size).filter fun a => (H a).isSome
def hidT (h : Heap) (H : Hp) : Heap := PySem.W.hideAll h (trk h H)
theorem hidT_size (h : Heap) (H : Hp) : (hidT h H).objs.size = h.objs.size := PySem.W.hideAll_size _ _
theorem hidT_get {h : Heap} {H : Hp} {b : Addr} {o : Obj} (e : h.get? b = some o) (n : H b = none) : (hidT h H).get? b = some o :=
  PySem.W.hideAll_get _ e fun hm => by
    have q : (H b).isSome = true := (List.mem_filter.mp hm).2
    rw [n] at q; simp at q
theorem of_hidT {h : Heap} {H : Hp} {b : Addr} {o : Obj} (e : (hidT h H).get? b = some o) : h.get? b = some o ∧ H b = none := by
  have e' : h.get? b = some o := PySem.W.of_hideAll (trk h H) e
  refine ⟨e', ?_⟩
  cases q : H b with
  | none => rfl
  | some x =>
    have hm : b ∈ trk h H := List.mem_filter.mpr ⟨List.mem_range.mpr (Heap.lt_size e'), by simp [q]⟩
    have z : (hidT h H).get? b = none := PySem.W.hideAll_none (trk h H) hm
    rw [z] at e; cases e
def allNews (g h : Heap) (L : Addr) : List (Addr × Obj) := (List.range h.objs.size).filterMap fun a => if a = L ∨ (g.get? a).isSome = true then none else (h.get? a).map fun o => (a, o)
def rest (g h : Heap) (L d : Addr) : List (Addr × Obj) := (allNews g h L).filter fun p => decide (p.1 ≠ d)
end L2
namespace L2
open PySem PySem.Spec PyProof.Rows
structure Mod (K : PySem.W.Frag) (mg : Str → Option Value) (base : Heap) : Prop where
  kin : K.In base
  glob : base.Ns mainGlobals mg
  blt : ∃ mb, base.Ns builtinsNs mb ∧ ∀ x : Str, x ≠ "__name__" → mb x = bootBuiltins x
  nolimit : base.NoLimit
/-- the context: a def's body (or a comprehension's block) running. base: fixed through the whole law; s₀, H₀: the entry; outer: the frames whose slots others may change (a def's callers); stack: all frames that run;
   ex: iterators that were made ahead of the entry and are walked here (a comprehension's); fn: the names whose cells were made at the entry (a def: all; a comprehension's block: its own); calm: not within an except suite; pn: pins that every state bears; xe: what is wanted of an exception that leaves the code -/
structure Cx where
  prog : Program
  w : World
  K : PySem.W.Frag
  mg : Str → Option Value
  base : Heap
  A : Around
  N : List Str
  s₀ : Shared
  H₀ : Hp
  env : Env
  outer : List Env
  stack : List Env
  ex : List Addr
  fn : Str → Bool
  calm : Bool
  pn : List (Addr × Obj)
  xe : Value → Shared → Prop
def frs (l : List Env) : List Addr := l.filterMap (·.frame)
abbrev Cx.fs (X : Cx) : List Addr := frs X.outer
def Vis (sc : Scope) (x : Str) : Prop := sc.names.lookup x = some .local ∨ sc.names.lookup x = some .cell ∨ sc.names.lookup x = some .free
def Loc (sc : Scope) (x : Str) : Prop := sc.names.lookup x = some .local ∨ sc.names.lookup x = some .cell
def Look (env : Env) (h : Heap) (m : Str → Option Value) (x : Str) (u : Value) : Prop :=
  (env.kindOf x = some .local ∧ m x = some u) ∨ ((env.kindOf x = some .cell ∨ env.kindOf x = some .free) ∧ ∃ c, env.cells.lookup x = some c ∧ h.IsCell c (some u))
structure Cx.Ok (X : Cx) : Prop where
  mod : Mod X.K X.mg X.base
  kind : X.env.scope.kind = .function
  glob : X.env.globals = mainGlobals
  blt : X.env.builtins = builtinsNs
  above : X.s₀.heap.objs.size ≤ X.env.locals
  inj : ∀ x y c, X.env.cells.lookup x = some c → X.env.cells.lookup y = some c → x = y
  has : ∀ x, (X.env.kindOf x = some .cell ∨ X.env.kindOf x = some .free) → ∃ c, X.env.cells.lookup x = some c
  cab : ∀ x c, X.fn x = true → X.env.cells.lookup x = some c → X.s₀.heap.objs.size ≤ c
  hd : X.calm = true → X.A.handled = none
  frames : X.A.frames = some X.stack
  stk : X.stack = X.outer ∨ (X.stack = X.env :: X.outer ∧ X.env.frame = some X.env.locals)
  exf : ∀ b ∈ X.ex, b ≠ X.env.locals ∧ ∀ x c, X.env.cells.lookup x = some c → c ≠ b
  bs : ∀ b o, X.base.get? b = some o → X.s₀.heap.get? b = some o ∧ X.H₀ b = none
  bsz : X.base.objs.size ≤ X.s₀.heap.objs.size
  noex : ∀ b o, X.base.get? b = some o → b ∉ X.ex
  exfs : ∀ b ∈ X.ex, b ∉ X.fs
  funs : X.s₀.heap.FunFrames X.base X.outer
  frf : ∀ b ∈ X.fs, X.H₀ b = none
structure Inv (X : Cx) (pins : List (Addr × Obj)) (σ : List (Option V)) (H : Hp) (s : Shared) : Prop where
  ok : X.Ok
  os : s.os = X.s₀.os
  bare : AllBare s.gens
  base : Un X.fs X.ex X.H₀ H X.s₀.heap s.heap
  loc : ∃ m, s.heap.Ns X.env.locals m ∧ ∀ (i : Nat) (x : Str) (v : V), X.N[i]? = some x → σ[i]? = some (some v) → Vis X.env.scope x → ∃ u, RelV v u ∧ Look X.env s.heap m x u
  cell : ∀ x c, X.env.cells.lookup x = some c → ∃ v, s.heap.IsCell c v
  free : H X.env.locals = none
  freeC : ∀ x c, X.env.cells.lookup x = some c → H c = none
  pin : ∀ p ∈ X.pn ++ pins, s.heap.get? p.1 = some p.2 ∧ H p.1 = none ∧ p.1 ≠ X.env.locals ∧ p.1 ∉ X.fs ∧ ∀ v, p.2.data ≠ .cell v
  hok : HOk X.prog X.w H s.heap
  len : σ.length = X.N.length
section
variable {X : Cx} {pins : List (Addr × Obj)} {σ : List (Option V)} {H H' : Hp} {s : Shared} {h' : Heap}
theorem Cx.Ok.nofr (ok : X.Ok) {b : Addr} {o : Obj} (e : X.base.get? b = some o) : b ∉ X.fs := fun hb => by
  have := (ok.funs.mem hb).1
  rw [e] at this; cases this
theorem Inv.bs (I : Inv X pins σ H s) : ∀ b o, X.base.get? b = some o → s.heap.get? b = some o ∧ H b = none := fun b o e =>
  ⟨I.base.keep b o (I.ok.bs b o e).1 (I.ok.bs b o e).2 (I.ok.nofr e) (I.ok.noex b o e), I.base.free b o (I.ok.bs b o e).1 (I.ok.bs b o e).2 (I.ok.noex b o e)⟩
theorem Inv.bk (I : Inv X pins σ H s) : ∀ b o, X.base.get? b = some o → s.heap.get? b = some o := fun b o e => (I.bs b o e).1
theorem Inv.mod (I : Inv X pins σ H s) : Mod X.K X.mg X.base := I.ok.mod
theorem Inv.kIn (I : Inv X pins σ H s) : X.K.In s.heap := I.ok.mod.kin.keeps I.bk
theorem Inv.lt (I : Inv X pins σ H s) : X.env.locals < s.heap.objs.size := let ⟨_, hn, _⟩ := I.loc; hn.lt
theorem Inv.sz (I : Inv X pins σ H s) : X.s₀.heap.objs.size ≤ s.heap.objs.size := Nat.le_trans I.ok.above (Nat.le_of_lt I.lt)
theorem Inv.nofs (I : Inv X pins σ H s) {a : Addr} (h : s.heap.objs.size ≤ a) : a ∉ X.fs := fun hb => by
  obtain ⟨_, o, ho, _⟩ := I.ok.funs.mem hb
  exact absurd (Nat.lt_of_lt_of_le (Heap.lt_size ho) (Nat.le_trans I.sz h)) (Nat.lt_irrefl _)
theorem Inv.cne (I : Inv X pins σ H s) : ∀ x c, X.env.cells.lookup x = some c → c ≠ X.env.locals := fun x c e z => by
  obtain ⟨v, o, ho, hd⟩ := I.cell x c e
  obtain ⟨m, ⟨o', es, ep, ho', hd', _⟩, _⟩ := I.loc
  rw [z, ho'] at ho; cases ho; rw [hd'] at hd; cases hd
theorem Inv.funs (I : Inv X pins σ H s) : s.heap.FunFrames X.base X.outer := by
  have all : ∀ (l : List Env), (∀ b ∈ frs l, b ∈ X.fs) → X.s₀.heap.FunFrames X.base l → s.heap.FunFrames X.base l := by
    intro l
    induction l with
    | nil => intro _ _; trivial
    | cons env r ih =>
      intro hs hl
      obtain ⟨hk, ⟨L, o, hf, hn, ho, hd⟩, hr⟩ := hl
      have hL : L ∈ X.fs := hs L (by unfold frs; rw [List.filterMap_cons, hf]; exact List.mem_cons_self)
      obtain ⟨sl, e⟩ := I.base.slot L o ho (I.ok.frf L hL) hL fun z => I.ok.exfs L z hL
      exact ⟨hk, ⟨L, _, hf, hn, e, hd⟩, ih (fun b hb => hs b (by unfold frs; rw [List.filterMap_cons, hf]; exact List.mem_cons_of_mem _ hb)) hr⟩
  exact all X.outer (fun _ hb => hb) I.ok.funs
theorem Inv.stack (I : Inv X pins σ H s) : s.heap.FunFrames X.base X.stack := by
  rcases I.ok.stk with e | ⟨e, hf⟩
  · rw [e]; exact I.funs
  · rw [e]
    obtain ⟨m, hn, _⟩ := I.loc
    refine .cons (by rw [I.ok.kind]; decide) hf hn ?_ I.funs
    exact Heap.get?_none_of_le (Nat.le_trans I.ok.bsz I.ok.above)
theorem Inv.stkSub (I : Inv X pins σ H s) : ∀ b ∈ frs X.stack, b ∈ X.env.locals :: X.fs := fun b hb => by
  rcases I.ok.stk with e | ⟨e, hf⟩
  · rw [e] at hb; exact List.mem_cons_of_mem _ hb
  · rw [e] at hb
    unfold frs at hb
    rw [List.filterMap_cons, hf] at hb
    exact hb
theorem Inv.stkFree (I : Inv X pins σ H s) : ∀ b ∈ frs X.stack, H b = none := fun b hb => by
  rcases List.mem_cons.mp (I.stkSub b hb) with e | hb
  · rw [e]; exact I.free
  · obtain ⟨_, o, ho, _⟩ := I.ok.funs.mem hb
    exact I.base.free b o ho (I.ok.frf b hb) fun z => I.ok.exfs b z hb
theorem Inv.step {g' : Array GenState} {t' : Nat} {d' : Drawn} {ch : List Addr} (I : Inv X pins σ H s)
    (hch : ∀ b ∈ ch, (b ∈ X.ex ∨ X.s₀.heap.objs.size ≤ b) ∧ b ≠ X.env.locals ∧ (∀ x c, X.env.cells.lookup x = some c → c ≠ b) ∧ ∀ p ∈ X.pn ++ pins, p.1 ≠ b)
    (keep : ∀ b o, b ≠ X.env.locals → b ∉ X.fs → b ∉ ch → s.heap.get? b = some o → H b = none → h'.get? b = some o)
    (slot : ∀ b o, b ≠ X.env.locals → b ∈ X.fs → b ∉ ch → s.heap.get? b = some o → H b = none → ∃ sl, h'.get? b = some { o with slots := sl }) (free : ∀ b o, b ∉ ch → s.heap.get? b = some o → H b = none → H' b = none)
    (there : ∀ b o, b ∉ ch → s.heap.get? b = some o → ∃ o', h'.get? b = some o')
    (tups : ∀ b xs, H b = some (.tup xs) → H' b = some (.tup xs)) (frzs : ∀ b o u, H b = some (.frz o u) → H' b = some (.frz o u)) (tbls : ∀ b ps, H b = some (.tbl ps) → ∃ more, H' b = some (.tbl (ps ++ more)))
    (ns : ∀ m, s.heap.Ns X.env.locals m → h'.Ns X.env.locals m) (hok : HOk X.prog X.w H' h') (hg : AllBare g') :
    Inv X pins σ H' { s with heap := h', gens := g', drawn := d', toks := t' } := by
  have neL : ∀ b o, X.s₀.heap.get? b = some o → b ≠ X.env.locals := fun b o e => Nat.ne_of_lt (Nat.lt_of_lt_of_le (Heap.lt_size e) I.ok.above)
  have neC : ∀ b o, X.s₀.heap.get? b = some o → b ∉ X.ex → b ∉ ch := fun b o e hx hb => by
    rcases (hch b hb).1 with z | z
    · exact hx z
    · exact absurd (Nat.lt_of_lt_of_le (Heap.lt_size e) z) (Nat.lt_irrefl _)
  have cellK : ∀ x c, X.env.cells.lookup x = some c → ∀ v, s.heap.IsCell c v → h'.IsCell c v := fun x c e v ⟨o, ho, hd⟩ => by
    have nch : c ∉ ch := fun z => (hch c z).2.2.1 x c e rfl
    by_cases hc : c ∈ X.fs
    · obtain ⟨sl, q⟩ := slot c o (I.cne x c e) hc nch ho (I.freeC x c e)
      exact ⟨_, q, hd⟩
    · exact ⟨o, keep c o (I.cne x c e) hc nch ho (I.freeC x c e), hd⟩
  refine ⟨I.ok, I.os, hg, ⟨fun b o e n hb hx => ?_, fun b o e n hb hx => ?_, fun b o e n hx => ?_, fun b o e hx => ?_, fun b xs e => tups b xs (I.base.tups b xs e), fun b o xs e => frzs b o xs (I.base.frzs b o xs e), fun b ps e => ?_⟩, ?_, fun x c e => ?_, ?_, fun x c e => ?_, fun p hp => ?_, hok, I.len⟩
  · exact keep b o (neL b o e) hb (neC b o e hx) (I.base.keep b o e n hb hx) (I.base.free b o e n hx)
  · obtain ⟨sl, e1⟩ := I.base.slot b o e n hb hx
    obtain ⟨sl', e2⟩ := slot b _ (neL b o e) hb (neC b o e hx) e1 (I.base.free b o e n hx)
    exact ⟨sl', e2⟩
  · obtain ⟨o', e1⟩ := I.base.there b o e hx
    exact free b o' (neC b o e hx) e1 (I.base.free b o e n hx)
  · obtain ⟨o', e1⟩ := I.base.there b o e hx
    exact there b o' (neC b o e hx) e1
  · obtain ⟨m1, e1⟩ := I.base.tbls b ps e
    obtain ⟨m2, e2⟩ := tbls b _ e1
    exact ⟨m1 ++ m2, by rw [e2, Array.append_assoc]⟩
  · obtain ⟨m, hn, hl⟩ := I.loc
    refine ⟨m, ns m hn, fun i x v e1 e2 e3 => ?_⟩
    obtain ⟨u, r, l⟩ := hl i x v e1 e2 e3
    refine ⟨u, r, ?_⟩
    rcases l with l | ⟨k, c, e, z⟩
    · exact .inl l
    · exact .inr ⟨k, c, e, cellK x c e _ z⟩
  · obtain ⟨v, z⟩ := I.cell x c e
    exact ⟨v, cellK x c e v z⟩
  · obtain ⟨m, ⟨o, _, _, ho, _⟩, _⟩ := I.loc
    exact free _ o (fun z => (hch _ z).2.1 rfl) ho I.free
  · obtain ⟨v, o, ho, hd⟩ := I.cell x c e
    exact free c o (fun z => (hch c z).2.2.1 x c e rfl) ho (I.freeC x c e)
  · obtain ⟨e, n, ne, nf, d⟩ := I.pin p hp
    have nch : p.1 ∉ ch := fun z => (hch p.1 z).2.2.2 p hp rfl
    exact ⟨keep p.1 p.2 ne nf nch e n, free p.1 p.2 nch e n, ne, nf, d⟩
theorem Inv.un {t' : Nat} (I : Inv X pins σ H s) (u : Un X.fs [] H H' s.heap h') (hok : HOk X.prog X.w H' h') : Inv X pins σ H' { s with heap := h', toks := t' } := by
  obtain ⟨m, ⟨o, es, ep, ho, r⟩, _⟩ := id I.loc
  obtain ⟨sl, hL⟩ := u.any ho I.free (by simp)
  exact I.step (g' := s.gens) (d' := s.drawn) (ch := []) (fun _ z => nomatch z) (fun b o _ hb _ e n => u.keep b o e n hb (by simp)) (fun b o _ hb _ e n => u.slot b o e n hb (by simp)) (fun b o _ e n => u.free b o e n (by simp)) (fun b o _ e => u.there b o e (by simp)) u.tups u.frzs u.tbls (fun m' hm => by
    obtain ⟨o', es', ep', ho', r'⟩ := hm
    rw [ho] at ho'; cases ho'
    exact ⟨_, es', ep', hL, r'⟩) hok I.bare
theorem Inv.call {g' : Array GenState} {t' : Nat} {d' : Drawn} {ch : List Addr} (I : Inv X pins σ H s) (u : Un (frs X.stack) ch H H' s.heap h') (hok : HOk X.prog X.w H' h') (hg : AllBare g')
    (hch : ∀ b ∈ ch, (b ∈ X.ex ∨ X.s₀.heap.objs.size ≤ b) ∧ b ≠ X.env.locals ∧ (∀ x c, X.env.cells.lookup x = some c → c ≠ b) ∧ ∀ p ∈ X.pn ++ pins, p.1 ≠ b) :
    Inv X pins σ H' { s with heap := h', gens := g', drawn := d', toks := t' } := by
  obtain ⟨m, ⟨o, es, ep, ho, r⟩, _⟩ := id I.loc
  obtain ⟨sl, hL⟩ := u.any ho I.free fun z => (hch _ z).2.1 rfl
  exact I.step (ch := ch) hch (fun b o hL hb hc e n => u.keep b o e n (fun z => (List.mem_cons.mp (I.stkSub b z)).elim hL hb) hc) (fun b o _ _ hc e n => u.any e n hc) (fun b o hc e n => u.free b o e n hc) (fun b o hc e => u.there b o e hc) u.tups u.frzs u.tbls (fun m' hm => by
    obtain ⟨o', es', ep', ho', r'⟩ := hm
    rw [ho] at ho'; cases ho'
    exact ⟨_, es', ep', hL, r'⟩) hok hg
theorem Inv.turned {t' : Nat} {it : Addr} (I : Inv X pins σ H s) (k : ∀ b o, b ≠ it → s.heap.get? b = some o → h'.get? b = some o) (hn : H it = none) (hL : it ≠ X.env.locals)
    (h1 : it ∈ X.ex ∨ X.s₀.heap.objs.size ≤ it) (h2 : ∀ x c, X.env.cells.lookup x = some c → c ≠ it) (h3 : ∀ p ∈ X.pn ++ pins, p.1 ≠ it) : Inv X pins σ H { s with heap := h', toks := t' } := by
  have nit : ∀ b u, H b = some u → b ≠ it := fun b u e z => by rw [z, hn] at e; cases e
  refine I.step (g' := s.gens) (d' := s.drawn) (ch := [it]) (fun b hb => ?_) (fun b o _ _ hc e _ => k b o (fun z => hc (by simp [z])) e) (fun b o _ _ hc e _ => ⟨o.slots, k b o (fun z => hc (by simp [z])) e⟩) (fun _ _ _ _ n => n)
    (fun b o hc e => ⟨o, k b o (fun z => hc (by simp [z])) e⟩) (fun _ _ e => e) (fun _ _ _ e => e) (fun b ps e => ⟨#[], by rw [e]; simp⟩) (fun m hm => ?_) (fun b u e => ?_) I.bare
  · have e : b = it := by simpa using hb
    subst e
    exact ⟨h1, hL, h2, h3⟩
  · obtain ⟨o, es, ep, ho, r⟩ := hm
    exact ⟨o, es, ep, k _ o (Ne.symm hL) ho, r⟩
  · refine (I.hok b u e).stay (fun c v hc q => k c v ?_ q) (fun _ q => q) fun _ _ q => q
    rcases hc with z | z
    · rw [z]; exact nit b u e
    · exact nit c _ z
theorem Inv.tok (I : Inv X pins σ H s) (t : Nat) : Inv X pins σ H { s with toks := t } := I.un (h' := s.heap) (t' := t) Un.refl I.hok
theorem Inv.kept {t' : Nat} (I : Inv X pins σ H s) (k : ∀ b u, s.heap.get? b = some u → h'.get? b = some u) : Inv X pins σ H { s with heap := h', toks := t' } := I.un (Un.kept k) (I.hok.kept k)
theorem Inv.laid {a : Addr} {o : HO} {t' : Nat} (I : Inv X pins σ H s) (k : ∀ b u, s.heap.get? b = some u → h'.get? b = some u) (hp : s.heap.objs.size ≤ a) (new : ObjOk X.prog X.w (upd H a o) h' a o) :
    Inv X pins σ (upd H a o) { s with heap := h', toks := t' } := I.un (Un.laid k hp (I.hok.fresh hp)) (I.hok.laid k hp new)
theorem Inv.write {x e : Addr} {o : HO} {t' : Nat} (I : Inv X pins σ H s) (mu : Mut (H x)) (he : e = x ∨ H e = some (.own x)) (k : ∀ b u, b ≠ e → s.heap.get? b = some u → h'.get? b = some u) (heo : ∃ u, h'.get? e = some u)
    (new : ObjOk X.prog X.w (upd H x o) h' x o) : Inv X pins σ (upd H x o) { s with heap := h', toks := t' } := I.un (Un.write mu he k heo) (I.hok.write mu he k heo new)
theorem Inv.pins_of {pins' : List (Addr × Obj)} (I : Inv X pins σ H s) (h : ∀ p ∈ pins', s.heap.get? p.1 = some p.2 ∧ H p.1 = none ∧ p.1 ≠ X.env.locals ∧ p.1 ∉ X.fs ∧ ∀ v, p.2.data ≠ .cell v) : Inv X pins' σ H s :=
  ⟨I.ok, I.os, I.bare, I.base, I.loc, I.cell, I.free, I.freeC, fun p hp => (List.mem_append.mp hp).elim (fun z => I.pin p (List.mem_append_left _ z)) (h p), I.hok, I.len⟩
theorem nodup_ix {N : List Str} (hN : N.Nodup) {i j : Nat} {x : Str} (a : N[i]? = some x) (b : N[j]? = some x) : i = j := by
  obtain ⟨h1, e1⟩ := List.getElem?_eq_some_iff.mp a
  obtain ⟨h2, e2⟩ := List.getElem?_eq_some_iff.mp b
  exact (List.getElem_inj hN).mp (e1.trans e2.symm)
theorem store_ok2 {M : Model} {A : Around} {E : Value → Shared → Prop} {i : Nat} {x : Str} {v : V} {u : Value} {Q : Unit → Shared → Prop} (I : Inv X pins σ H s) (hN : X.N.Nodup) (hi : X.N[i]? = some x) (hx : Loc X.env.scope x) (r : RelV v u)
    (h : ∀ s', Inv X pins (σ.set i (some v)) H s' → (∃ a, Heap.SameBut a s.heap s'.heap ∧ (a = X.env.locals ∨ X.env.cells.lookup x = some a)) → Q () s') (hf : X.fn x = true ∨ X.env.scope.names.lookup x = some .local := by first | exact .inl rfl | exact .inr rfl | assumption) : wpAny M A (storeName X.env x u) Q E s := by
  obtain ⟨m, hn, hl⟩ := id I.loc
  have hcls : (X.env.scope.kind == .class || (X.env.scope.kind == .module && X.env.locals != X.env.globals)) = false := by rw [I.ok.kind]; rfl
  have hiσ : i < σ.length := by rw [I.len]; exact (List.getElem?_eq_some_iff.mp hi).1
  have cne := I.cne
  have tracked : ∀ {a : Addr} {h' : Heap}, (∃ o, s.heap.get? a = some o ∧ H a = none) → Heap.SameBut a s.heap h' → HOk X.prog X.w H h' := fun {a h'} ha hs b ob e => by
    obtain ⟨_, _, hfree⟩ := ha
    refine (I.hok b ob e).stay (fun c w' hc q => (hs.2 c ?_).trans q) (fun _ q => q) fun _ _ q => q
    rintro rfl
    rcases hc with rfl | hc
    · rw [hfree] at e; cases e
    · rw [hfree] at hc; cases hc
  rcases hx with hk | hk
  · refine wpAny_storeName_local hk hn (fun h' hn' hs => ?_) hcls
    obtain ⟨oL, _, _, hoL, _⟩ := id hn
    refine h _ ⟨I.ok, I.os, I.bare, ⟨fun b o e n hb hx => ?_, fun b o e n hb hx => ?_, I.base.free, fun b o e hx => ?_, I.base.tups, I.base.frzs, I.base.tbls⟩, ⟨_, hn', fun j y v' e1 e2 e3 => ?_⟩, fun y c e => ?_, I.free, I.freeC, fun p hp => ?_, tracked ⟨oL, hoL, I.free⟩ hs, by simpa using I.len⟩ ⟨_, hs, .inl rfl⟩
    · exact (hs.2 b (Nat.ne_of_lt (Nat.lt_of_lt_of_le (Heap.lt_size e) I.ok.above))).trans (I.base.keep b o e n hb hx)
    · obtain ⟨sl, e1⟩ := I.base.slot b o e n hb hx
      exact ⟨sl, (hs.2 b (Nat.ne_of_lt (Nat.lt_of_lt_of_le (Heap.lt_size e) I.ok.above))).trans e1⟩
    · obtain ⟨o', e1⟩ := I.base.there b o e hx
      exact ⟨o', (hs.2 b (Nat.ne_of_lt (Nat.lt_of_lt_of_le (Heap.lt_size e) I.ok.above))).trans e1⟩
    · by_cases hj : j = i
      · subst hj
        rw [hi] at e1; cases e1
        rw [List.getElem?_set_self hiσ] at e2
        cases e2
        exact ⟨u, r, .inl ⟨hk, by simp⟩⟩
      · rw [List.getElem?_set_ne (Ne.symm hj)] at e2
        obtain ⟨u', r', q⟩ := hl j y v' e1 e2 e3
        refine ⟨u', r', ?_⟩
        rcases q with ⟨k, e⟩ | ⟨k, c, e, z⟩
        · refine .inl ⟨k, ?_⟩
          have : y ≠ x := fun e => hj (nodup_ix hN e1 (e ▸ hi))
          simp [this, e]
        · exact .inr ⟨k, c, e, z.sameBut hs (cne y c e)⟩
    · obtain ⟨w', z⟩ := I.cell y c e
      exact ⟨w', z.sameBut hs (cne y c e)⟩
    · obtain ⟨e, n, ne, nf, d⟩ := I.pin p hp
      exact ⟨(hs.2 p.1 ne).trans e, n, ne, nf, d⟩
  · have hfn : X.fn x = true := by
      rcases hf with z | z
      · exact z
      · rw [z] at hk; cases hk
    obtain ⟨c, hc⟩ := I.ok.has x (.inl hk)
    obtain ⟨w', z⟩ := I.cell x c hc
    refine wpAny_storeName_cell I.ok.kind hk hc z (fun h' hc' hs => ?_)
    obtain ⟨oc, hoc, hocd⟩ := id z
    refine h { s with heap := h' } ⟨I.ok, I.os, I.bare, ⟨fun b o e n hb hx => ?_, fun b o e n hb hx => ?_, I.base.free, fun b o e hx => ?_, I.base.tups, I.base.frzs, I.base.tbls⟩, ⟨m, hn.sameBut hs (Ne.symm (cne x c hc)), fun j y v' e1 e2 e3 => ?_⟩, fun y c' e => ?_, I.free, I.freeC, fun p hp => ?_, tracked ⟨oc, hoc, I.freeC x c hc⟩ hs, by simpa using I.len⟩ ⟨c, hs, .inr hc⟩
    · exact (hs.2 b (Nat.ne_of_lt (Nat.lt_of_lt_of_le (Heap.lt_size e) (I.ok.cab x c hfn hc)))).trans (I.base.keep b o e n hb hx)
    · obtain ⟨sl, e1⟩ := I.base.slot b o e n hb hx
      exact ⟨sl, (hs.2 b (Nat.ne_of_lt (Nat.lt_of_lt_of_le (Heap.lt_size e) (I.ok.cab x c hfn hc)))).trans e1⟩
    · obtain ⟨o', e1⟩ := I.base.there b o e hx
      exact ⟨o', (hs.2 b (Nat.ne_of_lt (Nat.lt_of_lt_of_le (Heap.lt_size e) (I.ok.cab x c hfn hc)))).trans e1⟩
    · by_cases hj : j = i
      · subst hj
        rw [hi] at e1; cases e1
        rw [List.getElem?_set_self hiσ] at e2
        cases e2
        exact ⟨u, r, .inr ⟨.inl hk, c, hc, hc'⟩⟩
      · rw [List.getElem?_set_ne (Ne.symm hj)] at e2
        obtain ⟨u', r', q⟩ := hl j y v' e1 e2 e3
        refine ⟨u', r', ?_⟩
        rcases q with q | ⟨k, c', e, z'⟩
        · exact .inl q
        · refine .inr ⟨k, c', e, z'.sameBut hs ?_⟩
          rintro rfl
          exact hj (nodup_ix hN e1 (I.ok.inj _ _ _ e hc ▸ hi))
    · by_cases hcc : c' = c
      · subst hcc; exact ⟨_, hc'⟩
      · obtain ⟨w2, z2⟩ := I.cell y c' e
        exact ⟨w2, z2.sameBut hs hcc⟩
    · obtain ⟨e, n, ne, nf, d⟩ := I.pin p hp
      refine ⟨(hs.2 p.1 ?_).trans e, n, ne, nf, d⟩
      intro q
      rw [q, hoc] at e
      have q' : oc = p.2 := Option.some.inj e
      exact d w' (by rw [← q']; exact hocd)
theorem store_ok {M : Model} {A : Around} {E : Value → Shared → Prop} {i : Nat} {x : Str} {v : V} {u : Value} {Q : Unit → Shared → Prop} (I : Inv X pins σ H s) (hN : X.N.Nodup) (hi : X.N[i]? = some x) (hx : Loc X.env.scope x) (r : RelV v u)
    (h : ∀ s', Inv X pins (σ.set i (some v)) H s' → Q () s') (hf : X.fn x = true ∨ X.env.scope.names.lookup x = some .local := by first | exact .inl rfl | exact .inr rfl | assumption) : wpAny M A (storeName X.env x u) Q E s :=
  store_ok2 I hN hi hx r (fun s' I' _ => h s' I') hf
theorem Inv.call' {s' : Shared} {ch : List Addr} (I : Inv X pins σ H s) (ho : s'.os = s.os) (u : Un (frs X.stack) ch H H' s.heap s'.heap) (hok : HOk X.prog X.w H' s'.heap) (hg : AllBare s'.gens)
    (hch : ∀ b ∈ ch, (b ∈ X.ex ∨ X.s₀.heap.objs.size ≤ b) ∧ b ≠ X.env.locals ∧ (∀ x c, X.env.cells.lookup x = some c → c ≠ b) ∧ ∀ p ∈ X.pn ++ pins, p.1 ≠ b) : Inv X pins σ H' s' := by
  obtain ⟨h', g', d', t', o'⟩ := s'
  have e : o' = s.os := ho
  subst e
  exact I.call (g' := g') (t' := t') (d' := d') u hok hg hch
end
abbrev XK := Value → Option Addr → Hp → Prop
abbrev St := List (Option V)
abbrev VK := V → Hp → Prop
abbrev TE := St → Hp → VK → Prop
abbrev TT := St → Hp → (Bool → Hp → Prop) → Prop
abbrev TA := St → Hp → (List V → Hp → Prop) → Prop
structure Ends where
  nx : St → Hp → Prop
  rt : VK
  bk : St → Hp → Prop := fun _ _ => False
  ct : St → Hp → Prop := fun _ _ => False
abbrev TS := Ends → St → Hp → Prop
def EP (X : Cx) (pins : List (Addr × Obj)) (σ : St) (Q : VK) (u : Value) (s' : Shared) : Prop := ∃ v H', Inv X pins σ H' s' ∧ RelV v u ∧ Q v H'
def TP (X : Cx) (pins : List (Addr × Obj)) (σ : St) (Q : Bool → Hp → Prop) (b : Bool) (s' : Shared) : Prop := ∃ H', Inv X pins σ H' s' ∧ Q b H'
def AP (X : Cx) (pins : List (Addr × Obj)) (σ : St) (Q : List V → Hp → Prop) (us : List Value) (s' : Shared) : Prop := ∃ vs H', Inv X pins σ H' s' ∧ Vals vs us ∧ Q vs H'
def SP (X : Cx) (pins : List (Addr × Obj)) (D : Ends) (f : Flow) (s' : Shared) : Prop :=
  match f with
  | .next => ∃ σ' H', Inv X pins σ' H' s' ∧ D.nx σ' H'
  | .brk => ∃ σ' H', Inv X pins σ' H' s' ∧ D.bk σ' H'
  | .cont => ∃ σ' H', Inv X pins σ' H' s' ∧ D.ct σ' H'
  | .ret u => ∃ v σ' H', Inv X pins σ' H' s' ∧ RelV v u ∧ D.rt v H'
def PE (X : Cx) (e : Expr) (t : TE) : Prop :=
  ∀ (pins : List (Addr × Obj)) (s : Shared) (σ : St) (H : Hp) (Q : VK), Inv X pins σ H s → t σ H Q → wpAny (model X.prog X.w) X.A (eval e X.env) (EP X pins σ Q) X.xe s
def PT (X : Cx) (e : Expr) (t : TT) : Prop :=
  ∀ (pins : List (Addr × Obj)) (s : Shared) (σ : St) (H : Hp) (Q : Bool → Hp → Prop), Inv X pins σ H s → t σ H Q → wpAny (model X.prog X.w) X.A (isTrue e X.env (eval e X.env)) (TP X pins σ Q) X.xe s
def PW (X : Cx) (e : Expr) (t : TT) : Prop :=
  ∀ (whole : Sem Value) (pins : List (Addr × Obj)) (s : Shared) (σ : St) (H : Hp) (Q : Bool → Hp → Prop), Inv X pins σ H s → t σ H Q → wpAny (model X.prog X.w) X.A (isTrue e X.env whole) (TP X pins σ Q) X.xe s
theorem PW.pt {X : Cx} {e : Expr} {t : TT} (h : PW X e t) : PT X e t := h _
def PA (X : Cx) (es : List Expr) (t : TA) : Prop :=
  ∀ (pos : Pos) (pins : List (Addr × Obj)) (s : Shared) (σ : St) (H : Hp) (Q : List V → Hp → Prop), Inv X pins σ H s → t σ H Q → wpAny (model X.prog X.w) X.A (spliced (backTo pos (starEach es X.env))) (AP X pins σ Q) X.xe s
def PS (X : Cx) (st : Stmt) (t : TS) : Prop :=
  ∀ (pins : List (Addr × Obj)) (s : Shared) (σ : St) (H : Hp) (D : Ends), Inv X pins σ H s → t D σ H → wpAny (model X.prog X.w) X.A (exec st X.env) (SP X pins D) X.xe s
def PSs (X : Cx) (st : List Stmt) (t : TS) : Prop :=
  ∀ (pins : List (Addr × Obj)) (s : Shared) (σ : St) (H : Hp) (D : Ends), Inv X pins σ H s → t D σ H → wpAny (model X.prog X.w) X.A (execs st X.env) (SP X pins D) X.xe s
theorem thn {α : Type} {t : Sem α} {Q Q' : α → Shared → Prop} {M : Model} {A : Around} {E : Value → Shared → Prop} {s : Shared} (h : wpAny M A t Q E s) (hQ : ∀ a s, Q a s → Q' a s) : wpAny M A t Q' E s := wpAny_mono h hQ fun _ _ x => x
end L2
namespace L2
open PySem PySem.Spec PyProof.Rows
section
variable {X : Cx}
def tVar (i : Nat) : TE := fun σ H Q => ∃ v, σ[i]? = some (some v) ∧ Q v H
def tC (v : V) : TE := fun _ H Q => Q v H
theorem pe_var {i : Nat} {x : Str} {pos : Pos} (hN : X.N[i]? = some x) (hv : Vis X.env.scope x) (hd : (x == ("__debug__" : Str)) = false := by decide) (hcd : (x == ("__classdict__" : Str)) = false := by decide) : PE X (.Name x pos) (tVar i) := by
  intro pins s σ H Q I h
  obtain ⟨v, e, h⟩ := h
  obtain ⟨m, hn, hl⟩ := I.loc
  obtain ⟨u, r, l⟩ := hl i x v hN e hv
  have fin : EP X pins σ Q u s := ⟨v, H, I, r, h⟩
  rcases l with ⟨hk, hm⟩ | ⟨hk, c, hc, hcell⟩
  · exact wpAny_Name (wpAny_loadName_local I.ok.kind hk hn hm fin) hd
  · rcases hk with hk | hk
    · exact wpAny_Name (wpAny_loadName_cell I.ok.kind hk hc hcell fin) hd
    · exact wpAny_Name (wpAny_loadName_free I.ok.kind hk hc hcell fin hcd) hd
theorem pe_int {i j pos} : PE X (.Constant (.int i) j pos) (tC (.int i)) := fun _ _ _ H _ I h => wpAny_Constant_int ⟨.int i, H, I.tok _, ⟨_, rfl⟩, h⟩
theorem pe_bl {b j pos} : PE X (.Constant (.bool b) j pos) (tC (.bl b)) := fun _ _ _ H _ I h => Constant_bool ⟨.bl b, H, I, rfl, h⟩
theorem pe_non {j pos} : PE X (.Constant .none j pos) (tC .non) := fun _ _ _ H _ I h => Constant_none ⟨.non, H, I, rfl, h⟩
theorem pe_str {x j pos} : PE X (.Constant (.str x) j pos) (tC (.str x)) := fun _ _ _ H _ I h => Calls.Constant_str ⟨.str x, H, I.tok _, ⟨_, rfl⟩, h⟩
def Gl (X : Cx) (x : Str) : Prop := X.env.kindOf x = some .globalImplicit
theorem ld_glob {E : Value → Shared → Prop} {pins : List (Addr × Obj)} {s : Shared} {σ : St} {H : Hp} {x : Str} {u : Value} {pos : Pos} {Q : Value → Shared → Prop} (I : Inv X pins σ H s) (hg : Gl X x) (hm : X.mg x = some u) (h : Q u s)
    (hd : (x == ("__debug__" : Str)) = false := by decide) : wpAny (model X.prog X.w) X.A (eval (.Name x pos) X.env) Q E s :=
  Calls.Name_function_global I.ok.kind hg (Calls.loadGlobal_global (by rw [I.ok.glob]; exact I.mod.glob.keeps I.bk) hm h) hd
theorem ld_blt {E : Value → Shared → Prop} {pins : List (Addr × Obj)} {s : Shared} {σ : St} {H : Hp} {x : Str} {u : Value} {pos : Pos} {Q : Value → Shared → Prop} (I : Inv X pins σ H s) (hg : Gl X x) (hm : X.mg x = none) (hv : bootBuiltins x = some u) (h : Q u s)
    (hn : x ≠ "__name__" := by decide) (hd : (x == ("__debug__" : Str)) = false := by decide) : wpAny (model X.prog X.w) X.A (eval (.Name x pos) X.env) Q E s := by
  obtain ⟨mb, h1, h2⟩ := I.mod.blt
  exact Calls.Name_function_global I.ok.kind hg (Calls.loadGlobal_builtin (by rw [I.ok.glob]; exact I.mod.glob.keeps I.bk) hm (by rw [I.ok.blt]; exact h1.keeps I.bk) ((h2 x hn).trans hv) h) hd
theorem pe_glob {x : Str} {v : V} {u : Value} {pos : Pos} (hg : Gl X x) (hm : X.mg x = some u) (r : RelV v u) (hd : (x == ("__debug__" : Str)) = false := by decide) : PE X (.Name x pos) (tC v) :=
  fun _ _ _ H _ I h => ld_glob I hg hm ⟨v, H, I, r, h⟩ hd
theorem pe_bltn {x : Str} {v : V} {u : Value} {pos : Pos} (hg : Gl X x) (hm : X.mg x = none) (hv : bootBuiltins x = some u) (r : RelV v u) (hn : x ≠ "__name__" := by decide) (hd : (x == ("__debug__" : Str)) = false := by decide) : PE X (.Name x pos) (tC v) :=
  fun _ _ _ H _ I h => ld_blt I hg hm hv ⟨v, H, I, r, h⟩ hn hd
def t2I (ta tb : TE) (k : Int → Int → Hp → Prop) : St → Hp → Prop := fun σ H => ta σ H fun x H1 => tb σ H1 fun y H2 => ∃ i j, x = .int i ∧ y = .int j ∧ k i j H2
def tAdd (ta tb : TE) : TE := fun σ H Q => t2I ta tb (fun i j H2 => Q (.int (i + j)) H2) σ H
def tSub (ta tb : TE) : TE := fun σ H Q => t2I ta tb (fun i j H2 => Q (.int (i - j)) H2) σ H
def tMul (ta tb : TE) : TE := fun σ H Q => t2I ta tb (fun i j H2 => (-(2 ^ 64) < i ∧ i < 2 ^ 64) ∧ Q (.int (i * j)) H2) σ H
variable {a b : Expr} {ta tb : TE} {pos : Pos}
def PC (X : Cx) (op : CmpOp) (a b : Expr) (t : TE) : Prop :=
  ∀ (pins : List (Addr × Obj)) (s : Shared) (σ : St) (H : Hp) (Q : VK), Inv X pins σ H s → t σ H Q →
    wpAny (model X.prog X.w) X.A (eval a X.env) (fun v s₁ => wpAny (model X.prog X.w) X.A (eval b X.env) (fun u s₂ => wpAny (model X.prog X.w) X.A (compareOp op v u) (EP X pins σ Q) X.xe s₂) X.xe s₁) X.xe s
def tCmp (p : Int → Int → Bool) (ta tb : TE) : TE := fun σ H Q => t2I ta tb (fun i j H2 => Q (.bl (p i j)) H2) σ H
abbrev tLt : TE → TE → TE := tCmp fun i j => decide (i < j)
abbrev tLe : TE → TE → TE := tCmp fun i j => decide (i ≤ j)
abbrev tGt : TE → TE → TE := tCmp fun i j => decide (j < i)
abbrev tGe : TE → TE → TE := tCmp fun i j => decide (j ≤ i)
abbrev tEqI : TE → TE → TE := tCmp fun i j => decide (i = j)
abbrev tNeI : TE → TE → TE := tCmp fun i j => !decide (i = j)
def tIsN (ta : TE) : TE := fun σ H Q => ta σ H fun x H1 => Q (.bl (decide (x = .non))) H1
def tNotN (ta : TE) : TE := fun σ H Q => ta σ H fun x H1 => Q (.bl (!decide (x = .non))) H1
def tB (t : TE) : TT := fun σ H Q => t σ H fun x H1 => ∃ c, x = .bl c ∧ Q c H1
theorem pt_val {e : Expr} {t : TE} (h : PE X e t) (he : ∀ whole, isTrue e X.env whole = (do let v ← whole; standAt e.pos; holding [v] (truthy v)) := by intro _; rfl) : PT X e (tB t) := by
  intro pins s σ H Q I hw
  refine isTrue_plain (thn (h pins s σ H _ I hw) fun v s1 ⟨x, H1, I1, r1, q1⟩ => ?_) (he _)
  obtain ⟨d, rfl, q⟩ := q1
  cases r1
  exact wpAny_truthy_bool ⟨H1, I1, q⟩
variable {tA tB' : TT} {rest : List Expr}
def tAnd (t u : TT) : TT := fun σ H Q => t σ H fun c H1 => if c = true then u σ H1 Q else Q false H1
def tOr (t u : TT) : TT := fun σ H Q => t σ H fun c H1 => if c = true then Q true H1 else u σ H1 Q
def tNot (t : TT) : TT := fun σ H Q => t σ H fun c H1 => Q (!c) H1
theorem pw_and1 (ha : PT X a tA) : PW X (.BoolOp .And [a] pos) tA := by
  intro wh pins s σ H Q I h
  refine isTrue_and (thn (ha pins s σ H Q I h) fun c s1 e => ?_)
  cases c with
  | true => exact isTrue_and_nil e
  | false => exact e
theorem pw_or1 (ha : PT X a tA) : PW X (.BoolOp .Or [a] pos) tA := by
  intro wh pins s σ H Q I h
  refine isTrue_or (thn (ha pins s σ H Q I h) fun c s1 e => ?_)
  cases c with
  | false => exact isTrue_or_nil e
  | true => exact e
theorem pw_and (ha : PT X a tA) (hb : PW X (.BoolOp .And (b :: rest) pos) tB') : PW X (.BoolOp .And (a :: b :: rest) pos) (tAnd tA tB') := by
  intro wh pins s σ H Q I h
  refine isTrue_and (thn (ha pins s σ H _ I h) fun c s1 ⟨H1, I1, q1⟩ => ?_)
  cases c with
  | true => exact hb wh pins s1 σ H1 Q I1 q1
  | false => exact ⟨H1, I1, q1⟩
theorem pw_or (ha : PT X a tA) (hb : PW X (.BoolOp .Or (b :: rest) pos) tB') : PW X (.BoolOp .Or (a :: b :: rest) pos) (tOr tA tB') := by
  intro wh pins s σ H Q I h
  refine isTrue_or (thn (ha pins s σ H _ I h) fun c s1 ⟨H1, I1, q1⟩ => ?_)
  cases c with
  | true => exact ⟨H1, I1, q1⟩
  | false => exact hb wh pins s1 σ H1 Q I1 q1
theorem pt_not (ha : PT X a tA) : PT X (.UnaryOp .Not a pos) (tNot tA) := by
  intro pins s σ H Q I h
  exact isTrue_not (ha pins s σ H (fun c H1 => Q (!c) H1) I h)
def tAndV (ta tb : TE) : TE := fun σ H Q => ta σ H fun x H1 => ∃ c, x = .bl c ∧ if c = true then tb σ H1 Q else Q (.bl false) H1
def tOrV (ta tb : TE) : TE := fun σ H Q => ta σ H fun x H1 => ∃ c, x = .bl c ∧ if c = true then Q (.bl true) H1 else tb σ H1 Q
def tNotV (ta : TE) : TE := fun σ H Q => ta σ H fun x H1 => ∃ c, x = .bl c ∧ Q (.bl (!c)) H1
theorem pe_one {op} {t : TE} (h : PE X a t) : PE X (.BoolOp op [a] pos) t := fun pins s σ H Q I hw => BoolOp_one (h pins s σ H Q I hw)
theorem pe_and (ha : PE X a ta) (hb : PE X (.BoolOp .And (b :: rest) pos) tb) : PE X (.BoolOp .And (a :: b :: rest) pos) (tAndV ta tb) := by
  intro pins s σ H Q I h
  refine BoolOp_and (thn (ha pins s σ H _ I h) fun v s1 ⟨x, H1, I1, r1, q1⟩ => ?_)
  obtain ⟨c, rfl, q1⟩ := q1
  cases r1
  refine wpAny_truthy_bool ?_
  cases c with
  | true => exact hb pins s1 σ H1 Q I1 q1
  | false => exact ⟨.bl false, H1, I1, rfl, q1⟩
theorem pe_not (ha : PE X a ta) : PE X (.UnaryOp .Not a pos) (tNotV ta) := by
  intro pins s σ H Q I h
  refine UnaryOp_ (thn (ha pins s σ H _ I h) fun v s1 ⟨x, H1, I1, r1, q1⟩ => ?_)
  obtain ⟨c, rfl, q1⟩ := q1
  cases r1
  exact not_of (wpAny_truthy_bool ⟨.bl (!c), H1, I1, rfl, q1⟩)
def tIf (t : TT) (ta tb : TE) : TE := fun σ H Q => t σ H fun c H1 => if c = true then ta σ H1 Q else tb σ H1 Q
end
end L2
namespace L2
open PySem PySem.Spec PyProof.Rows
def SqL (K : PySem.W.Frag) (H : Hp) (a : Addr) (xs : List V) : Prop :=
  Rd H a (.lst xs) ∨
    ∃ (o : Obj) (its : Array Value) (n : Nat), K.lookup a = some o ∧ o.cls = .type "list" ∧ o.dict = none ∧ o.data = .seq its n ∧ its.size ≤ sizeLine ∧ Vals xs its.toList
def SqT (K : PySem.W.Frag) (H : Hp) (a : Addr) (xs : List V) : Prop :=
  Rd H a (.tup xs) ∨
    ∃ (o : Obj) (its : Array Value) (n : Nat), K.lookup a = some o ∧ o.cls = .type "tuple" ∧ o.data = .seq its n ∧ its.size ≤ sizeLine ∧ Vals xs its.toList
def absV : Value → Option V
  | .none => some .non
  | .bool b => some (.bl b)
  | .int i _ => some (.int i)
  | .str x _ => some (.str x)
  | .bytes b _ => some (.byt b)
  | .float b _ => some (.flt b)
  | .ref a => some (.ref a)
  | .type n => some (.ty n)
  | _ => none
theorem RelV.abs {x : V} {u : Value} (r : RelV x u) : absV u = some x := by
  cases x with
  | non => cases r; rfl
  | bl _ => cases r; rfl
  | int _ => obtain ⟨t, rfl⟩ := r; rfl
  | str _ => obtain ⟨t, rfl⟩ := r; rfl
  | byt _ => obtain ⟨t, rfl⟩ := r; rfl
  | flt _ => obtain ⟨t, rfl⟩ := r; rfl
  | ref _ => cases r; rfl
  | ty _ => cases r; rfl
theorem RelV.inj {x y : V} {u : Value} (r : RelV x u) (q : RelV y u) : x = y := Option.some.inj (r.abs.symm.trans q.abs)
theorem Vals.inj : ∀ {xs ys : List V} {us : List Value}, Vals xs us → Vals ys us → xs = ys
  | _, _, _, .nil, .nil => rfl
  | _, _, _, .cons r t, .cons r' t' => by rw [r.inj r', Vals.inj t t']
section
variable {X : Cx} {pins : List (Addr × Obj)} {σ : St} {H : Hp} {s : Shared} {a : Addr} {xs ys : List V}
theorem SqL.of {K : PySem.W.Frag} (h : H a = some (.lst xs)) : SqL K H a xs := .inl (.inl h)
theorem SqT.of {K : PySem.W.Frag} (h : H a = some (.tup xs)) : SqT K H a xs := .inl (.inl h)
theorem Inv.list (I : Inv X pins σ H s) (h : SqL X.K H a xs) : ∃ its : List Value, Vals xs its ∧ PlainL s.heap a its.toArray ∧ xs.length ≤ sizeLine := by
  rcases h with h | ⟨o, its, n, hk, hc, hd, hs, hz, r⟩
  · obtain ⟨z, its, n, r, e⟩ := h.ok I.hok
    exact ⟨its, r, ⟨_, n, e, rfl, rfl, rfl⟩, z⟩
  · refine ⟨its.toList, r, ⟨o, n, I.kIn a o hk, hc, hd, by simpa using hs⟩, ?_⟩
    have e := r.length
    simp only [Array.length_toList] at e
    omega
theorem Inv.tuple (I : Inv X pins σ H s) (h : SqT X.K H a xs) : ∃ its : List Value, Vals xs its ∧ IsTup s.heap a its.toArray ∧ xs.length ≤ sizeLine := by
  rcases h with h | ⟨o, its, n, hk, hc, hs, hz, r⟩
  · obtain ⟨z, its, r, p⟩ := h.ok I.hok
    exact ⟨its, r, p, z⟩
  · refine ⟨its.toList, r, ⟨o, I.kIn a o hk, hc, n, by simpa using hs⟩, ?_⟩
    have e := r.length
    simp only [Array.length_toList] at e
    omega
theorem Inv.list_inj (I : Inv X pins σ H s) (h : SqL X.K H a xs) (h' : SqL X.K H a ys) : xs = ys := by
  obtain ⟨its, r, ⟨o, n, e, _, _, d⟩, _⟩ := I.list h
  obtain ⟨its', r', ⟨o', n', e', _, _, d'⟩, _⟩ := I.list h'
  rw [e] at e'; cases e'
  rw [d] at d'
  injection d' with d1 _
  have : its = its' := by simpa using congrArg Array.toList d1
  subst this
  exact r.inj r'
theorem Inv.tuple_inj (I : Inv X pins σ H s) (h : SqT X.K H a xs) (h' : SqT X.K H a ys) : xs = ys := by
  obtain ⟨its, r, ⟨o, e, _, n, d⟩, _⟩ := I.tuple h
  obtain ⟨its', r', ⟨o', e', _, n', d'⟩, _⟩ := I.tuple h'
  rw [e] at e'; cases e'
  rw [d] at d'
  injection d' with d1 _
  have : its = its' := by simpa using congrArg Array.toList d1
  subst this
  exact r.inj r'
end
abbrev Cx.wish (X : Cx) (E : Value → Shared → Prop) : Cx := { X with xe := E }
abbrev Cx.nox (X : Cx) : Cx := X.wish fun _ _ => False
theorem Cx.Ok.wish {X : Cx} (ok : X.Ok) (E : Value → Shared → Prop) : (X.wish E).Ok :=
  ⟨ok.mod, ok.kind, ok.glob, ok.blt, ok.above, ok.inj, ok.has, ok.cab, ok.hd, ok.frames, ok.stk, ok.exf, ok.bs, ok.bsz, ok.noex, ok.exfs, ok.funs, ok.frf⟩
theorem Cx.Ok.unwish {X : Cx} {E : Value → Shared → Prop} (ok : (X.wish E).Ok) : X.Ok :=
  ⟨ok.mod, ok.kind, ok.glob, ok.blt, ok.above, ok.inj, ok.has, ok.cab, ok.hd, ok.frames, ok.stk, ok.exf, ok.bs, ok.bsz, ok.noex, ok.exfs, ok.funs, ok.frf⟩
section
variable {X : Cx} {pins : List (Addr × Obj)} {σ : St} {H : Hp} {s : Shared} {E : Value → Shared → Prop}
theorem Inv.wish (I : Inv X pins σ H s) (E : Value → Shared → Prop) : Inv (X.wish E) pins σ H s := ⟨I.ok.wish E, I.os, I.bare, I.base, I.loc, I.cell, I.free, I.freeC, I.pin, I.hok, I.len⟩
theorem Inv.unwish (I : Inv (X.wish E) pins σ H s) : Inv X pins σ H s := ⟨I.ok.unwish, I.os, I.bare, I.base, I.loc, I.cell, I.free, I.freeC, I.pin, I.hok, I.len⟩
theorem SP.unwish {D : Ends} {f : Flow} {s' : Shared} (h : SP (X.wish E) pins D f s') : SP X pins D f s' := by
  cases f with
  | next => obtain ⟨σ', H', I, q⟩ := h; exact ⟨σ', H', I.unwish, q⟩
  | brk => obtain ⟨σ', H', I, q⟩ := h; exact ⟨σ', H', I.unwish, q⟩
  | cont => obtain ⟨σ', H', I, q⟩ := h; exact ⟨σ', H', I.unwish, q⟩
  | ret u => obtain ⟨v, σ', H', I, r, q⟩ := h; exact ⟨v, σ', H', I.unwish, r, q⟩
theorem PSs.nox {st : List Stmt} {t : TS} (h : PSs X.nox st t) : PSs X st t := fun pins s σ H D I hw =>
  wpAny_mono (h pins s σ H D (I.wish _) hw) (fun _ _ q => q.unwish) fun _ _ z => False.elim z
end
section
variable {X : Cx} {st : Stmt} {rest : List Stmt} {t u : TS} {e : Expr} {te : TE} {pos : Pos}
def tNext : TS := fun D σ H => D.nx σ H
def tSeq (t u : TS) : TS := fun D σ H => t { D with nx := u D } σ H
theorem pss_nil : PSs X [] tNext := fun _ _ σ H _ I h => wpAny_execs_nil ⟨σ, H, I, h⟩
theorem pss_cons (h1 : PS X st t) (h2 : PSs X rest u) : PSs X (st :: rest) (tSeq t u) := by
  intro pins s σ H D I h
  refine wpAny_execs_cons (thn (h1 pins s σ H { D with nx := u D } I h) fun f s1 q => ?_)
  cases f with
  | next =>
    obtain ⟨σ', H', I', q⟩ := q
    exact h2 pins s1 σ' H' D I' q
  | ret v => exact q
  | brk => exact q
  | cont => exact q
theorem pss_one (h1 : PS X st t) : PSs X [st] t := by
  intro pins s σ H D I h
  refine wpAny_execs_cons (thn (h1 pins s σ H D I h) fun f s1 q => ?_)
  cases f with
  | next => exact wpAny_execs_nil q
  | ret v => exact q
  | brk => exact q
  | cont => exact q
def tBreak : TS := fun D σ H => D.bk σ H
def tCont : TS := fun D σ H => D.ct σ H
theorem Inv.quiet {pins : List (Addr × Obj)} {σ : St} {H : Hp} {s : Shared} (I : Inv X pins σ H s) : interactive X.env = false := by simp [interactive, I.ok.kind]
def tDrop (te : TE) : TS := fun D σ H => te σ H fun _ H1 => D.nx σ H1
theorem ps_expr (he : PE X e te) (hs : swapsWith e none pos.line X.env = pure false := by rfl) : PS X (.Expr e pos) (tDrop te) := by
  intro pins s σ H D I h
  exact wpAny_Expr_any (thn (he pins s σ H _ I h) fun v s1 ⟨x, H1, I1, r1, q1⟩ => ⟨σ, H1, I1, q1⟩) I.quiet hs
def tRet (te : TE) : TS := fun D σ H => te σ H D.rt
theorem ps_ret (he : PE X e te) : PS X (.Return (some e) pos) (tRet te) := by
  intro pins s σ H D I h
  exact wpAny_Return_some (thn (he pins s σ H _ I h) fun v s1 ⟨x, H1, I1, r1, q1⟩ => ⟨x, σ, H1, I1, r1, q1⟩)
def tRetN : TS := fun D _ H => D.rt .non H
def tIfS (c : TT) (t u : TS) : TS := fun D σ H => c σ H fun b H1 => if b = true then t D σ H1 else u D σ H1
theorem ps_if {c : Expr} {a b : List Stmt} {tc : TT} (hc : PT X c tc) (ha : PSs X a t) (hb : PSs X b u) : PS X (.If c a b pos) (tIfS tc t u) := by
  intro pins s σ H D I h
  refine wpAny_If (thn (hc pins s σ H _ I h) fun d s1 ⟨H1, I1, q1⟩ => ?_)
  cases d with
  | true => exact ha pins s1 σ H1 D I1 q1
  | false => exact hb pins s1 σ H1 D I1 q1
def tNever : TS := fun _ _ _ => False
end
abbrev TG := V → St → Hp → (St → Hp → Prop) → Prop
abbrev TGs := List V → St → Hp → (St → Hp → Prop) → Prop
def PG (X : Cx) (target : Expr) (t : TG) : Prop :=
  ∀ (pins : List (Addr × Obj)) (s : Shared) (σ : St) (H : Hp) (v : V) (u : Value) (Q : St → Hp → Prop), Inv X pins σ H s → RelV v u → t v σ H Q →
    wpAny (model X.prog X.w) X.A (assign target X.env u) (fun _ s' => ∃ σ' H', Inv X pins σ' H' s' ∧ Q σ' H') X.xe s
def PGs (X : Cx) (ts : List Expr) (t : TGs) : Prop :=
  ∀ (pins : List (Addr × Obj)) (s : Shared) (σ : St) (H : Hp) (vs : List V) (us : List Value) (Q : St → Hp → Prop), Inv X pins σ H s → Vals vs us → t vs σ H Q →
    wpAny (model X.prog X.w) X.A (assignInOrder ((assignEach ts X.env).map (·.2)) us) (fun _ s' => ∃ σ' H', Inv X pins σ' H' s' ∧ Q σ' H') X.xe s
abbrev TSet := V → V → V → Hp → (Hp → Prop) → Prop
def PSet (X : Cx) (t : TSet) : Prop :=
  ∀ (pins : List (Addr × Obj)) (s : Shared) (σ : St) (H : Hp) (o i v : V) (ov iv u : Value) (Q : Hp → Prop), Inv X pins σ H s → RelV o ov → RelV i iv → RelV v u → t o i v H Q →
    wpAny (model X.prog X.w) X.A (setItem ov iv u) (fun _ s' => ∃ H', Inv X pins σ H' s' ∧ Q H') X.xe s
abbrev TIp := V → V → Hp → VK → Prop
def PIp (X : Cx) (op : Operator) (t : TIp) : Prop :=
  ∀ (pins : List (Addr × Obj)) (s : Shared) (σ : St) (H : Hp) (x y : V) (v u : Value) (Q : VK), Inv X pins σ H s → RelV x v → RelV y u → t x y H Q →
    wpAny (model X.prog X.w) X.A (inplaceOp op v u) (EP X pins σ Q) X.xe s
section
variable {X : Cx} {pos : Pos}
def gName (i : Nat) : TG := fun v σ H Q => Q (σ.set i (some v)) H
theorem pg_name {i : Nat} {x : Str} (hN : X.N.Nodup) (hi : X.N[i]? = some x) (hx : Loc X.env.scope x) (hf : X.fn x = true ∨ X.env.scope.names.lookup x = some .local := by first | exact .inl rfl | exact .inr rfl | assumption) : PG X (.Name x pos) (gName i) := by
  intro pins s σ H v u Q I r h
  exact wpAny_assign_Name (store_ok I hN hi hx r (fun s' I' => ⟨_, H, I', h⟩) hf)
def gNil : TGs := fun vs σ H Q => vs = [] ∧ Q σ H
def gCons (t : TG) (u : TGs) : TGs := fun vs σ H Q => ∃ v r, vs = v :: r ∧ t v σ H fun σ' H' => u r σ' H' Q
theorem pgs_nil : PGs X [] gNil := by
  intro pins s σ H vs us Q I r h
  obtain ⟨e, h⟩ := h
  subst e
  cases r
  exact assignInOrder_nil ⟨σ, H, I, h⟩
theorem pgs_cons {e : Expr} {es : List Expr} {t : TG} {u : TGs} (h1 : PG X e t) (h2 : PGs X es u)
    (hs : (assignEach (e :: es) X.env).map (·.2) = assign e X.env :: (assignEach es X.env).map (·.2) := by rfl) : PGs X (e :: es) (gCons t u) := by
  intro pins s σ H vs us Q I r h
  obtain ⟨v, vr, e1, h⟩ := h
  subst e1
  cases r with
  | cons r rr =>
    rw [hs]
    refine assignInOrder_cons (thn (h1 pins s σ H _ _ _ I r h) fun _ s1 ⟨σ1, H1, I1, q1⟩ => ?_)
    exact h2 pins s1 σ1 H1 _ _ Q I1 rr q1
def gTup (K : PySem.W.Frag) (n : Nat) (t : TGs) : TG := fun v σ H Q => ∃ a xs, v = .ref a ∧ SqT K H a xs ∧ xs.length = n ∧ t xs σ H Q
theorem pg_tup {es : List Expr} {k : Nat} {t : TGs} {n : Nat} (hc : X.calm = true) (h : PGs X es t)
    (hn : (assignEach es X.env).length = n := by rfl) (hst : (assignEach es X.env).findIdx? (·.1) = none := by rfl) : PG X (.Tuple es k pos) (gTup X.K n t) := by
  intro pins s σ H v u Q I r hw
  obtain ⟨a, xs, e1, hq, hl, hw⟩ := hw
  subst e1
  cases r
  obtain ⟨its, rv, ht, hz⟩ := I.tuple hq
  refine assign_Tuple_tuple (I.ok.hd hc) ht (by simp [hn, ← hl, rv.length]) hst fun h' hx => ?_
  have I1 : Inv X pins σ H { s with heap := h' } := I.kept (t' := s.toks) fun b o e => hx b o (Nat.ne_of_lt (Heap.lt_size e)) e
  exact h pins _ σ H xs _ Q I1 (by simpa using rv) hw
def gSub (to ti : TE) (t : TSet) : TG := fun v σ H Q => to σ H fun o H1 => ti σ H1 fun i H2 => t o i v H2 fun H3 => Q σ H3
def tAsg (te : TE) (g : TG) : TS := fun D σ H => te σ H fun x H1 => g x σ H1 D.nx
theorem ps_set {i : Nat} {x : Str} {e : Expr} {te : TE} {pos' : Pos} (hN : X.N.Nodup) (hi : X.N[i]? = some x) (hx : Loc X.env.scope x) (he : PE X e te) (hs : swapsWith e (some (.Name x pos')) pos.line X.env = pure false := by rfl) (hf : X.fn x = true ∨ X.env.scope.names.lookup x = some .local := by first | exact .inl rfl | exact .inr rfl | assumption) :
    PS X (.Assign [.Name x pos'] e pos) (tAsg te (gName i)) := by
  intro pins s σ H D I h
  refine wpAny_Assign_Name (thn (he pins s σ H _ I h) fun v s1 ⟨y, H1, I1, r1, q1⟩ => ?_) hs
  exact store_ok I1 hN hi hx r1 (fun s2 I2 => ⟨_, H1, I2, q1⟩) hf
def tPar (i j : Nat) (ta : TA) : TS := fun D σ H => ta σ H fun vs H1 => ∃ v w, vs = [v, w] ∧ D.nx ((σ.set i (some v)).set j (some w)) H1
def tAug (i : Nat) (te : TE) (ti : TIp) : TS := fun D σ H => ∃ x, σ[i]? = some (some x) ∧ te σ H fun y H1 => ti x y H1 fun z H2 => D.nx (σ.set i (some z)) H2
theorem ps_aug {i : Nat} {x : Str} {e : Expr} {te : TE} {op : Operator} {ti : TIp} {pos' : Pos} (hN : X.N.Nodup) (hi : X.N[i]? = some x) (hx : Loc X.env.scope x) (he : PE X e te) (ho : PIp X op ti) (hf : X.fn x = true ∨ X.env.scope.names.lookup x = some .local := by first | exact .inl rfl | exact .inr rfl | assumption) :
    PS X (.AugAssign (.Name x pos') op e pos) (tAug i te ti) := by
  intro pins s σ H D I h
  obtain ⟨v, e1, h⟩ := h
  obtain ⟨m, hn, hl⟩ := I.loc
  have vis : Vis X.env.scope x := by rcases hx with k | k; exact .inl k; exact .inr (.inl k)
  obtain ⟨u, r, l⟩ := hl i x v hi e1 vis
  refine wpAny_AugAssign_Name ?_
  have go : wpAny (model X.prog X.w) X.A (eval e X.env) (fun w s₂ => wpAny (model X.prog X.w) X.A (inplaceOp op u w) (fun r s₃ => wpAny (model X.prog X.w) X.A (storeName X.env x r) (fun _ => SP X pins D .next) X.xe s₃) X.xe s₂) X.xe s := by
    refine thn (he pins s σ H _ I h) fun w s1 ⟨y, H1, I1, r1, q1⟩ => ?_
    refine thn (ho pins s1 σ H1 v y u w _ I1 r r1 q1) fun z s2 ⟨zv, H2, I2, r2, q2⟩ => ?_
    exact store_ok I2 hN hi hx r2 (fun s3 I3 => ⟨_, H2, I3, q2⟩) hf
  rcases l with ⟨hk, hm⟩ | ⟨hk, c, hc, hcell⟩
  · exact wpAny_loadName_local I.ok.kind hk hn hm go
  · rcases hk with hk | hk
    · exact wpAny_loadName_cell I.ok.kind hk hc hcell go
    · rcases hx with k | k
      · have : X.env.scope.names.lookup x = some .free := hk
        rw [k] at this; cases this
      · have : X.env.scope.names.lookup x = some .free := hk
        rw [k] at this; cases this
def tAugS (to ti te : TE) (tget : V → V → Hp → VK → Prop) (tip : TIp) (tset : TSet) : TS := fun D σ H => to σ H fun o H1 => ti σ H1 fun i H2 => tget o i H2 fun x H3 => te σ H3 fun y H4 => tip x y H4 fun z H5 => tset o i z H5 fun H6 => D.nx σ H6
def PGet (X : Cx) (t : V → V → Hp → VK → Prop) : Prop :=
  ∀ (pins : List (Addr × Obj)) (s : Shared) (σ : St) (H : Hp) (o i : V) (ov iv : Value) (Q : VK), Inv X pins σ H s → RelV o ov → RelV i iv → t o i H Q →
    wpAny (model X.prog X.w) X.A (getItem ov iv) (EP X pins σ Q) X.xe s
def ipI (f : Int → Int → Int) : TIp := fun x y H Q => ∃ i j, x = .int i ∧ y = .int j ∧ Q (.int (f i j)) H
theorem ip_add : PIp X .Add (ipI fun i j => i + j) := by
  intro pins s σ H x y v u Q I r1 r2 h
  obtain ⟨i, j, e1, e2, q⟩ := h
  subst e1; subst e2
  obtain ⟨t, rfl⟩ := r1
  obtain ⟨t', rfl⟩ := r2
  exact iadd_int ⟨.int _, H, I.tok _, ⟨_, rfl⟩, q⟩
end
section
variable {X : Cx} {pos : Pos}
def tWhile (c : TT) (tb : TS) : TS := fun D σ H => ∃ W : Nat → St → Hp → Prop, (∃ m, W m σ H) ∧ ∀ m σ H, W m σ H →
  c σ H fun b H1 => if b = true then ∃ N : St → Hp → Prop, (∀ σ' H', N σ' H' → ∃ m', m' < m ∧ W m' σ' H') ∧ tb { D with nx := N, ct := N, bk := D.nx } σ H1 else D.nx σ H1
end
structure It where
  go : Nat → Hp → Prop
  yld : Nat → Hp → V → Hp → Prop
  stop : Nat → Hp → Prop
def FpOk (X : Cx) (pins : List (Addr × Obj)) (H : Hp) (b : Addr) : Prop :=
  H b = none ∧ b ≠ X.env.locals ∧ b ∉ X.fs ∧ (b ∈ X.ex ∨ X.s₀.heap.objs.size ≤ b) ∧ (∀ x c, X.env.cells.lookup x = some c → c ≠ b) ∧ ∀ p ∈ X.pn ++ pins, p.1 ≠ b
theorem Inv.fpOk {X : Cx} {pins : List (Addr × Obj)} {σ : St} {H H' : Hp} {s : Shared} {b : Addr} (I : Inv X pins σ H s) (hb : s.heap.objs.size ≤ b) (hn : H' b = none) : FpOk X pins H' b := by
  refine ⟨hn, Nat.ne_of_gt (Nat.lt_of_lt_of_le I.lt hb), I.nofs hb, .inr (Nat.le_trans I.sz hb), fun x c e z => ?_, fun p hp z => ?_⟩
  · obtain ⟨v, q⟩ := I.cell x c e
    exact absurd (Nat.lt_of_lt_of_le q.lt (by rw [z]; exact hb)) (Nat.lt_irrefl _)
  · exact absurd (Nat.lt_of_lt_of_le (Heap.lt_size (I.pin p hp).1) (by rw [z]; exact hb)) (Nat.lt_irrefl _)
structure Turn (P : Program) (w : World) (K : PySem.W.Frag) (tg : Expr) (J : It) (fp : List Addr) (it : Addr) (tn : Nat → Heap → Prop) : Prop where
  mem : it ∈ fp
  obj : ∀ i h, tn i h → ∀ b ∈ fp, ∃ o, h.get? b = some o ∧ ∀ v, o.data ≠ .cell v
  keep : ∀ i h h', tn i h → (∀ b ∈ fp, ∀ o, h.get? b = some o → h'.get? b = some o) → tn i h'
  item : ∀ (X : Cx), X.prog = P → X.w = w → X.K = K → X.calm = true → ∀ (i : Nat) (pins : List (Addr × Obj)) (s : Shared) (σ : St) (H : Hp) (E : Value → Shared → Prop), Inv X pins σ H s → (∀ b ∈ fp, FpOk X pins H b) → tn i s.heap → J.go i H →
    wpAny (model P w) X.A (pyNext (.ref it)) (fun r s1 => ∃ u, r = some u ∧
      wpAny (model P w) X.A (letOwnedTupleGo tg (.ref it) u) (fun _ s2 => ∃ x H', Inv X pins σ H' s2 ∧ RelV x u ∧ J.yld i H x H' ∧ tn (i + 1) s2.heap ∧ ∀ b ∈ fp, H' b = none) E s1) E s
  done : ∀ (X : Cx), X.prog = P → X.w = w → X.K = K → X.calm = true → ∀ (i : Nat) (pins : List (Addr × Obj)) (s : Shared) (σ : St) (H : Hp) (E : Value → Shared → Prop), Inv X pins σ H s → (∀ b ∈ fp, FpOk X pins H b) → tn i s.heap → J.stop i H →
    wpAny (model P w) X.A (pyNext (.ref it)) (fun r s1 => r = none ∧ Inv X pins σ H s1) E s
  self : ∀ (A : Around) (i : Nat) (s : Shared) (Q : Value → Shared → Prop) (E : Value → Shared → Prop), tn i s.heap → Q (.ref it) s → wpAny (model P w) A (pyIter (.ref it)) Q E s
abbrev TI := St → Hp → (It → Hp → Prop) → Prop
def PIE (X : Cx) (pins : List (Addr × Obj)) (σ : St) (tg : Expr) (R : It → Hp → Prop) (itv : Value) (s2 : Shared) : Prop :=
  ∃ (it : Addr) (fp : List Addr) (tn : Nat → Heap → Prop) (J : It) (H' : Hp), itv = .ref it ∧ Inv X pins σ H' s2 ∧ Turn X.prog X.w X.K tg J fp it tn ∧ tn 0 s2.heap ∧ (∀ b ∈ fp, FpOk X pins H' b) ∧ R J H'
def PI (X : Cx) (tg iter : Expr) (wi : TI) : Prop :=
  ∀ (pins : List (Addr × Obj)) (s : Shared) (σ : St) (H : Hp) (R : It → Hp → Prop), Inv X pins σ H s → wi σ H R →
    wpAny (model X.prog X.w) X.A (eval iter X.env) (fun v s1 => wpAny (model X.prog X.w) X.A (pyIter v) (PIE X pins σ tg R) X.xe s1) X.xe s
theorem go_of {M : Model} {A : Around} {E : Value → Shared → Prop} {s : Shared} {tg : Expr} {it : Addr} {u : Value} {o : Obj} {n : String} {vs : Array Value} {Q : Unit → Shared → Prop} (ho : s.heap.get? it = some o) (hc : o.cls = .type n) (hd : o.data = .fields vs)
    (hn : ["enumerate", "zip", "dict_itemiterator", "dict_reverseitemiterator", "odict_iterator", "itertools.zip_longest", "itertools.pairwise"].contains n = false) (hQ : Q () s) : wpAny M A (letOwnedTupleGo tg (.ref it) u) Q E s := by
  unfold letOwnedTupleGo
  cases tg <;> first
    | exact wpAny_pure hQ
    | (cases u <;> first
        | exact wpAny_pure hQ
        | (refine wpAny_bind (wpAny_load ho ?_)
           rw [hc, hd]
           show wpAny M A (if (["enumerate", "zip", "dict_itemiterator", "dict_reverseitemiterator", "odict_iterator", "itertools.zip_longest", "itertools.pairwise"].contains n && vs[0]? == some (rawInt _)) = true then _ else _) Q E s
           rw [if_neg (by intro h; rw [hn, Bool.false_and] at h; cases h)]
           exact wpAny_pure hQ))
def Itl (K : PySem.W.Frag) (a : Addr) : It :=
  ⟨fun i H => ∃ xs x, SqL K H a xs ∧ xs[i]? = some x, fun i H x H' => H' = H ∧ ∀ xs, SqL K H a xs → xs[i]? = some x, fun i H => ∃ xs, SqL K H a xs ∧ xs.length ≤ i⟩
def Itt (K : PySem.W.Frag) (a : Addr) : It :=
  ⟨fun i H => ∃ xs x, SqT K H a xs ∧ xs[i]? = some x, fun i H x H' => H' = H ∧ ∀ xs, SqT K H a xs → xs[i]? = some x, fun i H => ∃ xs, SqT K H a xs ∧ xs.length ≤ i⟩
def Itr (lo : Int) (n : Nat) : It := ⟨fun i _ => i < n, fun i H x H' => H' = H ∧ x = .int (lo + i), fun i _ => n ≤ i⟩
theorem turn_list {P : Program} {w : World} {K : PySem.W.Frag} {tg : Expr} (a it : Addr) : Turn P w K tg (Itl K a) [it] it (fun i h => h.IsListIter it a i) where
  mem := by simp
  obj := fun i h st b hb => by
    have e : b = it := by simpa using hb
    subst e
    obtain ⟨o, e, c, d⟩ := st
    exact ⟨o, e, fun v z => by rw [d] at z; cases z⟩
  keep := fun i h h' st k => st.at fun o e => k it (by simp) o e
  item := by
    intro X hP hw hK hc i pins s σ H E I hf st hg
    subst hP hw hK
    obtain ⟨xs, x, hq, hx⟩ := hg
    obtain ⟨its, rv, p, hz⟩ := I.list hq
    obtain ⟨u, hu, ru⟩ := rv.get hx
    obtain ⟨f0, f1, f2, f3, f4, f5⟩ := hf it (by simp)
    refine wpAny_pyNext_list_item st p.isList (x := u) (by simpa using hu) fun h' st' sb => ?_
    have I1 : Inv X pins σ H { s with heap := h' } := I.turned (t' := s.toks) (fun b o hb e => (sb.2 b hb).trans e) f0 f1 f3 f4 f5
    obtain ⟨o, e, c, d⟩ := id st'
    exact ⟨u, rfl, go_of (s := { s with heap := h' }) e c d (by decide) ⟨x, H, I1, ru, ⟨rfl, fun ys hy => by rw [I.list_inj hy hq]; exact hx⟩, st', fun b hb => (hf b hb).1⟩⟩
  done := by
    intro X hP hw hK hc i pins s σ H E I hf st hg
    subst hP hw hK
    obtain ⟨xs, hq, hx⟩ := hg
    obtain ⟨its, rv, p, hz⟩ := I.list hq
    obtain ⟨f0, f1, f2, f3, f4, f5⟩ := hf it (by simp)
    have hl := rv.length
    exact wpAny_pyNext_list_end (I.ok.hd hc) st p.isList (by simp; omega) fun h' eb => ⟨rfl, I.turned (t' := s.toks) (fun b o hb e => eb b o hb e) f0 f1 f3 f4 f5⟩
  self := fun _ _ _ _ _ st h => wpAny_pyIter_listiter st h
theorem turn_tuple {P : Program} {w : World} {K : PySem.W.Frag} {tg : Expr} (a it : Addr) : Turn P w K tg (Itt K a) [it] it (fun i h => h.IsTupleIter it a i) where
  mem := by simp
  obj := fun i h st b hb => by
    have e : b = it := by simpa using hb
    subst e
    obtain ⟨o, e, c, d⟩ := st
    exact ⟨o, e, fun v z => by rw [d] at z; cases z⟩
  keep := fun i h h' st k => st.at fun o e => k it (by simp) o e
  item := by
    intro X hP hw hK hc i pins s σ H E I hf st hg
    subst hP hw hK
    obtain ⟨xs, x, hq, hx⟩ := hg
    obtain ⟨its, rv, p, hz⟩ := I.tuple hq
    obtain ⟨u, hu, ru⟩ := rv.get hx
    obtain ⟨f0, f1, f2, f3, f4, f5⟩ := hf it (by simp)
    refine wpAny_pyNext_tuple_item st (show s.heap.IsTuple a its.toArray from p) (x := u) (by simpa using hu) fun h' st' sb => ?_
    have I1 : Inv X pins σ H { s with heap := h' } := I.turned (t' := s.toks) (fun b o hb e => (sb.2 b hb).trans e) f0 f1 f3 f4 f5
    obtain ⟨o, e, c, d⟩ := id st'
    exact ⟨u, rfl, go_of (s := { s with heap := h' }) e c d (by decide) ⟨x, H, I1, ru, ⟨rfl, fun ys hy => by rw [I.tuple_inj hy hq]; exact hx⟩, st', fun b hb => (hf b hb).1⟩⟩
  done := by
    intro X hP hw hK hc i pins s σ H E I hf st hg
    subst hP hw hK
    obtain ⟨xs, hq, hx⟩ := hg
    obtain ⟨its, rv, p, hz⟩ := I.tuple hq
    obtain ⟨f0, f1, f2, f3, f4, f5⟩ := hf it (by simp)
    have hl := rv.length
    exact wpAny_pyNext_tuple_end (I.ok.hd hc) st (show s.heap.IsTuple a its.toArray from p) (by simp; omega) fun h' eb => ⟨rfl, I.turned (t' := s.toks) (fun b o hb e => eb b o hb e) f0 f1 f3 f4 f5⟩
  self := fun _ _ _ _ _ st h => wpAny_pyIter_tupleiter st h
theorem turn_range {P : Program} {w : World} {K : PySem.W.Frag} {tg : Expr} (it : Addr) (lo : Int) (n : Nat) : Turn P w K tg (Itr lo n) [it] it (fun i h => IsRangeIter h it (lo + (i : Nat) * 1) ((n : Int) - (i : Nat)) 1) where
  mem := by simp
  obj := fun i h st b hb => by
    have e : b = it := by simpa using hb
    subst e
    exact ⟨_, st, fun v z => by
      have z' : Data.fields _ = Data.cell v := z
      cases z'⟩
  keep := fun i h h' st k => k it (by simp) _ st
  item := by
    intro X hP hw hK hc i pins s σ H E I hf st hg
    subst hP hw hK
    obtain ⟨f0, f1, f2, f3, f4, f5⟩ := hf it (by simp)
    have W := Walks.range (prog := X.prog) (w := X.w) (I.ok.hd hc) it lo 1 n
    refine W.item i s _ _ hg st fun v h' tk hv st' kk => ?_
    obtain ⟨t, rfl⟩ := hv
    have I1 : Inv X pins σ H { s with heap := h', toks := tk } := I.turned (fun b o hb e => kk b o (by simpa using hb) e) f0 f1 f3 f4 f5
    refine ⟨_, rfl, go_of (s := { s with heap := h', toks := tk }) (n := "range_iterator") st' rfl rfl (by decide) ⟨.int (lo + i), H, I1, ⟨t, ?_⟩, ⟨rfl, rfl⟩, st', fun b hb => (hf b hb).1⟩⟩
    rw [Int.mul_one]
  done := by
    intro X hP hw hK hc i pins s σ H E I hf st hg
    subst hP hw hK
    obtain ⟨f0, f1, f2, f3, f4, f5⟩ := hf it (by simp)
    exact wpAny_pyNext_range_end (I.ok.hd hc) st (by have : n ≤ i := hg; omega) fun h' eb => ⟨rfl, I.turned (t' := s.toks) (fun b o hb e => eb b o hb e) f0 f1 f3 f4 f5⟩
  self := fun _ _ _ _ _ st h => wpAny_pyIter_rangeiter st h
end L2
namespace L2
open PySem PySem.Spec PyProof.Rows
section
variable {X : Cx} {tg : Expr}
def iList (K : PySem.W.Frag) (tl : TE) : TI := fun σ H R => tl σ H fun x H1 => ∃ a, x = .ref a ∧ (∃ xs, SqL K H1 a xs) ∧ R (Itl K a) H1
def iTup (K : PySem.W.Frag) (tl : TE) : TI := fun σ H R => tl σ H fun x H1 => ∃ a, x = .ref a ∧ (∃ xs, SqT K H1 a xs) ∧ R (Itt K a) H1
theorem pi_list {l : Expr} {tl : TE} (hl : PE X l tl) : PI X tg l (iList X.K tl) := by
  intro pins s σ H R I h
  refine thn (hl pins s σ H _ I h) fun v s1 ⟨x, H1, I1, r1, q1⟩ => ?_
  obtain ⟨a, e, ⟨xs, hq⟩, q⟩ := q1
  subst e
  cases r1
  obtain ⟨its, rv, p, hz⟩ := I1.list hq
  refine wpAny_pyIter_list p.isList ?_
  refine ⟨s1.heap.objs.size, [s1.heap.objs.size], _, _, H1, rfl, I1.kept (t' := s1.toks) fun b o e => Heap.get?_push_of_some _ e, turn_list a _, ⟨_, Heap.get?_push_size _ rfl, rfl, rfl⟩, fun b hb => ?_, q⟩
  have e : b = s1.heap.objs.size := by simpa using hb
  subst e
  exact I1.fpOk (Nat.le_refl _) (I1.hok.fresh (Nat.le_refl _))
theorem pi_tup {l : Expr} {tl : TE} (hl : PE X l tl) : PI X tg l (iTup X.K tl) := by
  intro pins s σ H R I h
  refine thn (hl pins s σ H _ I h) fun v s1 ⟨x, H1, I1, r1, q1⟩ => ?_
  obtain ⟨a, e, ⟨xs, hq⟩, q⟩ := q1
  subst e
  cases r1
  obtain ⟨its, rv, p, hz⟩ := I1.tuple hq
  refine wpAny_pyIter_tuple (show s1.heap.IsTuple a its.toArray from p) ?_
  refine ⟨s1.heap.objs.size, [s1.heap.objs.size], _, _, H1, rfl, I1.kept (t' := s1.toks) fun b o e => Heap.get?_push_of_some _ e, turn_tuple a _, ⟨_, Heap.get?_push_size _ rfl, rfl, rfl⟩, fun b hb => ?_, q⟩
  have e : b = s1.heap.objs.size := by simpa using hb
  subst e
  exact I1.fpOk (Nat.le_refl _) (I1.hok.fresh (Nat.le_refl _))
theorem range_it {pins : List (Addr × Obj)} {σ : St} {H : Hp} {s : Shared} {R : It → Hp → Prop} {E : Value → Shared → Prop} {lo hi : Int} {t u v : Tok} {tk : Nat} (I : Inv X pins σ H s) (h1 : -(2 ^ 62) ≤ lo) (h2 : lo < 2 ^ 62) (h3 : -(2 ^ 62) ≤ hi) (h4 : hi < 2 ^ 62)
    (q : R (Itr lo (hi - lo).toNat) H) : wpAny (model X.prog X.w) X.A (pyIter (.ref s.heap.objs.size)) (PIE X pins σ tg R) E { s with heap := s.heap.push { cls := .type "range", data := .fields #[.int lo t, .int hi u, .int 1 v] }, toks := tk } := by
  refine wpAny_pyIter_range (IsRange.new ..) (small_one h1 h2 h3 h4) ?_
  have I1 : Inv X pins σ H { s with heap := s.heap.push { cls := .type "range", data := .fields #[.int lo t, .int hi u, .int 1 v] }, toks := tk } := I.kept fun b o e => Heap.get?_push_of_some _ e
  refine ⟨(s.heap.push { cls := .type "range", data := .fields #[.int lo t, .int hi u, .int 1 v] }).objs.size, [(s.heap.push { cls := .type "range", data := .fields #[.int lo t, .int hi u, .int 1 v] }).objs.size], _, _, H, rfl,
    I1.kept (t' := tk) fun b o e => Heap.get?_push_of_some _ e, turn_range _ lo (hi - lo).toNat, ?_, fun b hb => ?_, q⟩
  · have e1 : lo + ((0 : Nat) : Int) * 1 = lo := by simp
    have e2 : (((hi - lo).toNat : Nat) : Int) - ((0 : Nat) : Int) = Builtin.Range.rangeSize lo hi 1 := by rw [rangeSize_one]; split <;> omega
    show IsRangeIter _ _ (lo + ((0 : Nat) : Int) * 1) ((((hi - lo).toNat : Nat) : Int) - ((0 : Nat) : Int)) 1
    rw [e1, e2]
    exact Heap.get?_push_size _ rfl
  · have e : b = (s.heap.push { cls := .type "range", data := .fields #[.int lo t, .int hi u, .int 1 v] }).objs.size := by simpa using hb
    subst e
    exact I1.fpOk (Nat.le_refl _) (I1.hok.fresh (Nat.le_refl _))
def iRng1 (ta : TA) : TI := fun σ H R => ta σ H fun vs H1 => ∃ j : Int, vs = [.int j] ∧ -(2 ^ 62) ≤ j ∧ j < 2 ^ 62 ∧ R (Itr 0 j.toNat) H1
def iRng2 (ta : TA) : TI := fun σ H R => ta σ H fun vs H1 => ∃ i j : Int, vs = [.int i, .int j] ∧ (-(2 ^ 62) ≤ i ∧ i < 2 ^ 62 ∧ -(2 ^ 62) ≤ j ∧ j < 2 ^ 62) ∧ R (Itr i (j - i).toNat) H1
theorem pi_range1 {a : Expr} {ta : TA} {p pos : Pos} (hg : Gl X "range") (hm : X.mg "range" = none) (ha : PA X [a] ta) (hs : starEach [a] X.env = [(false, eval a X.env)] := by rfl) : PI X tg (.Call (.Name "range" p) [a] [] pos) (iRng1 ta) := by
  intro pins s σ H R I h
  refine Call_ (ld_blt I hg hm boot_range (PyProof.Rows.callWith_type1 (thn (ha pos pins s σ H _ I h) fun us s1 ⟨vs, H1, I1, r1, q1⟩ => ?_) hs rfl))
  obtain ⟨j, e, q1, q2, q⟩ := q1
  subst e
  cases r1 with
  | cons r rr =>
    cases rr
    obtain ⟨t, rfl⟩ := r
    exact call_range_1 (range_it I1 (by omega) (by omega) q1 q2 (by simpa using q))
def tFor (wi : TI) (g : TG) (tb : TS) : TS := fun D σ H => wi σ H fun J H1 => ∃ W : Nat → Nat → St → Hp → Prop, (∃ m, W 0 m σ H1) ∧ ∀ i m σ H, W i m σ H →
  (J.stop i H ∧ D.nx σ H) ∨ (J.go i H ∧ ∃ N : St → Hp → Prop, (∀ σ' H', N σ' H' → ∃ m', m' < m ∧ W (i + 1) m' σ' H') ∧ ∀ x H', J.yld i H x H' → g x σ H' fun σ2 H2 => tb { D with nx := N, ct := N, bk := D.nx } σ2 H2)
def pinsAt (fp : List Addr) (h : Heap) : List (Addr × Obj) := fp.filterMap fun b => (h.get? b).map fun o => (b, o)
theorem mem_pinsAt {fp : List Addr} {h : Heap} {b : Addr} {o : Obj} (hb : b ∈ fp) (e : h.get? b = some o) : (b, o) ∈ pinsAt fp h := List.mem_filterMap.mpr ⟨b, hb, by rw [e]; rfl⟩
theorem of_pinsAt {fp : List Addr} {h : Heap} {p : Addr × Obj} (hp : p ∈ pinsAt fp h) : p.1 ∈ fp ∧ h.get? p.1 = some p.2 := by
  obtain ⟨b, hb, e⟩ := List.mem_filterMap.mp hp
  cases q : h.get? b with
  | none => rw [q] at e; cases e
  | some o =>
    rw [q] at e
    have e' : (b, o) = p := Option.some.inj e
    subst e'
    exact ⟨hb, q⟩
theorem Inv.pinned {pins : List (Addr × Obj)} {σ : St} {H : Hp} {s : Shared} {fp : List Addr} (I : Inv X pins σ H s) (hf : ∀ b ∈ fp, FpOk X pins H b) (ho : ∀ b ∈ fp, ∃ o, s.heap.get? b = some o ∧ ∀ v, o.data ≠ .cell v) : Inv X (pins ++ pinsAt fp s.heap) σ H s :=
  I.pins_of fun p hp => (List.mem_append.mp hp).elim (fun z => I.pin p (List.mem_append_right _ z)) fun z => by
    obtain ⟨hb, e⟩ := of_pinsAt z
    obtain ⟨f0, f1, f2, _⟩ := hf p.1 hb
    obtain ⟨o, e', d⟩ := ho p.1 hb
    rw [e] at e'; cases e'
    exact ⟨e, f0, f1, f2, d⟩
theorem Inv.unpinned {pins pl : List (Addr × Obj)} {σ : St} {H : Hp} {s : Shared} (I : Inv X (pins ++ pl) σ H s) : Inv X pins σ H s := I.pins_of fun p hp => I.pin p (List.mem_append_right _ (List.mem_append_left _ hp))
theorem ps_for {iter : Expr} {body : List Stmt} {wi : TI} {g : TG} {tb : TS} {pos : Pos} (hp : PassesOwn (model X.prog X.w) X.A X.env X.xe) (hc : X.calm = true) (hi : PI X tg iter wi) (hg : PG X tg g) (hb : PSs X body tb)
    (hs : ∀ x, foldedSetIterable iter X.env x = pure x := by intro _; rfl) : PS X (.For tg iter body [] pos) (tFor wi g tb) := by
  intro pins s σ H D I h
  refine wpAny_For (thn (hi pins s σ H _ I h) fun v s1 h1 => thn h1 fun itv s2 h2 => ?_) hs
  obtain ⟨it, fp, tn, J, H2, e, I2, T, st2, f2, W, ⟨m0, w0⟩, turn⟩ := h2
  subst e
  have stat : ∀ {H' : Hp}, (∀ b ∈ fp, H' b = none) → ∀ b ∈ fp, FpOk X pins H' b := fun hn b hb => ⟨hn b hb, (f2 b hb).2⟩
  refine codeAny_forLoop_any (fun n s' => ∃ i σ' H', Inv X pins σ' H' s' ∧ tn i s'.heap ∧ (∀ b ∈ fp, H' b = none) ∧ W i n σ' H') ?_ m0 ⟨0, σ, H2, I2, st2, fun b hb => (f2 b hb).1, w0⟩
  rintro n s3 ⟨i, σ3, H3, I3, st3, fr3, w3⟩
  rcases turn i n σ3 H3 w3 with ⟨stop, qn⟩ | ⟨go, N, hN, step⟩
  · refine wpAny_passesOwn hp (thn (T.done X rfl rfl rfl hc i pins s3 σ3 H3 X.xe I3 (stat fr3) st3 stop) fun r s4 ⟨hr, I4⟩ => ?_)
    subst hr
    exact wpAny_execs_nil ⟨σ3, H3, I4, qn⟩
  · refine wpAny_passesOwn hp (thn (T.item X rfl rfl rfl hc i pins s3 σ3 H3 X.xe I3 (stat fr3) st3 go) fun r s4 ⟨u, hr, h4⟩ => ?_)
    subst hr
    refine wpAny_passesOwn hp (thn h4 fun _ s5 ⟨x, H5, I5, r5, y5, st5, fr5⟩ => ?_)
    have I5' := I5.pinned (stat fr5) (T.obj _ _ st5)
    refine wpAny_passesOwn hp (thn (hg _ s5 σ3 H5 x u _ I5' r5 (step x H5 y5)) fun _ s6 ⟨σ6, H6, I6, q6⟩ => ?_)
    refine wpAny_passesOwn hp (thn (hb _ s6 σ6 H6 _ I6 q6) fun f s7 q7 => ?_)
    have again : ∀ {σ7 : St} {H7 : Hp}, Inv X (pins ++ pinsAt fp s5.heap) σ7 H7 s7 → N σ7 H7 → ∃ m, m < n ∧ ∃ i σ' H', Inv X pins σ' H' s7 ∧ tn i s7.heap ∧ (∀ b ∈ fp, H' b = none) ∧ W i m σ' H' := fun {σ7 H7} I7 n7 => by
      obtain ⟨m', hm, w7⟩ := hN σ7 H7 n7
      refine ⟨m', hm, i + 1, σ7, H7, I7.unpinned, T.keep _ _ _ st5 fun b hb o e => (I7.pin (b, o) (List.mem_append_right _ (List.mem_append_right _ (mem_pinsAt hb e)))).1, fun b hb => ?_, w7⟩
      obtain ⟨o, e, d⟩ := T.obj _ _ st5 b hb
      exact (I7.pin (b, o) (List.mem_append_right _ (List.mem_append_right _ (mem_pinsAt hb e)))).2.1
    cases f with
    | next => obtain ⟨σ7, H7, I7, n7⟩ := q7; exact again I7 n7
    | cont => obtain ⟨σ7, H7, I7, n7⟩ := q7; exact again I7 n7
    | brk => obtain ⟨σ7, H7, I7, q7⟩ := q7; exact ⟨σ7, H7, I7.unpinned, q7⟩
    | ret v => obtain ⟨x7, σ7, H7, I7, r7, q7⟩ := q7; exact ⟨x7, σ7, H7, I7.unpinned, r7, q7⟩
end
theorem for_list {K : PySem.W.Frag} {a : Addr} {xs : List V} {g : TG} {tb : TS} {D : Ends} {σ : St} {H : Hp} (Pv : Nat → St → Hp → Prop) (h0 : Pv 0 σ H) (hl : ∀ i σ H, i ≤ xs.length → Pv i σ H → SqL K H a xs)
    (hs : ∀ i x σ H, xs[i]? = some x → Pv i σ H → g x σ H fun σ2 H2 => tb { D with nx := Pv (i + 1), ct := Pv (i + 1), bk := D.nx } σ2 H2) (hd : ∀ σ H, Pv xs.length σ H → D.nx σ H) :
    ∃ W : Nat → Nat → St → Hp → Prop, (∃ m, W 0 m σ H) ∧ ∀ i m σ H, W i m σ H →
      ((Itl K a).stop i H ∧ D.nx σ H) ∨ ((Itl K a).go i H ∧ ∃ N : St → Hp → Prop, (∀ σ' H', N σ' H' → ∃ m', m' < m ∧ W (i + 1) m' σ' H') ∧ ∀ x H', (Itl K a).yld i H x H' → g x σ H' fun σ2 H2 => tb { D with nx := N, ct := N, bk := D.nx } σ2 H2) := by
  refine ⟨fun i m σ H => m = xs.length - i ∧ i ≤ xs.length ∧ Pv i σ H, ⟨xs.length, by simp, Nat.zero_le _, h0⟩, ?_⟩
  rintro i m σ H ⟨rfl, hi, p⟩
  have q := hl i σ H hi p
  by_cases hlt : i < xs.length
  · refine .inr ⟨⟨xs, xs[i], q, by simp [hlt]⟩, Pv (i + 1), fun σ' H' p' => ⟨xs.length - (i + 1), by omega, rfl, hlt, p'⟩, fun x H' y => ?_⟩
    obtain ⟨e, y⟩ := y
    subst e
    exact hs i x σ _ (y xs q) p
  · have e : i = xs.length := by omega
    subst e
    exact .inl ⟨⟨xs, q, Nat.le_refl _⟩, hd σ H p⟩
theorem for_range {lo : Int} {n : Nat} {g : TG} {tb : TS} {D : Ends} {σ : St} {H : Hp} (Pv : Nat → St → Hp → Prop) (h0 : Pv 0 σ H)
    (hs : ∀ i σ H, i < n → Pv i σ H → g (.int (lo + i)) σ H fun σ2 H2 => tb { D with nx := Pv (i + 1), ct := Pv (i + 1), bk := D.nx } σ2 H2) (hd : ∀ σ H, Pv n σ H → D.nx σ H) :
    ∃ W : Nat → Nat → St → Hp → Prop, (∃ m, W 0 m σ H) ∧ ∀ i m σ H, W i m σ H →
      ((Itr lo n).stop i H ∧ D.nx σ H) ∨ ((Itr lo n).go i H ∧ ∃ N : St → Hp → Prop, (∀ σ' H', N σ' H' → ∃ m', m' < m ∧ W (i + 1) m' σ' H') ∧ ∀ x H', (Itr lo n).yld i H x H' → g x σ H' fun σ2 H2 => tb { D with nx := N, ct := N, bk := D.nx } σ2 H2) := by
  refine ⟨fun i m σ H => m = n - i ∧ i ≤ n ∧ Pv i σ H, ⟨n, by simp, Nat.zero_le _, h0⟩, ?_⟩
  rintro i m σ H ⟨rfl, hi, p⟩
  by_cases hlt : i < n
  · refine .inr ⟨hlt, Pv (i + 1), fun σ' H' p' => ⟨n - (i + 1), by omega, rfl, hlt, p'⟩, fun x H' y => ?_⟩
    obtain ⟨e, y⟩ := y
    subst e y
    exact hs i σ _ hlt p
  · have e : i = n := by omega
    subst e
    exact .inl ⟨Nat.le_refl _, hd σ H p⟩
end L2
namespace L2
open PySem PySem.Spec PyProof.Rows
abbrev R2 := V → V → Hp → VK → Prop
def OpR (X : Cx) (f : Value → Value → Sem Value) (r : R2) : Prop :=
  ∀ (pins : List (Addr × Obj)) (s : Shared) (σ : St) (H : Hp) (x y : V) (v u : Value) (Q : VK), Inv X pins σ H s → RelV x v → RelV y u → r x y H Q →
    wpAny (model X.prog X.w) X.A (f v u) (EP X pins σ Q) X.xe s
def UnR (X : Cx) (f : Value → Sem Value) (r : V → Hp → VK → Prop) : Prop :=
  ∀ (pins : List (Addr × Obj)) (s : Shared) (σ : St) (H : Hp) (x : V) (v : Value) (Q : VK), Inv X pins σ H s → RelV x v → r x H Q →
    wpAny (model X.prog X.w) X.A (f v) (EP X pins σ Q) X.xe s
def CallR (X : Cx) (f : Value) (r : List V → Hp → VK → Prop) : Prop :=
  ∀ (pins : List (Addr × Obj)) (s : Shared) (σ : St) (H : Hp) (xs : List V) (us : List Value) (Q : VK), Inv X pins σ H s → Vals xs us → r xs H Q →
    wpAny (model X.prog X.w) X.A (call f us) (EP X pins σ Q) X.xe s
def TruR (X : Cx) (r : V → Hp → (Bool → Hp → Prop) → Prop) : Prop :=
  ∀ (pins : List (Addr × Obj)) (s : Shared) (σ : St) (H : Hp) (x : V) (v : Value) (Q : Bool → Hp → Prop), Inv X pins σ H s → RelV x v → r x H Q →
    wpAny (model X.prog X.w) X.A (truthy v) (TP X pins σ Q) X.xe s
def tOp (r : R2) (ta tb : TE) : TE := fun σ H Q => ta σ H fun x H1 => tb σ H1 fun y H2 => r x y H2 Q
def tUn (r : V → Hp → VK → Prop) (ta : TE) : TE := fun σ H Q => ta σ H fun x H1 => r x H1 Q
def rI (C : Int → Int → Prop) (g : Int → Int → V) : R2 := fun x y H Q => ∃ i j, x = .int i ∧ y = .int j ∧ C i j ∧ Q (g i j) H
def rI0 (g : Int → Int → V) : R2 := fun x y H Q => ∃ i j, x = .int i ∧ y = .int j ∧ Q (g i j) H
def rU (g : Int → V) : V → Hp → VK → Prop := fun x H Q => ∃ i, x = .int i ∧ Q (g i) H
section
variable {X : Cx} {a b c : Expr} {ta tb tc : TE} {pos : Pos}
theorem binT (ha : PE X a ta) (hb : PE X b tb) {pins : List (Addr × Obj)} {s : Shared} {σ : St} {H : Hp} {R : V → V → Hp → Prop} (I : Inv X pins σ H s)
    (h : ta σ H fun x H1 => tb σ H1 fun y H2 => R x y H2) {Q : Value → Shared → Prop} {f : Value → Value → Sem Value}
    (hf : ∀ v u s2 x y H2, Inv X pins σ H2 s2 → RelV x v → RelV y u → R x y H2 → wpAny (model X.prog X.w) X.A (f v u) Q X.xe s2) :
    wpAny (model X.prog X.w) X.A (eval a X.env) (fun v s₁ => wpAny (model X.prog X.w) X.A (eval b X.env) (fun u s₂ => wpAny (model X.prog X.w) X.A (f v u) Q X.xe s₂) X.xe s₁) X.xe s := by
  refine thn (ha pins s σ H _ I h) fun v s1 ⟨x, H1, I1, r1, q1⟩ => ?_
  refine thn (hb pins s1 σ H1 _ I1 q1) fun u s2 ⟨y, H2, I2, r2, q2⟩ => ?_
  exact hf v u s2 x y H2 I2 r1 r2 q2
theorem pe_op {op : Operator} {r : R2} (ho : OpR X (binaryOp op) r) (ha : PE X a ta) (hb : PE X b tb) : PE X (.BinOp a op b pos) (tOp r ta tb) := by
  intro pins s σ H Q I h
  exact wpAny_BinOp (binT ha hb I h fun v u s2 x y H2 I2 rx ry q => ho pins s2 σ H2 x y v u Q I2 rx ry q)
theorem pe_un {op : UnaryOp} {r : V → Hp → VK → Prop} (ho : UnR X (unaryOp op) r) (ha : PE X a ta) : PE X (.UnaryOp op a pos) (tUn r ta) := by
  intro pins s σ H Q I h
  exact UnaryOp_ (thn (ha pins s σ H _ I h) fun v s1 ⟨x, H1, I1, r1, q1⟩ => ho pins s1 σ H1 x v Q I1 r1 q1)
theorem opI {f : Value → Value → Sem Value} {C : Int → Int → Prop} {g : Int → Int → Int}
    (rule : ∀ (i j : Int) (t u : Tok) (s : Shared) (Q : Value → Shared → Prop) (E : Value → Shared → Prop), C i j → Q (.int (g i j) s.toks) { s with toks := s.toks + 1 } → wpAny (model X.prog X.w) X.A (f (.int i t) (.int j u)) Q E s) :
    OpR X f (rI C fun i j => .int (g i j)) := by
  intro pins s σ H x y v u Q I rx ry h
  obtain ⟨i, j, rfl, rfl, hc, q⟩ := h
  obtain ⟨t, rfl⟩ := rx
  obtain ⟨t', rfl⟩ := ry
  exact rule i j t t' s _ _ hc ⟨.int (g i j), H, I.tok _, ⟨_, rfl⟩, q⟩
theorem opI0 {f : Value → Value → Sem Value} {g : Int → Int → Int}
    (rule : ∀ (i j : Int) (t u : Tok) (s : Shared) (Q : Value → Shared → Prop) (E : Value → Shared → Prop), Q (.int (g i j) s.toks) { s with toks := s.toks + 1 } → wpAny (model X.prog X.w) X.A (f (.int i t) (.int j u)) Q E s) :
    OpR X f (rI0 fun i j => .int (g i j)) := by
  intro pins s σ H x y v u Q I rx ry h
  obtain ⟨i, j, rfl, rfl, q⟩ := h
  obtain ⟨t, rfl⟩ := rx
  obtain ⟨t', rfl⟩ := ry
  exact rule i j t t' s _ _ ⟨.int (g i j), H, I.tok _, ⟨_, rfl⟩, q⟩
theorem opB0 {f : Value → Value → Sem Value} {g : Int → Int → Bool}
    (rule : ∀ (i j : Int) (t u : Tok) (s : Shared) (Q : Value → Shared → Prop) (E : Value → Shared → Prop), Q (.bool (g i j)) s → wpAny (model X.prog X.w) X.A (f (.int i t) (.int j u)) Q E s) :
    OpR X f (rI0 fun i j => .bl (g i j)) := by
  intro pins s σ H x y v u Q I rx ry h
  obtain ⟨i, j, rfl, rfl, q⟩ := h
  obtain ⟨t, rfl⟩ := rx
  obtain ⟨t', rfl⟩ := ry
  exact rule i j t t' s _ _ ⟨.bl (g i j), H, I, rfl, q⟩
def CDiv (i j : Int) : Prop := 0 < j ∧ j < 1073741824
def CDivN (i j : Int) : Prop := j ≠ 0 ∧ j.natAbs < 1073741824
def CPow (i j : Int) : Prop := 0 ≤ j ∧ j ≤ 1000000 ∧ i.natAbs < 2 ^ 64
def CMul (i j : Int) : Prop := (-(2 ^ 64) < i ∧ i < 2 ^ 64) ∨ (-(2 ^ 64) < j ∧ j < 2 ^ 64)
theorem op_add : OpR X (binaryOp .Add) (rI0 fun i j => .int (i + j)) := opI0 fun _ _ _ _ _ _ _ q => add_int q
theorem op_sub : OpR X (binaryOp .Sub) (rI0 fun i j => .int (i - j)) := opI0 fun _ _ _ _ _ _ _ q => sub_int q
theorem op_mod : OpR X (binaryOp .Mod) (rI (fun _ j => 0 < j) fun i j => .int (i % j)) := opI fun i j _ _ _ _ _ hc q => by
  have h1 : (0 : Int) < j := hc
  exact mod_int' (by omega) (by rw [Int.fmod_eq_emod_of_nonneg i (by omega)]; exact q)
theorem unI {f : Value → Sem Value} {g : Int → Int}
    (rule : ∀ (i : Int) (t : Tok) (s : Shared) (Q : Value → Shared → Prop) (E : Value → Shared → Prop), Q (.int (g i) s.toks) { s with toks := s.toks + 1 } → wpAny (model X.prog X.w) X.A (f (.int i t)) Q E s) :
    UnR X f (rU fun i => .int (g i)) := by
  intro pins s σ H x v Q I rx h
  obtain ⟨i, rfl, q⟩ := h
  obtain ⟨t, rfl⟩ := rx
  exact rule i t s _ _ ⟨.int (g i), H, I.tok _, ⟨_, rfl⟩, q⟩
theorem un_neg : UnR X (unaryOp .USub) (rU fun i => .int (-i)) := unI fun _ _ _ _ _ q => neg_int q
end
def scal : V → V → Bool
  | .non, .non => true | .non, .int _ => true | .int _, .non => true | .non, .bl _ => true | .bl _, .non => true | .non, .str _ => true | .str _, .non => true
  | .int _, .int _ => true | .bl _, .bl _ => true | .str _, .str _ => true | .byt _, .byt _ => true
  | .int _, .str _ => true | .str _, .int _ => true | .bl _, .str _ => true | .str _, .bl _ => true
  | _, _ => false
def rEq : R2 := fun x y H Q => scal x y = true ∧ Q (.bl (decide (x = y))) H
def rNe : R2 := fun x y H Q => scal x y = true ∧ Q (.bl (!decide (x = y))) H
theorem dec_int {i j : Int} : decide (V.int i = V.int j) = (i == j) := by
  rw [Bool.eq_iff_iff]
  simp
theorem dec_bl {i j : Bool} : decide (V.bl i = V.bl j) = (i == j) := by
  rw [Bool.eq_iff_iff]
  simp
theorem dec_str {i j : Str} : decide (V.str i = V.str j) = (i == j) := by
  rw [Bool.eq_iff_iff]
  simp
theorem dec_byt {i j : Array UInt8} : decide (V.byt i = V.byt j) = (i.toList == j.toList) := by
  rw [Bool.eq_iff_iff]
  cases i
  cases j
  simp
section
variable {X : Cx} {a b c : Expr} {ta tb tc : TE} {pos : Pos}
theorem fin_bl {pins : List (Addr × Obj)} {σ : St} {H : Hp} {s : Shared} {Q : VK} {k k' : Bool} (I : Inv X pins σ H s) (q : Q (.bl k) H) (e : k = k') : EP X pins σ Q (.bool k') s := by
  subst e
  exact ⟨.bl k, H, I, rfl, q⟩
theorem op_eq : OpR X (compareOp .Eq) rEq := by
  intro pins s σ H x y v u Q I rx ry h
  obtain ⟨hs, q⟩ := h
  cases x with
  | non =>
    cases rx
    cases y with
    | non => cases ry; exact PySem.EqNone.eq_none_none (fin_bl I q (by simp))
    | bl j => cases ry; exact PySem.EqNone.eq_none_bool (fin_bl I q (by simp))
    | int j => obtain ⟨t', rfl⟩ := ry; exact PySem.EqNone.eq_none_int (fin_bl I q (by simp))
    | str j => obtain ⟨t', rfl⟩ := ry; exact PySem.EqNone.eq_none_str (fin_bl I q (by simp))
    | _ => exact absurd (show false = true from hs) Bool.false_ne_true
  | bl i =>
    cases rx
    cases y with
    | non => cases ry; exact PySem.EqNone.eq_bool_none (fin_bl I q (by simp))
    | bl j => cases ry; exact eq_bool (fin_bl I q dec_bl)
    | str j => obtain ⟨t', rfl⟩ := ry; exact PySem.EqMixed.eq_bool_str (fin_bl I q (by simp))
    | _ => exact absurd (show false = true from hs) Bool.false_ne_true
  | int i =>
    obtain ⟨t, rfl⟩ := rx
    cases y with
    | non => cases ry; exact PySem.EqNone.eq_int_none (fin_bl I q (by simp))
    | int j => obtain ⟨t', rfl⟩ := ry; exact eq_int (fin_bl I q dec_int)
    | str j => obtain ⟨t', rfl⟩ := ry; exact PySem.EqMixed.eq_int_str (fin_bl I q (by simp))
    | _ => exact absurd (show false = true from hs) Bool.false_ne_true
  | str i =>
    obtain ⟨t, rfl⟩ := rx
    cases y with
    | non => cases ry; exact PySem.EqNone.eq_str_none (fin_bl I q (by simp))
    | bl j => cases ry; exact PySem.EqMixed.eq_str_bool (fin_bl I q (by simp))
    | int j => obtain ⟨t', rfl⟩ := ry; exact PySem.EqMixed.eq_str_int (fin_bl I q (by simp))
    | str j => obtain ⟨t', rfl⟩ := ry; exact eq_str (fin_bl I q dec_str)
    | _ => exact absurd (show false = true from hs) Bool.false_ne_true
  | byt i =>
    obtain ⟨t, rfl⟩ := rx
    cases y with
    | byt j => obtain ⟨t', rfl⟩ := ry; exact PySem.W.eq_bytes (fin_bl I q dec_byt)
    | _ => exact absurd (show false = true from hs) Bool.false_ne_true
  | _ => cases y <;> exact absurd (show false = true from hs) Bool.false_ne_true
theorem op_ne : OpR X (compareOp .NotEq) rNe := by
  intro pins s σ H x y v u Q I rx ry h
  obtain ⟨hs, q⟩ := h
  cases x with
  | non =>
    cases rx
    cases y with
    | non => cases ry; exact PySem.EqNone.ne_none_none (fin_bl I q (by simp))
    | bl j => cases ry; exact PySem.EqNone.ne_none_bool (fin_bl I q (by simp))
    | int j => obtain ⟨t', rfl⟩ := ry; exact PySem.EqNone.ne_none_int (fin_bl I q (by simp))
    | str j => obtain ⟨t', rfl⟩ := ry; exact PySem.EqNone.ne_none_str (fin_bl I q (by simp))
    | _ => exact absurd (show false = true from hs) Bool.false_ne_true
  | bl i =>
    cases rx
    cases y with
    | non => cases ry; exact PySem.EqNone.ne_bool_none (fin_bl I q (by simp))
    | bl j => cases ry; exact ne_bool (fin_bl I q (congrArg not dec_bl))
    | str j => obtain ⟨t', rfl⟩ := ry; exact PySem.EqMixed.ne_bool_str (fin_bl I q (by simp))
    | _ => exact absurd (show false = true from hs) Bool.false_ne_true
  | int i =>
    obtain ⟨t, rfl⟩ := rx
    cases y with
    | non => cases ry; exact PySem.EqNone.ne_int_none (fin_bl I q (by simp))
    | int j => obtain ⟨t', rfl⟩ := ry; exact ne_int (fin_bl I q (congrArg not dec_int))
    | str j => obtain ⟨t', rfl⟩ := ry; exact PySem.EqMixed.ne_int_str (fin_bl I q (by simp))
    | _ => exact absurd (show false = true from hs) Bool.false_ne_true
  | str i =>
    obtain ⟨t, rfl⟩ := rx
    cases y with
    | non => cases ry; exact PySem.EqNone.ne_str_none (fin_bl I q (by simp))
    | bl j => cases ry; exact PySem.EqMixed.ne_str_bool (fin_bl I q (by simp))
    | int j => obtain ⟨t', rfl⟩ := ry; exact PySem.EqMixed.ne_str_int (fin_bl I q (by simp))
    | str j => obtain ⟨t', rfl⟩ := ry; exact ne_str (fin_bl I q (congrArg not dec_str))
    | _ => exact absurd (show false = true from hs) Bool.false_ne_true
  | byt i =>
    obtain ⟨t, rfl⟩ := rx
    cases y with
    | byt j => obtain ⟨t', rfl⟩ := ry; exact PySem.W.ne_bytes (fin_bl I q (congrArg not dec_byt))
    | _ => exact absurd (show false = true from hs) Bool.false_ne_true
  | _ => cases y <;> exact absurd (show false = true from hs) Bool.false_ne_true
theorem op_gt : OpR X (compareOp .Gt) (rI0 fun i j => .bl (decide (j < i))) := opB0 fun _ _ _ _ _ _ _ q => gt_int q
def isObj : HO → Bool
  | .lst _ => true
  | .ins _ _ _ => true
  | _ => false
theorem nomark (b : Expr) {op : CmpOp} (h : op ≠ .In := by decide) (h2 : op ≠ .NotIn := by decide) : behindInMarks op b = false := by
  have e1 : (op == CmpOp.In) = false := by cases op <;> first | rfl | exact absurd rfl h
  have e2 : (op == CmpOp.NotIn) = false := by cases op <;> first | rfl | exact absurd rfl h2
  cases b <;> simp [behindInMarks, e1, e2]
theorem pe_cmpR {op : CmpOp} {r : R2} (ho : OpR X (compareOp op) r) (ha : PE X a ta) (hb : PE X b tb) (hm : behindInMarks op b = false) : PE X (.Compare a [op] [b] pos) (tOp r ta tb) := by
  intro pins s σ H Q I h
  exact wpAny_Compare1 (binT ha hb I h fun v u s2 x y H2 I2 rx ry q => ho pins s2 σ H2 x y v u Q I2 rx ry q) hm
def tTest (t : TE) : TT := fun σ H Q => t σ H fun x H' => ∃ k, x = .bl k ∧ Q k H'
theorem pt_cmpR {op : CmpOp} {r : R2} (ho : OpR X (compareOp op) r) (ha : PE X a ta) (hb : PE X b tb) (hm : behindInMarks op b = false) : PT X (.Compare a [op] [b] pos) (tTest (tOp r ta tb)) := by
  intro pins s σ H Q I h
  refine wpAny_isTrue_Compare1 (thn (ha pins s σ H _ I h) fun v s1 ⟨x, H1, I1, r1, q1⟩ => thn (hb pins s1 σ H1 _ I1 q1) fun u s2 ⟨y, H2, I2, r2, q2⟩ =>
    thn (ho pins s2 σ H2 x y v u _ I2 r1 r2 q2) fun c s3 ⟨z, H3, I3, r3, k, e, q3⟩ => ?_) hm
  subst e
  cases r3
  exact wpAny_truthy_bool ⟨H3, I3, q3⟩
def tChain (r r' : R2) (ta tb tc : TE) : TE := fun σ H Q => ta σ H fun x H1 => tb σ H1 fun y H2 => r x y H2 fun z H3 => ∃ k, z = .bl k ∧
  (if k = true then tc σ H3 fun w' H4 => r' y w' H4 Q else Q (.bl false) H3)
def TruV (K : PySem.W.Frag) (x : V) (H : Hp) (k : Bool) : Prop :=
  match x with
  | .non => k = false
  | .bl b => k = b
  | .int i => k = (i != 0)
  | .str y => y.length ≤ sizeLine ∧ k = ((y.length : Int) != 0)
  | .byt y => y.size ≤ sizeLine ∧ k = ((y.size : Int) != 0)
  | .ref p => (∃ xs, SqL K H p xs ∧ k = !xs.isEmpty) ∨ (∃ xs, SqT K H p xs ∧ k = !xs.isEmpty) ∨ ∃ kvs, H p = some (.dK kvs) ∧ k = !kvs.isEmpty
  | _ => False
theorem line63 : (sizeLine : Nat) < 2 ^ 63 := by rw [sizeLine_eq]; decide
def PlainIxT (b : Expr) : Prop := ∀ o i, subscripted b false o i = operate [o, i] (getItem o i)
theorem vals1 {x : V} {us : List Value} (r : Vals [x] us) : ∃ u, us = [u] ∧ RelV x u := by
  cases r with
  | cons r1 r2 => cases r2; exact ⟨_, rfl, r1⟩
theorem vals2 {x y : V} {us : List Value} (r : Vals [x, y] us) : ∃ u w', us = [u, w'] ∧ RelV x u ∧ RelV y w' := by
  cases r with
  | cons r1 r2 =>
    cases r2 with
    | cons r3 r4 => cases r4; exact ⟨_, _, rfl, r1, r3⟩
def LenV (K : PySem.W.Frag) (x : V) (H : Hp) (n : Nat) : Prop :=
  match x with
  | .str y => y.length ≤ sizeLine ∧ n = y.length
  | .byt y => y.size ≤ sizeLine ∧ n = y.size
  | .ref p => (∃ xs, SqL K H p xs ∧ n = xs.length) ∨ ∃ xs, SqT K H p xs ∧ n = xs.length
  | _ => False
end
end L2
namespace L2
open PySem PySem.Spec PyProof.Rows
structure ObjM (h : Heap) (x dx C : Addr) (mA : Str → Option Value) : Prop where
  obj : h.get? x = some (PySem.W.instObj C dx)
  ns : h.Ns1 dx mA
  ne : dx ≠ x
theorem lookIn_ns {h : Heap} {dx : Addr} {mA : Str → Option Value} (n : h.Ns1 dx mA) : ∃ od, h.get? dx = some od ∧ ∀ name, PySem.W.lookIn name od = some (mA name) := by
  obtain ⟨o, es, ep, ho, hd, hk, _, hm⟩ := n
  refine ⟨o, ho, fun name => ?_⟩
  have e := hm name
  unfold nsFind findBy at e
  rw [← Array.find?_toList] at e
  unfold PySem.W.lookIn
  rw [hd]
  dsimp only
  split
  · rename_i y q
    rw [q] at e
    exact congrArg some e
  · rename_i q
    rw [q] at e
    have a : es.toList.any (·.refKey) = false := by
      rw [List.any_eq_false]
      intro y hy
      obtain ⟨z, t, hkey⟩ := hk y (Array.mem_toList_iff.mp hy)
      simp [DictEntry.refKey, hkey]
    have a' : ¬ es.toList.any (·.refKey) = true := by rw [a]; exact Bool.false_ne_true
    rw [if_neg a']
    exact congrArg some e
theorem ObjM.look {h : Heap} {x dx C : Addr} {mA : Str → Option Value} (I : ObjM h x dx C mA) : ∃ od, PySem.W.InstAt h x (PySem.W.instObj C dx) C (some od) ∧ ∀ name, PySem.W.lookIn name od = some (mA name) :=
  let ⟨od, ho, hl⟩ := lookIn_ns I.ns
  ⟨od, ⟨I.obj, rfl, rfl, ho⟩, hl⟩
section
variable {prog : Program} {w : World} {A : Around} {E : Value → Shared → Prop} {s : Shared} {K : PySem.W.Frag} {x dx C f : Addr} {mA : Str → Option Value} {name : Str} {v : Value}
theorem get_map {expr : Bool} {Q : Value → Shared → Prop} (X : K.In s.heap) (I : ObjM s.heap x dx C mA) (hg : PySem.W.plainGet K C name = true) (hh : PySem.W.hasDictIn K C = true)
    (ha : PySem.W.findIn K (.ref C) name = some none) (hv : mA name = some v) (hv' : PySem.W.handedIn v = true) (h : Q v { s with toks := s.toks + 1 }) :
    wpAny (model prog w) A (getAttr (.ref x) name expr) Q E s := by
  obtain ⟨od, J, hl⟩ := I.look
  exact PySem.W.get_value X J (PySem.W.plainGet_of hg).1 (PySem.W.findObj_own hh ha rfl (by rw [hl, hv])) hv' h
theorem get_meth {pl : Sem Bool} {Q : Value × List Value → Shared → Prop} (X : K.In s.heap) (I : ObjM s.heap x dx C mA) (hg : PySem.W.plainGet K C name = true)
    (hf : PySem.W.findIn K (.ref C) name = some (some (.ref f))) (ht : PySem.W.isFn K (.ref f) = true) (hv : mA name = none) (h : Q (.ref f, [.ref x]) s) :
    wpAny (model prog w) A (getMethod (.ref x) name pl) Q E s := by
  obtain ⟨od, J, hl⟩ := I.look
  exact PySem.W.method_fn X J (PySem.W.plainGet_of hg).1 (PySem.W.plainGet_of hg).2 hf (beq_iff_eq.mp ht) (by show (PySem.W.lookIn name od).map (·.isSome) = some false; rw [hl, hv]; rfl) h
theorem set_map {ns : List Str} {Q : Unit → Shared → Prop} (X : K.In s.heap) (I : ObjM s.heap x dx C mA)
    (hs : PySem.W.findIn K (.ref C) "__setattr__" = some (some (.builtin "object.__setattr__"))) (hp : PySem.W.plainOver K C = true) (ht : PySem.W.takerIn K C name = some none) (hh : PySem.W.hasDictIn K C = true)
    (hw : PySem.Within mA ns) (hsz : ns.length ≤ sizeLine)
    (h : ∀ h', ObjM h' x dx C (fun y => if y = name then some v else mA y) → Heap.SameBut dx s.heap h' → Q () { s with heap := h', toks := s.toks + 2 }) :
    wpAny (model prog w) A (setAttr (.ref x) name v) Q E s := by
  obtain ⟨od, J, hl⟩ := I.look
  refine PySem.W.set_plain X J hs (PySem.W.osa_open (s := { s with toks := s.toks + 1 }) (r := none) X J hp ht fun b => ?_)
  obtain ⟨cd, hc, hd'⟩ := PySem.W.any_some hh
  have hx : s.heap.get? x = some ⟨.ref C, some dx, .plain, #[]⟩ := I.obj
  refine wpAny_bind (wpAny_pure (wpAny_bind (wpAny_bind (wpAny_loadPart hx (wpAny_bind (PySem.W.Looks.here (s := { s with toks := s.toks + 1 }) (PySem.W.looks_clsIn X hc) ?_))))))
  rw [hd']
  refine wpAny_pure (a := some dx) (wpAny_bind (wpAny_pure (wpAny_bind ?_)))
  refine wpAny_nsSet1 (s := { s with toks := s.toks + 1 }) I.ns fun h' hn2 hs2 => ?_
  obtain ⟨oD, esD, epD, hoD, hdD, hcD⟩ := hn2.count (PySem.Within.cons name v hw)
  refine wpAny_bind (wpAny_lookBehind hoD (by rw [hdD]; exact pastItsLine_dict (Nat.le_trans hcD (by rw [List.length_cons]; omega))) ?_)
  exact wpAny_pure (h _ ⟨(hs2.2 _ (Ne.symm I.ne)).trans I.obj, hn2, I.ne⟩ hs2)
theorem make_map {R : Result → Shared → Prop} {vs : List Value} {kw : List (Str × Value)} (X : K.In s.heap) (hm : PySem.W.makesIn K C = true)
    (hi : PySem.W.findIn K (.ref C) "__init__" = some (some (.ref f))) (hf : PySem.W.typeIn K (.ref f) = some (.type "function"))
    (h : codeAny (model prog w) (A.under (.builtin "type.__call__" ⟨.ref C :: vs, kw⟩)) (.call (.ref f) ⟨.ref (s.heap.objs.size + 1) :: vs, kw⟩) (PySem.W.InitBack (s.heap.objs.size + 1) R)
      { s with heap := (s.heap.push PySem.W.emptyDict).push (PySem.W.instObj C s.heap.objs.size) }) :
    codeAny (model prog w) A (.call (.ref C) ⟨vs, kw⟩) R s := by
  obtain ⟨hh, g, d, t, os⟩ := s
  exact PySem.W.make_core (PySem.W.makes_of X hm) (PySem.W.looks_findIn X hi) (fun self => PySem.W.bind_fn X self hf) (.inl rfl) h
end
def putF (f : Str) (v : V) : List (Str × V) → List (Str × V)
  | [] => [(f, v)]
  | (g, x) :: r => if g = f then (g, v) :: r else (g, x) :: putF f v r
theorem lookup_putF (f g : Str) (v : V) : ∀ fs : List (Str × V), (putF f v fs).lookup g = if g = f then some v else fs.lookup g
  | [] => by
    show List.lookup g [(f, v)] = _
    by_cases h : g = f
    · have hb : (g == f) = true := beq_iff_eq.mpr h
      simp only [List.lookup, hb, if_pos h]
    · have hb : (g == f) = false := beq_eq_false_iff_ne.mpr h
      simp only [List.lookup, hb, if_neg h]
  | (k, x) :: r => by
    have ih := lookup_putF f g v r
    rw [show putF f v ((k, x) :: r) = (if k = f then (k, v) :: r else (k, x) :: putF f v r) from rfl]
    by_cases hk : k = f
    · rw [if_pos hk]
      by_cases h : g = k
      · have hb : (g == k) = true := beq_iff_eq.mpr h
        simp only [List.lookup, hb, if_pos (h.trans hk)]
      · have hb : (g == k) = false := beq_eq_false_iff_ne.mpr h
        simp only [List.lookup, hb, if_neg (fun e : g = f => h (e.trans hk.symm))]
    · rw [if_neg hk]
      by_cases h : g = k
      · have hb : (g == k) = true := beq_iff_eq.mpr h
        simp only [List.lookup, hb, if_neg (fun e : g = f => hk (h.symm.trans e))]
      · have hb : (g == k) = false := beq_eq_false_iff_ne.mpr h
        simp only [List.lookup, hb]
        exact ih
theorem keys_putF (f : Str) (v : V) : ∀ fs : List (Str × V), f ∈ (putF f v fs).map (·.1) ∧ ∀ g, g ∈ fs.map (·.1) → g ∈ (putF f v fs).map (·.1)
  | [] => ⟨by simp [putF], fun g h => by simp at h⟩
  | (k, x) :: r => by
    obtain ⟨i1, i2⟩ := keys_putF f v r
    rw [show putF f v ((k, x) :: r) = (if k = f then (k, v) :: r else (k, x) :: putF f v r) from rfl]
    by_cases hk : k = f
    · rw [if_pos hk]
      subst hk
      exact ⟨by simp, fun g h => by simpa using h⟩
    · rw [if_neg hk]
      refine ⟨?_, fun g h => ?_⟩
      · rw [List.map_cons]
        exact List.mem_cons_of_mem _ i1
      · rw [List.map_cons] at h ⊢
        rcases List.mem_cons.mp h with e | e
        · exact List.mem_cons.mpr (.inl e)
        · exact List.mem_cons_of_mem _ (i2 g e)
theorem length_putF (f : Str) (v : V) : ∀ fs : List (Str × V), (putF f v fs).length ≤ fs.length + 1
  | [] => by simp [putF]
  | (k, x) :: r => by
    have ih := length_putF f v r
    rw [show putF f v ((k, x) :: r) = (if k = f then (k, v) :: r else (k, x) :: putF f v r) from rfl]
    by_cases hk : k = f
    · rw [if_pos hk, List.length_cons, List.length_cons]; omega
    · rw [if_neg hk, List.length_cons, List.length_cons]; omega
theorem RelO.some_of {v : V} {o : Option Value} (r : RelO (some v) o) : ∃ u, o = some u ∧ RelV v u := by
  cases o with
  | none => exact (show False from r).elim
  | some u => exact ⟨u, rfl, r⟩
theorem RelO.none_of {o : Option Value} (r : RelO none o) : o = none := by
  cases o with
  | none => rfl
  | some u => exact (show False from r).elim
theorem handed_of {v : V} {u : Value} (r : RelV v u) : PySem.W.handedIn u = true := by
  cases v with
  | non => cases (show u = Value.none from r); rfl
  | bl b => cases (show u = Value.bool b from r); rfl
  | int i => obtain ⟨t, e⟩ := (show ∃ t, u = Value.int i t from r); cases e; rfl
  | str x => obtain ⟨t, e⟩ := (show ∃ t, u = Value.str x t from r); cases e; rfl
  | byt b => obtain ⟨t, e⟩ := (show ∃ t, u = Value.bytes b t from r); cases e; rfl
  | flt b => obtain ⟨t, e⟩ := (show ∃ t, u = Value.float b t from r); cases e; rfl
  | ref a => cases (show u = Value.ref a from r); rfl
  | ty n => cases (show u = Value.type n from r); rfl
section
variable {P : Program} {w : World} {H H' : Hp} {h h' : Heap} {a C dx : Addr} {fs fs' : List (Str × V)}
theorem ins_get (hok : HOk P w H h) (e : H a = some (.ins C dx fs)) : ∃ mA, ObjM h a dx C mA ∧ (∀ f, RelO (fs.lookup f) (mA f)) ∧ PySem.Within mA (fs.map (·.1)) ∧ fs.length ≤ 1000 ∧ H dx = some (.own a) := by
  obtain ⟨d, z, ne, ob, mA, n, r, q⟩ := (show ObjOk P w H h a (.ins C dx fs) from hok a _ e)
  exact ⟨mA, ⟨ob, n, ne⟩, r, q, z, d⟩
end
structure Cls (K : PySem.W.Frag) (C : Addr) : Prop where
  pg : PySem.W.plainGet K C Str.empty = true
  hd : PySem.W.hasDictIn K C = true
  po : PySem.W.plainOver K C = true
  sa : PySem.W.findIn K (.ref C) "__setattr__" = some (some (.builtin "object.__setattr__"))
theorem Cls.get {K : PySem.W.Frag} {C : Addr} (c : Cls K C) (f : Str) : PySem.W.plainGet K C f = true := c.pg
def NoAttr (K : PySem.W.Frag) (C : Addr) (f : Str) : Prop := PySem.W.findIn K (.ref C) f = some none
theorem NoAttr.taker {K : PySem.W.Frag} {C : Addr} {f : Str} (n : NoAttr K C f) : PySem.W.takerIn K C f = some none := by
  unfold PySem.W.takerIn
  rw [show PySem.W.findIn K (.ref C) f = some none from n]
  rfl
structure Con (K : PySem.W.Frag) (C : Addr) (f : Str) (v : V) (u : Value) : Prop where
  at_ : PySem.W.findIn K (.ref C) f = some (some u)
  rel : RelV v u
  get : PySem.W.specialIn K u "__get__" = some none
  cp : PySem.W.copiedNames.contains f = false
structure Meth (K : PySem.W.Frag) (C : Addr) (m : Str) (f : Addr) : Prop where
  at_ : PySem.W.findIn K (.ref C) m = some (some (.ref f))
  fn : PySem.W.isFn K (.ref f) = true
  kp : PySem.W.keepIn K (.ref f) = true
section
variable {X : Cx} {pins : List (Addr × Obj)} {σ : St} {H : Hp} {s : Shared} {a C dx : Addr} {fs : List (Str × V)} {f : Str} {v : V} {A : Around} {E : Value → Shared → Prop}
theorem getattr_ok {b : Bool} {Q : Value → Shared → Prop} (I : Inv X pins σ H s) (e : H a = some (.ins C dx fs)) (c : Cls X.K C) (n : NoAttr X.K C f) (l : fs.lookup f = some v)
    (h : ∀ u s', Inv X pins σ H s' → RelV v u → Q u s') : wpAny (model X.prog X.w) A (getAttr (.ref a) f b) Q E s := by
  obtain ⟨mA, O, r, _, _, _⟩ := ins_get I.hok e
  obtain ⟨u, hu, ru⟩ := RelO.some_of (v := v) (o := mA f) (by rw [← l]; exact r f)
  exact get_map I.kIn O (c.get f) c.hd n hu (handed_of ru) (h u _ (I.tok _) ru)
theorem getmeth_ok {m : Str} {g : Addr} {pl : Sem Bool} {Q : Value × List Value → Shared → Prop} (I : Inv X pins σ H s) (e : H a = some (.ins C dx fs)) (c : Cls X.K C) (k : Meth X.K C m g) (l : fs.lookup m = none)
    (h : Q (.ref g, [.ref a]) s) : wpAny (model X.prog X.w) A (getMethod (.ref a) m pl) Q E s := by
  obtain ⟨mA, O, r, _, _, _⟩ := ins_get I.hok e
  have hn : mA m = none := RelO.none_of (by rw [← l]; exact r m)
  exact get_meth I.kIn O (c.get m) k.at_ k.fn hn h
theorem setattr_ok {y : V} {u : Value} {Q : Unit → Shared → Prop} (I : Inv X pins σ H s) (e : H a = some (.ins C dx fs)) (c : Cls X.K C) (n : NoAttr X.K C f) (hl : fs.length < 1000) (ry : RelV y u)
    (h : ∀ s', Inv X pins σ (upd H a (.ins C dx (putF f y fs))) s' → Q () s') : wpAny (model X.prog X.w) A (setAttr (.ref a) f u) Q E s := by
  obtain ⟨mA, O, r, wi, _, ho⟩ := ins_get I.hok e
  have hz : (fs.map (·.1)).length ≤ sizeLine := by rw [List.length_map, sizeLine_eq]; omega
  refine set_map I.kIn O c.sa c.po n.taker c.hd wi hz fun h' O' sb => h _ ?_
  have hd : ∃ o, h'.get? dx = some o := let ⟨o, _, _, e', _⟩ := O'.ns; ⟨o, e'⟩
  refine I.write (x := a) (e := dx) (by rw [e]; exact True.intro) (.inr ho) (fun b q hb z => (sb.2 b hb).trans z) hd ?_
  refine ⟨by rw [upd_ne O.ne]; exact ho, ?_, O.ne, O'.obj, _, O'.ns, fun g => ?_, fun g hg => ?_⟩
  · have := length_putF f y fs; omega
  · show RelO ((putF f y fs).lookup g) (if g = f then some u else mA g)
    rw [lookup_putF]
    by_cases q : g = f
    · rw [if_pos q, if_pos q]; exact ry
    · rw [if_neg q, if_neg q]; exact r g
  · by_cases q : g = f
    · rw [q]; exact (keys_putF f y fs).1
    · refine (keys_putF f y fs).2 g (wi g fun z => hg ?_)
      show (if g = f then some u else mA g) = none
      rw [if_neg q]; exact z
theorem Inv.made (I : Inv X pins σ H s) : Inv X pins σ (upd (upd H s.heap.objs.size (.own (s.heap.objs.size + 1))) (s.heap.objs.size + 1) (.ins C s.heap.objs.size []))
    { s with heap := (s.heap.push PySem.W.emptyDict).push (PySem.W.instObj C s.heap.objs.size) } := by
  have e1 : (s.heap.push PySem.W.emptyDict).get? s.heap.objs.size = some PySem.W.emptyDict := Heap.get?_push_size s.heap rfl
  have e2 : ((s.heap.push PySem.W.emptyDict).push (PySem.W.instObj C s.heap.objs.size)).get? (s.heap.objs.size + 1) = some (PySem.W.instObj C s.heap.objs.size) := by
    have := Heap.get?_push_size (s.heap.push PySem.W.emptyDict) (o := PySem.W.instObj C s.heap.objs.size) rfl
    rwa [Heap.size_push] at this
  have e3 : (s.heap.push PySem.W.emptyDict).Ns s.heap.objs.size (fun _ => none) := ⟨PySem.W.emptyDict, #[], _, e1, rfl, (fun e he => absurd he (by simp)), fun _ => rfl⟩
  have I1 := I.laid (a := s.heap.objs.size) (o := .own (s.heap.objs.size + 1)) (h' := s.heap.push PySem.W.emptyDict) (t' := s.toks) (fun b u q => Heap.get?_push_of_some _ q) (Nat.le_refl _) ⟨_, e1⟩
  refine I1.laid (a := s.heap.objs.size + 1) (o := .ins C s.heap.objs.size []) (t' := s.toks) (fun b u q => Heap.get?_push_of_some _ q) (Nat.le_of_eq (Heap.size_push _ _)) ?_
  have ne : s.heap.objs.size ≠ s.heap.objs.size + 1 := Nat.ne_of_lt (Nat.lt_succ_self _)
  refine ⟨by rw [upd_ne ne, upd_same], Nat.zero_le _, ne, e2, fun _ => none, (Heap.Ns1.of_empty e3).at fun o q => Heap.get?_push_of_some _ q, fun _ => True.intro, fun y hy => absurd rfl hy⟩
theorem attr_of {prog : Program} {w : World} {env : Env} {e : Expr} {f : Str} {pos : Pos} {s : Shared} {Q : Value → Shared → Prop} (hb : attributeBase e f env (eval e env) = eval e env)
    (h : wpAny (model prog w) A (eval e env) (fun o s₁ => wpAny (model prog w) A (getAttr o f true) Q E s₁) E s) : wpAny (model prog w) A (eval (.Attribute e f pos) env) Q E s :=
  Attribute_any_ h (by rw [arm_eval_Attribute, hb])
end
def tFld (K : PySem.W.Frag) (ta : TE) (f : Str) : TE := fun σ H Q => ta σ H fun x H1 => ∃ a C dx fs v, x = .ref a ∧ H1 a = some (.ins C dx fs) ∧ Cls K C ∧ NoAttr K C f ∧ fs.lookup f = some v ∧ Q v H1
def tCon (K : PySem.W.Frag) (ta : TE) (f : Str) : TE := fun σ H Q => ta σ H fun x H1 => ∃ a C dx fs v u, x = .ref a ∧ H1 a = some (.ins C dx fs) ∧ Cls K C ∧ Con K C f v u ∧ fs.lookup f = none ∧ Q v H1
def sFld (K : PySem.W.Frag) (ta tv : TE) (f : Str) : TS := fun D σ H => tv σ H fun y H1 => ta σ H1 fun x H2 => ∃ a C dx fs, x = .ref a ∧ H2 a = some (.ins C dx fs) ∧ Cls K C ∧ NoAttr K C f ∧ fs.length < 1000 ∧
  D.nx σ (upd H2 a (.ins C dx (putF f y fs)))
def InOp (X : Cx) (op : Operator) (rd : V → V → Hp → VK → Prop) : Prop :=
  ∀ (pins : List (Addr × Obj)) (s : Shared) (σ : St) (H : Hp) (x y : V) (u v : Value) (Q : VK), Inv X pins σ H s → RelV x u → RelV y v → rd x y H Q → wpAny (model X.prog X.w) X.A (inplaceOp op u v) (EP X pins σ Q) X.xe s
def sFldAug (K : PySem.W.Frag) (ta tv : TE) (rd : V → V → Hp → VK → Prop) (f : Str) : TS := fun D σ H => ta σ H fun x H1 => ∃ a C dx fs v, x = .ref a ∧ H1 a = some (.ins C dx fs) ∧ Cls K C ∧ NoAttr K C f ∧ fs.lookup f = some v ∧
  tv σ H1 fun y H2 => rd v y H2 fun z H3 => ∃ dx' fs', H3 a = some (.ins C dx' fs') ∧ fs'.length < 1000 ∧ D.nx σ (upd H3 a (.ins C dx' (putF f z fs')))
section
variable {X : Cx} {o e value : Expr} {f : Str} {pos pos' tpos : Pos} {ta tv : TE}
theorem pe_fld (he : PE X e ta) (hb : attributeBase e f X.env (eval e X.env) = eval e X.env) : PE X (.Attribute e f pos) (tFld X.K ta f) := by
  intro pins s σ H Q I h
  refine attr_of hb (thn (he pins s σ H _ I h) fun u s1 ⟨x, H1, I1, rx, a, C, dx, fs, v, ex, ea, c, n, l, q⟩ => ?_)
  subst ex
  obtain rfl : u = Value.ref a := rx
  exact getattr_ok I1 ea c n l fun u' s2 I2 ru => ⟨v, H1, I2, ru, q⟩
theorem ps_fld (ha : PE X o ta) (hv : PE X value tv) (hs : swapsWith value (some (.Attribute o f pos')) pos.line X.env = pure false) : PS X (.Assign [.Attribute o f pos'] value pos) (sFld X.K ta tv f) := by
  intro pins s σ H D I h
  refine plainObj_wpAny_Assign_Attribute (thn (hv pins s σ H _ I h) fun u s1 ⟨y, H1, I1, ry, q⟩ => thn (ha pins s1 σ H1 _ I1 q) fun ov s2 ⟨x, H2, I2, rx, a, C, dx, fs, ex, ea, c, n, l, q2⟩ => ?_) hs
  subst ex
  obtain rfl : ov = Value.ref a := rx
  exact setattr_ok I2 ea c n l ry fun s3 I3 => ⟨σ, _, I3, q2⟩
theorem ps_fldaug {op : Operator} {rd : V → V → Hp → VK → Prop} (ha : PE X o ta) (hv : PE X value tv) (hop : InOp X op rd) : PS X (.AugAssign (.Attribute o f tpos) op value pos) (sFldAug X.K ta tv rd f) := by
  intro pins s σ H D I h
  refine wpAny_AugAssign_AttributeAny (thn (ha pins s σ H _ I h) fun ov s1 ⟨x, H1, I1, rx, a, C, dx, fs, v, ex, ea, c, n, l, q⟩ => ?_)
  subst ex
  obtain rfl : ov = Value.ref a := rx
  refine getattr_ok I1 ea c n l fun u s2 I2 ru => thn (hv pins s2 σ H1 _ I2 q) fun w3 s3 ⟨y, H2, I3, ry, q3⟩ => thn (hop pins s3 σ H2 v y u w3 _ I3 ru ry q3) fun w4 s4 ⟨z, H3, I4, rz, dx', fs', ea', l', q4⟩ => ?_
  exact setattr_ok I4 ea' c n l' rz fun s5 I5 => ⟨σ, _, I5, q4⟩
def rAdd : V → V → Hp → VK → Prop := fun x y H Q => ∃ i j, x = .int i ∧ y = .int j ∧ Q (.int (i + j)) H
def rSub : V → V → Hp → VK → Prop := fun x y H Q => ∃ i j, x = .int i ∧ y = .int j ∧ Q (.int (i - j)) H
theorem in_add : InOp X .Add rAdd := by
  rintro pins s σ H x y u v Q I rx ry ⟨i, j, rfl, rfl, q⟩
  obtain ⟨t, rfl⟩ := (show ∃ t, u = Value.int i t from rx)
  obtain ⟨t', rfl⟩ := (show ∃ t', v = Value.int j t' from ry)
  exact PyProof.Rows.iadd_int ⟨.int (i + j), H, I.tok _, ⟨_, rfl⟩, q⟩
end
section
variable {X : Cx} {pins : List (Addr × Obj)} {σ : St} {H : Hp} {s : Shared} {A : Around} {E : Value → Shared → Prop} {Q : Value → Shared → Prop} {c : Value} {b : Bool}
inductive TyOf (K : PySem.W.Frag) (H : Hp) : V → Value → Prop where
  | non : TyOf K H .non (.type "NoneType")
  | bl (x : Bool) : TyOf K H (.bl x) (.type "bool")
  | int (i : Int) : TyOf K H (.int i) (.type "int")
  | str (x : Str) : TyOf K H (.str x) (.type "str")
  | flt (x : UInt64) : TyOf K H (.flt x) (.type "float")
  | lst {a : Addr} {xs : List V} (e : H a = some (.lst xs)) : TyOf K H (.ref a) (.type "list")
  | frz {a : Addr} {o : Obj} {xs : List V} (e : H a = some (.frz o (.lst xs))) : TyOf K H (.ref a) (.type "list")
  | tup {a : Addr} {xs : List V} (e : H a = some (.tup xs)) : TyOf K H (.ref a) (.type "tuple")
  | dK {a : Addr} {kvs : List (Key × V)} (e : H a = some (.dK kvs)) : TyOf K H (.ref a) (.type "dict")
  | dT {a : Addr} {kvs : List (List Key × V)} (e : H a = some (.dT kvs)) : TyOf K H (.ref a) (.type "dict")
  | ins {a C dx : Addr} {fs : List (Str × V)} (e : H a = some (.ins C dx fs)) (cl : Cls K C) (ha : PySem.W.findIn K (.ref C) "__class__" = some (some (.builtin "object.__class__")))
      (hn : PySem.W.specialIn K (.builtin "object.__class__") "__get__" = some (some (.builtin "getset_descriptor.__get__"))) (htk : PySem.W.takesIn K (.builtin "object.__class__") = some true)
      (hm : PySem.W.mroIn K C (.type "object") = some true) : TyOf K H (.ref a) (.ref C)
theorem isinst_ok {x : V} {u t : Value} (I : Inv X pins σ H s) (rx : RelV x u) (ty : TyOf X.K H x t) (e : PySem.W.kitOne X.K t c = some b) (h : ∀ tk, Q (.bool b) { s with toks := tk }) :
    wpAny (model X.prog X.w) A (call (.builtin "isinstance") [u, c]) Q E s := by
  cases ty with
  | non => cases (show u = Value.none from rx); exact PySem.W.kia_one PySem.W.kitx_none I.kIn True.intro e (fun z => nomatch z) h
  | bl y => cases (show u = Value.bool y from rx); exact PySem.W.kia_one PySem.W.kitx_bool I.kIn True.intro e (fun z => nomatch z) h
  | int i => obtain ⟨t, q⟩ := (show ∃ t, u = Value.int i t from rx); cases q; exact PySem.W.kia_one PySem.W.kitx_int I.kIn True.intro e (fun z => nomatch z) h
  | str y => obtain ⟨t, q⟩ := (show ∃ t, u = Value.str y t from rx); cases q; exact PySem.W.kia_one PySem.W.kitx_str I.kIn True.intro e (fun z => nomatch z) h
  | flt y => obtain ⟨t, q⟩ := (show ∃ t, u = Value.float y t from rx); cases q; exact PySem.W.kia_one PySem.W.kitx_float I.kIn True.intro e (fun z => nomatch z) h
  | @lst a xs ea =>
    cases (show u = Value.ref a from rx)
    obtain ⟨_, _, n, _, h1⟩ := (show ObjOk X.prog X.w H s.heap a (.lst xs) from I.hok a _ ea)
    exact PySem.W.kia_one PySem.W.kitx_list I.kIn ⟨_, h1, rfl⟩ e (fun z => nomatch z) h
  | @frz a ob xs ea =>
    cases (show u = Value.ref a from rx)
    obtain ⟨_, _, _, n, _, h1⟩ := (show ObjOk X.prog X.w H s.heap a (.frz ob (.lst xs)) from I.hok a _ ea)
    exact PySem.W.kia_one PySem.W.kitx_list I.kIn ⟨_, h1, rfl⟩ e (fun z => nomatch z) h
  | @tup a xs ea =>
    cases (show u = Value.ref a from rx)
    obtain ⟨_, _, _, p⟩ := (show ObjOk X.prog X.w H s.heap a (.tup xs) from I.hok a _ ea)
    obtain ⟨o, h1, h2, _⟩ := p
    exact PySem.W.kia_one PySem.W.kitx_tuple I.kIn ⟨o, h1, h2⟩ e (fun z => nomatch z) h
  | @dK a kvs ea =>
    cases (show u = Value.ref a from rx)
    obtain ⟨_, _, vs, _, p⟩ := (show ObjOk X.prog X.w H s.heap a (.dK kvs) from I.hok a _ ea)
    obtain ⟨o, es, ep, h1, h2, _⟩ := p
    exact PySem.W.kia_one PySem.W.kitx_dict I.kIn ⟨o, h1, h2.1⟩ e (fun z => nomatch z) h
  | @dT a kvs ea =>
    cases (show u = Value.ref a from rx)
    obtain ⟨_, _, xs, _, o, es, ep, h1, h2, _⟩ := (show ObjOk X.prog X.w H s.heap a (.dT kvs) from I.hok a _ ea)
    exact PySem.W.kia_one PySem.W.kitx_dict I.kIn ⟨o, h1, h2.1⟩ e (fun z => nomatch z) h
  | @ins a C dx fs ea cl ha hn htk hm =>
    cases (show u = Value.ref a from rx)
    obtain ⟨mA, O, _⟩ := ins_get I.hok ea
    obtain ⟨od, J, _⟩ := O.look
    exact PySem.W.kia_one (PySem.W.kitx_own (cl.get _) cl.hd ha hn htk hm) I.kIn J e (fun z => nomatch z) h
end
end L2
namespace L2
open PySem PySem.Spec PyProof.Rows
structure Room (k : Nat) (A : Around) : Prop where
  hd : A.handled = none
  dp : A.depth + 3 * k + 5 < recursionLimit
  un : A.units + 16 * k + 200 < cLine
theorem Room.mono {j k : Nat} {A : Around} (r : Room k A) (h : j ≤ k) : Room j A := ⟨r.hd, by have := r.dp; omega, by have := r.un; omega⟩
theorem Room.deeper {k : Nat} {A : Around} (r : Room (k + 1) A) (env : Env) : Room k (A.deeper env) :=
  ⟨r.hd, by have := r.dp; show A.depth + 1 + 3 * k + 5 < _; omega, by have := r.un; show A.units + 3 + 16 * k + 200 < _; omega⟩
theorem make_depth {A : Around} {C : Addr} {us : List Value} {kw : List (Str × Value)} : (A.under (.builtin "type.__call__" ⟨.ref C :: us, kw⟩)).depth = A.depth + 1 := by
  first | rfl | simp [Around.under, Code.weight, Code.isCreation, Code.isGuard, Code.isCaller, Code.frames, Code.isFrame, guardIds]
theorem make_units {A : Around} {C : Addr} {us : List Value} {kw : List (Str × Value)} : (A.under (.builtin "type.__call__" ⟨.ref C :: us, kw⟩)).units = A.units + 1 := by
  first | rfl | simp [Around.under, Code.cUnits, Code.frames, Code.isFrame]
theorem Room.make {k : Nat} {A : Around} (r : Room (k + 1) A) (C : Addr) (us : List Value) (kw : List (Str × Value)) : Room k (A.under (.builtin "type.__call__" ⟨.ref C :: us, kw⟩)) :=
  ⟨r.hd, by have := r.dp; rw [make_depth]; omega, by have := r.un; rw [make_units]; omega⟩
theorem Room.depth {k : Nat} {A : Around} (r : Room k A) : A.depth < recursionLimit := by have := r.dp; omega
theorem Room.units {k : Nat} {A : Around} (r : Room k A) : A.units + 64 < cLine := by have := r.un; omega
def tNil : TA := fun _ H Q => Q [] H
def tCons (ta : TE) (tr : TA) : TA := fun σ H Q => ta σ H fun x H1 => tr σ H1 fun xs H2 => Q (x :: xs) H2
section
variable {X : Cx} {e : Expr} {es : List Expr} {te : TE} {t : TA} {pos : Pos}
theorem pa_nil : PA X [] tNil := fun _ _ _ _ H Q I h => Calls.spliced_nil ⟨[], H, I, .nil, h⟩
theorem pa_cons (ha : PE X e te) (hr : PA X es t) (hs : starEach (e :: es) X.env = (false, eval e X.env) :: starEach es X.env := by rfl) : PA X (e :: es) (tCons te t) := by
  intro pos pins s σ H Q I h
  rw [hs]
  show wpAny _ _ (spliced ((false, eval e X.env) :: backTo pos (starEach es X.env))) _ _ s
  refine Calls.spliced_cons (thn (ha pins s σ H _ I h) fun u s1 ⟨x, H1, I1, r1, q1⟩ => ?_)
  exact thn (hr pos pins s1 σ H1 _ I1 q1) fun us s2 ⟨xs, H2, I2, r2, q2⟩ => ⟨x :: xs, H2, I2, .cons r1 r2, q2⟩
def tTup (t : TA) : TE := fun σ H Q => t σ H fun xs H1 => xs.length ≤ sizeLine ∧ ∀ p, H1 p = none → Q (.ref p) (upd H1 p (.tup xs))
def tLst (t : TA) : TE := fun σ H Q => t σ H fun xs H1 => xs.length ≤ sizeLine ∧ ∀ p, H1 p = none → Q (.ref p) (upd H1 p (.lst xs))
theorem pe_tup {x1} (h : PA X es t) : PE X (.Tuple es x1 pos) (tTup t) := by
  intro pins s σ H Q I hq
  refine wpAny_Tuple_spliced (thn (h pos pins s σ H _ I hq) fun us s1 ⟨xs, H1, I1, r, z, q⟩ => ⟨by rw [← r.length]; exact z, ?_⟩)
  have hf : H1 s1.heap.objs.size = none := I1.hok.fresh (Nat.le_refl _)
  refine ⟨.ref s1.heap.objs.size, upd H1 s1.heap.objs.size (.tup xs), I1.laid (t' := s1.toks) (fun b u e => Heap.get?_push_of_some _ e) (Nat.le_refl _) ?_, rfl, q _ hf⟩
  exact ⟨z, us, r, ⟨_, Heap.get?_push_size _ rfl, rfl, _, rfl⟩⟩
theorem pe_lst (h : PA X es t) : PE X (.List es pos) (tLst t) := by
  intro pins s σ H Q I hq
  refine wpAny_List_spliced (thn (h pos pins s σ H _ I hq) fun us s1 ⟨xs, H1, I1, r, z, q⟩ => ⟨by rw [← r.length]; exact z, ?_⟩)
  have hf : H1 s1.heap.objs.size = none := I1.hok.fresh (Nat.le_refl _)
  refine ⟨.ref s1.heap.objs.size, upd H1 s1.heap.objs.size (.lst xs), I1.laid (t' := s1.toks) (fun b u e => Heap.get?_push_of_some _ e) (Nat.le_refl _) ?_, rfl, q _ hf⟩
  exact ⟨z, us, 0, r, Heap.get?_push_size _ rfl⟩
end
abbrev Sp := List V → Hp → VK → XK → Prop
abbrev CXT := List Env → Hp → Shared → XK → Value → Shared → Prop
structure Env0 (P : Program) (w : World) (K : PySem.W.Frag) (mg : Str → Option Value) (base : Heap) (A : Around) (outer : List Env) (s : Shared) (H : Hp) : Prop where
  frames : A.frames = some outer
  mod : Mod K mg base
  bs : ∀ b o, base.get? b = some o → s.heap.get? b = some o ∧ H b = none
  bsz : base.objs.size ≤ s.heap.objs.size
  funs : s.heap.FunFrames base outer
  frf : ∀ b ∈ frs outer, H b = none
  hok : HOk P w H s.heap
  bare : AllBare s.gens
def CE (outer : List Env) (P : Program) (w : World) (H : Hp) (s : Shared) (Q : VK) (u : Value) (s' : Shared) : Prop :=
  ∃ v H', s'.os = s.os ∧ AllBare s'.gens ∧ Un (frs outer) [] H H' s.heap s'.heap ∧ HOk P w H' s'.heap ∧ RelV v u ∧ Q v H'
def CR (CX : CXT) (outer : List Env) (P : Program) (w : World) (H : Hp) (s : Shared) (Q : VK) (E : XK) (r : Result) (s' : Shared) : Prop :=
  match r with
  | .ok (.ret u) => CE outer P w H s Q u s'
  | .ok _ => False
  | .error e => CX outer H s E e s'
structure FnOk (P : Program) (w : World) (K : PySem.W.Frag) (mg : Str → Option Value) (base : Heap) (CX : CXT) (k : Nat) (f : Addr) (fd : FuncData) (ps : List Str) (sp : Sp) : Prop where
  len : ∀ vs H Q E, sp vs H Q E → vs.length = ps.length
  run : ∀ (A : Around) (outer : List Env) (s : Shared) (H : Hp) (args : Args) (us : List Value) (vs : List V) (Q : VK) (E : XK), Room k A → Env0 P w K mg base A outer s H → BindsTo s fd args (ps.zip us) → Vals vs us → sp vs H Q E →
    codeAny (model P w) A (.call (.ref f) args) (CR CX outer P w H s Q E) s
theorem FnOk.imp {P : Program} {w : World} {K : PySem.W.Frag} {mg : Str → Option Value} {base : Heap} {CX : CXT} {k : Nat} {f : Addr} {fd : FuncData} {ps : List Str} {sp sp' : Sp} (F : FnOk P w K mg base CX k f fd ps sp)
    (h : ∀ vs H Q E, sp' vs H Q E → sp vs H Q E) : FnOk P w K mg base CX k f fd ps sp' :=
  ⟨fun vs H Q E q => F.len vs H Q E (h _ _ _ _ q), fun A outer s H args us vs Q E hr he hb hv hs => F.run A outer s H args us vs Q E hr he hb hv (h _ _ _ _ hs)⟩
theorem Env0.make {P : Program} {w : World} {K : PySem.W.Frag} {mg : Str → Option Value} {base : Heap} {A : Around} {outer : List Env} {s : Shared} {H : Hp} (e : Env0 P w K mg base A outer s H) (C : Addr) (us : List Value) (kw : List (Str × Value)) :
    Env0 P w K mg base (A.under (.builtin "type.__call__" ⟨.ref C :: us, kw⟩)) outer s H := ⟨by first | exact e.frames | (simpa [Around.under, Code.envs, Code.isFrame, pushEnvs] using e.frames), e.mod, e.bs, e.bsz, e.funs, e.frf, e.hok, e.bare⟩
section
variable {X : Cx} {pins : List (Addr × Obj)} {σ : St} {H : Hp} {s s' : Shared}
theorem Inv.env0 (I : Inv X pins σ H s) : Env0 X.prog X.w X.K X.mg X.base X.A X.stack s H :=
  ⟨I.ok.frames, I.ok.mod, I.bs, Nat.le_trans I.ok.bsz I.sz, I.stack, I.stkFree, I.hok, I.bare⟩
theorem Inv.after {Q : VK} {u : Value} (I : Inv X pins σ H s) (h : CE X.stack X.prog X.w H s Q u s') : EP X pins σ Q u s' := by
  obtain ⟨v, H', os, bare, un, hok, r, q⟩ := h
  obtain ⟨hh, g, d, t, os'⟩ := s'
  obtain rfl : os' = s.os := os
  exact ⟨v, H', I.call (h' := hh) (g' := g) (d' := d) (t' := t) (ch := []) un hok bare (fun b z => absurd z (by simp)), r, q⟩
end
def tCall (sp : Sp) (dvs : List V) (E : XK) (t : TA) : TE := fun σ H Q => t σ H fun vs H1 => sp (vs ++ dvs) H1 Q E
def tMeth (C : Addr) (m : Str) (sp : Sp) (dvs : List V) (E : XK) (ta : TE) (t : TA) : TE := fun σ H Q => ta σ H fun x H1 => ∃ a dx fs, x = .ref a ∧ H1 a = some (.ins C dx fs) ∧ fs.lookup m = none ∧
  t σ H1 fun vs H2 => sp (x :: (vs ++ dvs)) H2 Q E
def tMake (C : Addr) (sp : Sp) (dvs : List V) (E : XK) (t : TA) : TE := fun σ H Q => t σ H fun vs H1 => ∀ x dx, H1 x = none → H1 dx = none → dx ≠ x →
  sp (.ref x :: (vs ++ dvs)) (upd (upd H1 dx (.own x)) x (.ins C dx [])) (fun v H2 => v = .non ∧ Q (.ref x) H2) E
def Binds (K : PySem.W.Frag) (fd : FuncData) (ps : List Str) (ds : List Value) : Prop :=
  ∀ (s : Shared) (us : List Value), K.In s.heap → (us ++ ds).length = ps.length → BindsTo s fd ⟨us, []⟩ (ps.zip (us ++ ds))
theorem Binds.all {K : PySem.W.Frag} {fd : FuncData} {ps : List Str} (h : ∀ us : List Value, us.length = ps.length → bindArgs fd ⟨us, []⟩ = pure (ps.zip us)) : Binds K fd ps [] := fun s us _ hl => by
  rw [List.append_nil] at hl ⊢
  exact .of_eq (h us hl)
def Passes (CX : CXT) (X : Cx) (E : XK) : Prop := ∀ (pins : List (Addr × Obj)) (σ : St) (H : Hp) (s : Shared) (e : Value) (s' : Shared), Inv X pins σ H s → CX X.stack H s E e s' → X.xe e s'
section
variable {X : Cx} {CX : CXT} {k : Nat} {f C : Addr} {fd : FuncData} {ps : List Str} {sp : Sp} {dvs : List V} {ds : List Value} {E : XK} {x m : Str} {p pos apos : Pos} {e o : Expr} {es : List Expr} {ta : TE} {t : TA}
theorem run_fn {pins : List (Addr × Obj)} {σ : St} {H : Hp} {s : Shared} {Q : VK} {us : List Value} {vs : List V} (F : FnOk X.prog X.w X.K X.mg X.base CX k f fd ps sp) (hr : Room k X.A) (hb : Binds X.K fd ps ds) (hd : Vals dvs ds) (hx : Passes CX X E)
    (I : Inv X pins σ H s) (r : Vals vs us) (h : sp (vs ++ dvs) H Q E) : wpAny (model X.prog X.w) X.A (call (.ref f) us) (EP X pins σ Q) X.xe s := by
  have r2 : Vals (vs ++ dvs) (us ++ ds) := r.append hd
  have hl : (us ++ ds).length = ps.length := by rw [← r2.length]; exact F.len _ _ _ _ h
  refine wpAny_call (codeAny_mono (F.run X.A X.stack s H ⟨us, []⟩ (us ++ ds) (vs ++ dvs) Q E hr I.env0 (hb s us I.kIn hl) r2 h) fun r s' hq => ?_)
  cases r with
  | error e => exact hx pins σ H s e s' I hq
  | ok fl =>
    cases fl with
    | ret u => exact I.after hq
    | next => exact False.elim hq
    | brk => exact False.elim hq
    | cont => exact False.elim hq
theorem pe_call (F : FnOk X.prog X.w X.K X.mg X.base CX k f fd ps sp) (hr : Room k X.A) (hg : Gl X x) (hm : X.mg x = some (.ref f)) (hk : PySem.W.keepIn X.K (.ref f) = true) (hb : Binds X.K fd ps ds) (hd : Vals dvs ds) (hx : Passes CX X E)
    (ha : PA X (e :: es) t) (hdb : (x == ("__debug__" : Str)) = false := by decide) (he : starEach (e :: es) X.env = (false, eval e X.env) :: starEach es X.env := by rfl) (hpl : (backTo pos (starEach es X.env)).any (·.1) = false := by rfl) :
    PE X (.Call (.Name x p) (e :: es) [] pos) (tCall sp dvs E t) := by
  intro pins s σ H Q I h
  refine wpAny_Call_Name_kw (ld_glob I hg hm ?_ hdb)
  refine PySem.W.callWith_K (h₀ := X.base) I.ok.mod.kin hk (thn (ha pos pins s σ H _ I h) fun us s1 ⟨vs, H1, I1, r, q⟩ => ⟨I1.kIn, ?_⟩) he hpl
  exact run_fn F hr hb hd hx I1 r q
theorem pe_meth {pl : Sem Bool} (he : PE X o ta) (c : Cls X.K C) (hm : Meth X.K C m f) (F : FnOk X.prog X.w X.K X.mg X.base CX k f fd ps sp) (hr : Room k X.A) (hb : Binds X.K fd ps ds) (hd : Vals dvs ds) (hx : Passes CX X E) (ha : PA X (e :: es) t)
    (hst : starEach (e :: es) X.env = (false, eval e X.env) :: starEach es X.env := by rfl) (hpl : (backTo pos (starEach es X.env)).any (·.1) = false := by rfl)
    (ht : eval (.Call (.Attribute o m apos) (e :: es) [] pos) X.env = (do
      let ov ← eval o X.env
      standAt apos.atName
      let (f, first) ← holding [ov] (getMethod ov m pl)
      callWith pos f first (backTo pos (starEach (e :: es) X.env)) (backToKw pos (keywordEach [] X.env))) := by rfl) :
    PE X (.Call (.Attribute o m apos) (e :: es) [] pos) (tMeth C m sp dvs E ta t) := by
  intro pins s σ H Q I h
  refine PySem.W.methodCall_KW (pl := pl) (thn (he pins s σ H _ I h) fun u s1 ⟨x, H1, I1, rx, a, dx, fs, ex, ea, l, q⟩ => ?_) ht
  subst ex
  obtain rfl : u = Value.ref a := rx
  refine getmeth_ok I1 ea c hm l ?_
  refine PySem.W.callWith_K (first := [.ref a]) (h₀ := X.base) I.ok.mod.kin hm.kp (thn (ha pos pins s1 σ H1 _ I1 q) fun us s2 ⟨vs, H2, I2, r, q2⟩ => ⟨I2.kIn, ?_⟩) hst hpl
  exact run_fn (us := .ref a :: us) (vs := .ref a :: vs) F hr hb hd hx I2 (.cons rfl r) q2
theorem pe_meth0 {pl : Sem Bool} (he : PE X o ta) (c : Cls X.K C) (hm : Meth X.K C m f) (F : FnOk X.prog X.w X.K X.mg X.base CX k f fd ps sp) (hr : Room k X.A) (hb : Binds X.K fd ps ds) (hd : Vals dvs ds) (hx : Passes CX X E)
    (ht : eval (.Call (.Attribute o m apos) [] [] pos) X.env = (do
      let ov ← eval o X.env
      standAt apos.atName
      let (f, first) ← holding [ov] (getMethod ov m pl)
      callWith pos f first (backTo pos (starEach [] X.env)) (backToKw pos (keywordEach [] X.env))) := by rfl) :
    PE X (.Call (.Attribute o m apos) [] [] pos) (tMeth C m sp dvs E ta tNil) := by
  intro pins s σ H Q I h
  refine PySem.W.methodCall_KW (pl := pl) (thn (he pins s σ H _ I h) fun u s1 ⟨x, H1, I1, rx, a, dx, fs, ex, ea, l, q⟩ => ?_) ht
  subst ex
  obtain rfl : u = Value.ref a := rx
  refine getmeth_ok I1 ea c hm l ?_
  exact PySem.W.callWith_K0 (first := [.ref a]) I1.kIn hm.kp (run_fn (us := [.ref a]) (vs := [.ref a]) F hr hb hd hx I1 (.cons rfl .nil) q)
structure Mk (K : PySem.W.Frag) (C f : Addr) : Prop where
  makes : PySem.W.makesIn K C = true
  init : PySem.W.findIn K (.ref C) "__init__" = some (some (.ref f))
  fn : PySem.W.isFn K (.ref f) = true
  kp : PySem.W.keepIn K (.ref C) = true
theorem run_make {pins : List (Addr × Obj)} {σ : St} {H : Hp} {s : Shared} {Q : VK} {us : List Value} {vs : List V} (M : Mk X.K C f) (F : FnOk X.prog X.w X.K X.mg X.base CX k f fd ps sp) (hr : Room (k + 1) X.A) (hb : Binds X.K fd ps ds) (hd : Vals dvs ds)
    (hx : Passes CX X E) (I : Inv X pins σ H s) (r : Vals vs us)
    (h : ∀ x dx, H x = none → H dx = none → dx ≠ x → sp (.ref x :: (vs ++ dvs)) (upd (upd H dx (.own x)) x (.ins C dx [])) (fun v H2 => v = .non ∧ Q (.ref x) H2) E) :
    wpAny (model X.prog X.w) X.A (call (.ref C) us) (EP X pins σ Q) X.xe s := by
  have hq := h (s.heap.objs.size + 1) s.heap.objs.size (I.hok.fresh (Nat.le_succ _)) (I.hok.fresh (Nat.le_refl _)) (Nat.ne_of_lt (Nat.lt_succ_self _))
  have I2 := Inv.made (C := C) I
  have r2 : Vals (V.ref (s.heap.objs.size + 1) :: (vs ++ dvs)) (Value.ref (s.heap.objs.size + 1) :: (us ++ ds)) := .cons rfl (r.append hd)
  have hl : (Value.ref (s.heap.objs.size + 1) :: us ++ ds).length = ps.length := by
    have e := r2.length
    rw [F.len _ _ _ _ hq] at e
    exact e.symm
  refine wpAny_call (make_map (f := f) I.kIn M.makes M.init (beq_iff_eq.mp M.fn) (codeAny_mono (F.run _ X.stack _ _ ⟨Value.ref (s.heap.objs.size + 1) :: us, []⟩ (Value.ref (s.heap.objs.size + 1) :: (us ++ ds)) _ _ E (hr.make C us [])
    (I2.env0.make C us []) (hb _ (Value.ref (s.heap.objs.size + 1) :: us) I2.kIn hl) r2 hq) fun r s' hq' => ?_))
  cases r with
  | error e => exact hx pins σ _ _ e s' I2 hq'
  | ok fl =>
    cases fl with
    | ret u =>
      obtain ⟨v, H', I3, rv, ev, q3⟩ := I2.after hq'
      subst ev
      exact ⟨rv, ⟨V.ref (s.heap.objs.size + 1), H', I3, rfl, q3⟩⟩
    | next => exact False.elim hq'
    | brk => exact False.elim hq'
    | cont => exact False.elim hq'
theorem pe_make (M : Mk X.K C f) (F : FnOk X.prog X.w X.K X.mg X.base CX k f fd ps sp) (hr : Room (k + 1) X.A) (hg : Gl X x) (hm : X.mg x = some (.ref C)) (hb : Binds X.K fd ps ds) (hd : Vals dvs ds) (hx : Passes CX X E)
    (ha : PA X (e :: es) t) (hdb : (x == ("__debug__" : Str)) = false := by decide) (he : starEach (e :: es) X.env = (false, eval e X.env) :: starEach es X.env := by rfl) (hpl : (backTo pos (starEach es X.env)).any (·.1) = false := by rfl) :
    PE X (.Call (.Name x p) (e :: es) [] pos) (tMake C sp dvs E t) := by
  intro pins s σ H Q I h
  refine wpAny_Call_Name_kw (ld_glob I hg hm ?_ hdb)
  refine PySem.W.callWith_K (h₀ := X.base) I.ok.mod.kin M.kp (thn (ha pos pins s σ H _ I h) fun us s1 ⟨vs, H1, I1, r, q⟩ => ⟨I1.kIn, ?_⟩) he hpl
  exact run_make M F hr hb hd hx I1 r q
theorem pe_make0 (M : Mk X.K C f) (F : FnOk X.prog X.w X.K X.mg X.base CX k f fd ps sp) (hr : Room (k + 1) X.A) (hg : Gl X x) (hm : X.mg x = some (.ref C)) (hb : Binds X.K fd ps ds) (hd : Vals dvs ds) (hx : Passes CX X E)
    (hdb : (x == ("__debug__" : Str)) = false := by decide) : PE X (.Call (.Name x p) [] [] pos) (tMake C sp dvs E tNil) := by
  intro pins s σ H Q I h
  refine wpAny_Call_Name_kw (ld_glob I hg hm ?_ hdb)
  exact PySem.W.callWith_K0 I.kIn M.kp (run_make (us := []) M F hr hb hd hx I .nil h)
end
def PK (X : Cx) (kws : List Keyword) (t : TA) : Prop :=
  ∀ (pos : Pos) (pins : List (Addr × Obj)) (s : Shared) (σ : St) (H : Hp) (Q : List V → Hp → Prop), Inv X pins σ H s → t σ H Q → wpAny (model X.prog X.w) X.A (evalAll ((backToKw pos (keywordEach kws X.env)).map (·.2))) (AP X pins σ Q) X.xe s
section
variable {X : Cx} {CX : CXT} {k : Nat} {f C : Addr} {fd : FuncData} {ps ks : List Str} {sp : Sp} {E : XK} {x m : Str} {p pos apos kpos : Pos} {e o : Expr} {es : List Expr} {kws : List Keyword} {te ta : TE} {t tk : TA} {nm : Option Str}
structure KBinds (K : PySem.W.Frag) (fd : FuncData) (ps ks : List Str) (g : List Value → List Value → List Value) (gV : List V → List V → List V) : Prop where
  to : ∀ (s : Shared) (us ws : List Value), K.In s.heap → (g us ws).length = ps.length → BindsTo s fd ⟨us, ks.zip ws⟩ (ps.zip (g us ws))
  rel : ∀ {vs : List V} {us : List Value} {zs : List V} {ws : List Value}, Vals vs us → Vals zs ws → Vals (gV vs zs) (g us ws)
def tCallK (sp : Sp) (gV : List V → List V → List V) (E : XK) (t tk : TA) : TE := fun σ H Q => t σ H fun vs H1 => tk σ H1 fun zs H2 => sp (gV vs zs) H2 Q E
variable {g : List Value → List Value → List Value} {gV : List V → List V → List V}
end
structure FnScope (N P : List Str) (sc : Scope) : Prop where
  kind : sc.kind = .function
  co : sc.isCoroutine = false
  gen : sc.isGenerator = false
  nd : N.Nodup
  pre : N.take P.length = P
  par : ∀ x ∈ P, sc.names.lookup x = some .local ∨ sc.names.lookup x = some .cell
  nofree : ∀ y ∈ sc.names, y.2 ≠ .free
theorem bindL_out {kindOf : Str → Option NameKind} {x : Str} : ∀ {binds : List (Str × Value)} {m : Str → Option Value}, (∀ v, (x, v) ∉ binds) → bindL kindOf binds m x = m x
  | [], _, _ => rfl
  | (n, v) :: r, m, h => by
    unfold bindL
    rw [bindL_out fun w hw => h w (List.mem_cons_of_mem _ hw)]
    split
    · have : x ≠ n := by rintro rfl; exact h v List.mem_cons_self
      simp [this]
    · rfl
theorem bindC_out {kindOf : Str → Option NameKind} {x : Str} : ∀ {binds : List (Str × Value)} {m : Str → Option Value}, (∀ v, (x, v) ∉ binds) → bindC kindOf binds m x = m x
  | [], _, _ => rfl
  | (n, v) :: r, m, h => by
    unfold bindC
    rw [bindC_out fun w hw => h w (List.mem_cons_of_mem _ hw)]
    split
    · rfl
    · have : x ≠ n := by rintro rfl; exact h v List.mem_cons_self
      simp [this]
theorem bindL_get {kindOf : Str → Option NameKind} {x : Str} {v : Value} : ∀ {P : List Str} {vs : List Value} {i : Nat} {m : Str → Option Value}, P.Nodup → P[i]? = some x → vs[i]? = some v → kindOf x = some .local →
    bindL kindOf (P.zip vs) m x = some v
  | [], _, _, _, _, h, _, _ => by simp at h
  | _ :: _, [], _, _, _, _, h, _ => by simp at h
  | p :: P, w :: vs, 0, m, nd, h1, h2, hk => by
    simp at h1 h2; subst h1; subst h2
    show bindL kindOf ((p, w) :: P.zip vs) m p = _
    unfold bindL
    rw [bindL_out fun v hv => (List.nodup_cons.mp nd).1 (List.of_mem_zip hv).1, if_pos hk]
    simp
  | p :: P, w :: vs, i + 1, m, nd, h1, h2, hk => by
    show bindL kindOf ((p, w) :: P.zip vs) m x = _
    unfold bindL
    exact bindL_get (i := i) (List.nodup_cons.mp nd).2 (by simpa using h1) (by simpa using h2) hk
theorem bindC_get {kindOf : Str → Option NameKind} {x : Str} {v : Value} : ∀ {P : List Str} {vs : List Value} {i : Nat} {m : Str → Option Value}, P.Nodup → P[i]? = some x → vs[i]? = some v → kindOf x ≠ some .local →
    bindC kindOf (P.zip vs) m x = some v
  | [], _, _, _, _, h, _, _ => by simp at h
  | _ :: _, [], _, _, _, _, h, _ => by simp at h
  | p :: P, w :: vs, 0, m, nd, h1, h2, hk => by
    simp at h1 h2; subst h1; subst h2
    show bindC kindOf ((p, w) :: P.zip vs) m p = _
    unfold bindC
    rw [bindC_out fun v hv => (List.nodup_cons.mp nd).1 (List.of_mem_zip hv).1, if_neg hk]
    simp
  | p :: P, w :: vs, i + 1, m, nd, h1, h2, hk => by
    show bindC kindOf ((p, w) :: P.zip vs) m x = _
    unfold bindC
    exact bindC_get (i := i) (List.nodup_cons.mp nd).2 (by simpa using h1) (by simpa using h2) hk
def start (N : List Str) (vs : List V) : St := vs.map some ++ List.replicate (N.length - vs.length) none
def cxOf (CX : CXT) (P : Program) (w : World) (K : PySem.W.Frag) (mg : Str → Option Value) (base : Heap) (N : List Str) (qual : Str) (scope : Scope) (f : Addr) (cd : Value) (A : Around) (outer : List Env) (s : Shared) (H : Hp) (E : XK) : Cx where
  prog := P
  w := w
  K := K
  mg := mg
  base := base
  A := A.deeper (envOfC qual scope s.heap.objs.size f cd)
  N := N
  s₀ := s
  H₀ := H
  env := envOfC qual scope s.heap.objs.size f cd
  outer := outer
  stack := envOfC qual scope s.heap.objs.size f cd :: outer
  ex := []
  calm := true
  fn := fun _ => true
  pn := []
  xe := fun e s' => wpAny (model P w) (A.deeper (envOfC qual scope s.heap.objs.size f cd)) (leaving (envOfC qual scope s.heap.objs.size f cd) e) (fun _ s'' => CX outer H s E e s'') (fun e' s'' => CX outer H s E e' s'') s'
theorem cell_has {sc : Scope} {n : Nat} {x : Str} (h : sc.names.lookup x = some .cell) : ∃ c, (cellsFrom n sc.names []).lookup x = some c := by
  have q := PySem.W.cellsFrom_some sc.names n [] (.inl h)
  exact Option.isSome_iff_exists.mp q
theorem inv_start {CX : CXT} {P : Program} {w : World} {K : PySem.W.Frag} {mg : Str → Option Value} {base : Heap} {N ps : List Str} {qual : Str} {scope : Scope} {f : Addr} {cd : Value} {A : Around} {outer : List Env} {s s1 : Shared} {H : Hp} {E : XK} {us : List Value} {vs : List V}
    (S : FnScope N ps scope) (hd : A.handled = none) (e0 : Env0 P w K mg base A outer s H) (hl : vs.length = ps.length) (r : Vals vs us)
    (x : InCallC s s.heap.objs.size (bindL (envOfC qual scope s.heap.objs.size f cd).kindOf (ps.zip us) fun _ => none) (cellsFrom (s.heap.objs.size + 1) scope.names []) (bindC (envOfC qual scope s.heap.objs.size f cd).kindOf (ps.zip us) fun _ => none) s1) :
    Inv (cxOf CX P w K mg base N qual scope f cd A outer s H E) [] (start N vs) H s1 := by
  have hpl : ps.length ≤ N.length := by have := congrArg List.length S.pre; rw [List.length_take] at this; omega
  obtain ⟨h1, tk, rfl, hk⟩ := x.done
  have noA : ∀ b : Addr, b ∉ (cxOf CX P w K mg base N qual scope f cd A outer s H E).ex := fun b z => absurd (show b ∈ ([] : List Addr) from z) (by simp)
  refine ⟨⟨e0.mod, S.kind, rfl, rfl, Nat.le_refl _, fun y z c h1 h2 => ?_, fun y hy => ?_, fun y c _ h => ?_, fun _ => hd, Around.frames_deeper e0.frames, .inr ⟨rfl, rfl⟩, fun b z => absurd z (noA b), e0.bs, e0.bsz, fun b _ _ => noA b, fun b z => absurd z (noA b), e0.funs, e0.frf⟩,
    rfl, e0.bare, Un.kept hk, ⟨_, x.toInCall.ns, fun i y v h1 h2 h3 => ?_⟩, fun y c h => ⟨_, x.cell y c h⟩, e0.hok.fresh (Nat.le_refl _), fun y c h => ?_, fun p hp => absurd (show p ∈ ([] : List (Addr × Obj)) from hp) (by simp), e0.hok.kept hk, ?_⟩
  · exact name_of_addr x.apart (PySem.mem_of_lookup h1) (PySem.mem_of_lookup h2)
  · have hy : scope.names.lookup y = some .cell ∨ scope.names.lookup y = some .free := hy
    rcases hy with hy | hy
    · exact cell_has hy
    · exact absurd rfl (S.nofree _ (PySem.mem_of_lookup hy))
  · exact Nat.le_of_lt (x.above y c (PySem.mem_of_lookup h))
  · have hi : i < vs.length := by
      unfold start at h2
      by_cases hi : i < vs.length
      · exact hi
      · rw [List.getElem?_append_right (by simpa using hi)] at h2
        rw [List.getElem?_replicate] at h2
        split at h2 <;> cases h2
    have ha : vs[i]? = some v := by
      unfold start at h2
      rw [List.getElem?_append_left (by simpa using hi), List.getElem?_map] at h2
      cases e : vs[i]? with
      | none => rw [e] at h2; cases h2
      | some a => rw [e] at h2; cases h2; rfl
    obtain ⟨u, hu, rv⟩ := r.get ha
    have hp : ps[i]? = some y := by
      rw [← S.pre, List.getElem?_take_of_lt (by omega)]; exact h1
    have ndP : ps.Nodup := by rw [← S.pre]; exact S.nd.sublist (List.take_sublist _ _)
    refine ⟨u, rv, ?_⟩
    rcases S.par y (List.mem_of_getElem? hp) with k | k
    · exact .inl ⟨k, bindL_get ndP hp hu k⟩
    · obtain ⟨c, e⟩ := cell_has (n := s.heap.objs.size + 1) k
      refine .inr ⟨.inl k, c, e, ?_⟩
      have q := x.cell y c e
      rw [bindC_get ndP hp hu (by show scope.names.lookup y ≠ _; rw [k]; decide)] at q
      exact q
  · exact e0.hok.fresh (Nat.le_of_lt (x.above y c (PySem.mem_of_lookup h)))
  · unfold start
    show _ = N.length
    rw [List.length_append, List.length_map, List.length_replicate]
    omega
theorem fn_of {CX : CXT} {P : Program} {w : World} {K : PySem.W.Frag} {mg : Str → Option Value} {base : Heap} {k : Nat} {f : Addr} {name qual : Str} {params : Arguments} {body : List Stmt} {scope : Scope} {dV kV doc pm cdv ct oc : Value} {an od : Option Addr}
    {osl : Array (Option Value)} {N ps : List Str} {sp : Sp} (lk : K.lookup f = some ⟨oc, od, .func (PySem.W.fnOf name qual params body scope dV kV doc pm an cdv ct), osl⟩) (hcd : PySem.W.codeIn K cdv qual = true) (S : FnScope N ps scope)
    (len : ∀ vs H Q E, sp vs H Q E → vs.length = ps.length)
    (hbody : ∀ (A : Around) (outer : List Env) (s : Shared) (H : Hp) (vs : List V) (Q : VK) (E : XK), Room k (A.deeper (envOfC qual scope s.heap.objs.size f cdv)) → sp vs H Q E →
      ∃ t, PSs (cxOf CX P w K mg base N qual scope f cdv A outer s H E) body t ∧ t { nx := fun _ H' => Q .non H', rt := Q } (start N vs) H) :
    FnOk P w K mg base CX (k + 1) f (PySem.W.fnOf name qual params body scope dV kV doc pm an cdv ct) ps sp := by
  refine ⟨len, fun A outer s H args us vs Q E hr e0 hb r hsp => ?_⟩
  have hl := len _ _ _ _ hsp
  have KX : K.In s.heap := e0.mod.kin.keeps fun b o e => (e0.bs b o e).1
  have lim : s.heap.NoLimit := e0.mod.nolimit.keeps fun b o e => (e0.bs b o e).1
  have hkind : ∀ y ∈ ps.zip us, scope.names.lookup y.1 = some .local ∨ (scope.names.lookup y.1 = some .cell ∧ ((cellsFrom (s.heap.objs.size + 1) scope.names []).lookup y.1).isSome = true) := fun ⟨n, v⟩ hy => by
    rcases S.par n (List.of_mem_zip hy).1 with q | q
    · exact .inl q
    · exact .inr ⟨q, PySem.W.cellsFrom_some _ _ _ (.inl q)⟩
  refine codeAny_call_function hr.depth (KX _ _ lk) rfl S.co S.gen rfl (PySem.W.codeRec_of KX hcd) (hb _ _ _ _ ?_)
  refine wpAny_newFunctionEnv_cells S.kind hkind fun env he s1 x => ?_
  subst he
  refine ⟨lim.keeps x.toInCall.keep, codeAny_func ?_⟩
  obtain ⟨t, ht, hq⟩ := hbody A outer s H vs Q E (hr.deeper _) hsp
  have I : Inv (cxOf CX P w K mg base N qual scope f cdv A outer s H E) [] (start N vs) H s1 := inv_start S hr.hd e0 hl r x
  refine wpAny_mono (ht [] s1 (start N vs) H _ I hq) (fun fl s' hs => ?_) fun e s' hs => hs
  have fin : ∀ {σ' : St} {H' : Hp} {v : V} {u : Value}, Inv (cxOf CX P w K mg base N qual scope f cdv A outer s H E) [] σ' H' s' → RelV v u → Q v H' → CE outer P w H s Q u s' :=
    fun {σ' H' v u} J rv q => ⟨v, H', J.os, J.bare, J.base, J.hok, rv, q⟩
  cases fl with
  | ret u =>
    obtain ⟨v, σ', H', J, rv, q⟩ := hs
    exact fin J rv q
  | next =>
    obtain ⟨σ', H', J, q⟩ := hs
    exact fin (v := V.non) (u := Value.none) J rfl q
  | brk =>
    obtain ⟨_, _, _, q⟩ := hs
    exact False.elim q
  | cont =>
    obtain ⟨_, _, _, q⟩ := hs
    exact False.elim q
end L2
namespace L2
open PySem PySem.Spec PyProof.Rows
section
variable {X : Cx} {x : Str} {p pos : Pos} {e : Expr} {es : List Expr} {t : TA} {id T : String} {r : List V → Hp → VK → Prop}
def tCB (r : List V → Hp → VK → Prop) (t : TA) : TE := fun σ H Q => t σ H fun vs H1 => r vs H1 Q
theorem pe_callB (hc : CallR X (.builtin id) r) (hg : Gl X x) (hm : X.mg x = none) (hv : bootBuiltins x = some (.builtin id)) (ha : PA X (e :: es) t) (hn : x ≠ "__name__" := by decide) (hdb : (x == ("__debug__" : Str)) = false := by decide)
    (he : starEach (e :: es) X.env = (false, eval e X.env) :: starEach es X.env := by rfl) (hpl : (backTo pos (starEach es X.env)).any (·.1) = false := by rfl) : PE X (.Call (.Name x p) (e :: es) [] pos) (tCB r t) := by
  intro pins s σ H Q I h
  refine wpAny_Call_Name_kw (ld_blt I hg hm hv ?_ hn hdb)
  exact PyProof.Rows.callWith_builtin1 (thn (ha pos pins s σ H _ I h) fun us s1 ⟨vs, H1, I1, r1, q1⟩ => hc pins s1 σ H1 vs us Q I1 r1 q1) he hpl
theorem pe_callTy (hc : CallR X (.type T) r) (hg : Gl X x) (hm : X.mg x = none) (hv : bootBuiltins x = some (.type T)) (ha : PA X (e :: es) t) (hn : x ≠ "__name__" := by decide) (hdb : (x == ("__debug__" : Str)) = false := by decide)
    (he : starEach (e :: es) X.env = (false, eval e X.env) :: starEach es X.env := by rfl) (hpl : (backTo pos (starEach es X.env)).any (·.1) = false := by rfl) : PE X (.Call (.Name x p) (e :: es) [] pos) (tCB r t) := by
  intro pins s σ H Q I h
  refine wpAny_Call_Name_kw (ld_blt I hg hm hv ?_ hn hdb)
  exact PyProof.Rows.callWith_type1 (thn (ha pos pins s σ H _ I h) fun us s1 ⟨vs, H1, I1, r1, q1⟩ => hc pins s1 σ H1 vs us Q I1 r1 q1) he hpl
end
end L2
namespace HT
open PySem PyProof.Rows
def lexLt : List Int → List Int → Bool
  | [], [] => false
  | [], _ :: _ => true
  | _ :: _, [] => false
  | x :: xs, y :: ys => if x = y then lexLt xs ys else decide (x < y)
section
open PySem.SeqAt
open PySem.AutoSeq1 (wpAny_loadPart')
open PySem.MeetsSeq PySem.MeetsSeq2 PySem.MeetsSeq3
end
section
variable {prog : Program} {w : World} {A : Around} {E : Value → Shared → Prop} {s : Shared}
def sIx (n d : Nat) : Option Int → Nat
  | none => d
  | some v => if v < 0 then (v + (n : Int)).toNat else min v.toNat n
theorem sIx_none (n d : Nat) : sIx n d none = d := rfl
theorem sIx_nat (n d k : Nat) : sIx n d (some (k : Int)) = min k n := by
  show (if (k : Int) < 0 then ((k : Int) + (n : Int)).toNat else min (k : Int).toNat n) = min k n
  rw [if_neg (by omega), Int.toNat_natCast]
end
end HT
namespace L2
open PySem PySem.Spec PyProof.Rows
abbrev TO := St → Hp → (Option Int → Hp → Prop) → Prop
def PO (X : Cx) (e : Option Expr) (t : TO) : Prop :=
  ∀ (pins : List (Addr × Obj)) (s : Shared) (σ : St) (H : Hp) (Q : Option Int → Hp → Prop), Inv X pins σ H s → t σ H Q →
    wpAny (model X.prog X.w) X.A (evalPart e X.env) (fun u s' => ∃ o H', Inv X pins σ H' s' ∧ IsPart u o ∧ Q o H') X.xe s
def tNoPart : TO := fun _ H Q => Q none H
def tPart (t : TE) : TO := fun σ H Q => t σ H fun x H1 => ∃ i, x = .int i ∧ Q (some i) H1
theorem intsAre_of {ns : List Int} : ∀ {us : List Value}, Vals (ns.map V.int) us → IntsAre us ns := by
  induction ns with
  | nil => intro us r; rw [List.map_nil] at r; cases r; exact .nil
  | cons n ns ih =>
    intro us r
    rw [List.map_cons] at r
    cases r with
    | cons r1 r2 =>
      obtain ⟨t, e⟩ := r1
      subst e
      exact .cons n t (ih r2)
section
variable {X : Cx} {e : Expr} {te : TE} {lo hi : Option Expr} {tl th : TO} {pos p2 : Pos}
theorem po_none : PO X none tNoPart := by
  intro pins s σ H Q I h
  rw [evalPart_none]
  exact wpAny_pure ⟨none, H, I, .none, h⟩
theorem po_some (h : PE X e te) : PO X (some e) (tPart te) := by
  intro pins s σ H Q I hw
  rw [evalPart_some]
  refine thn (h pins s σ H _ I hw) fun u s1 ⟨x, H1, I1, r1, q1⟩ => ?_
  obtain ⟨i, rfl, q⟩ := q1
  obtain ⟨t, rfl⟩ := r1
  exact ⟨some i, H1, I1, .int i t, q⟩
def SlR (X : Cx) (r : V → Option Int → Option Int → Hp → VK → Prop) : Prop :=
  ∀ (pins : List (Addr × Obj)) (s : Shared) (σ : St) (H : Hp) (x : V) (v vl vu : Value) (lo hi : Option Int) (sl : Addr) (Q : VK), Inv X pins σ H s → RelV x v → s.heap.IsSliceOf sl vl vu .none → IsPart vl lo → IsPart vu hi → r x lo hi H Q →
    ∃ T id, typeLookup (.type T) "__getitem__" = pure (some (.builtin id)) ∧ s.TypeIs v T ∧ wpAny (model X.prog X.w) X.A (getItem v (.ref sl)) (EP X pins σ Q) X.xe s
def tSl (r : V → Option Int → Option Int → Hp → VK → Prop) (te : TE) (tl th : TO) : TE := fun σ H Q => te σ H fun x H1 => tl σ H1 fun l H2 => th σ H2 fun u H3 => r x l u H3 Q
theorem pe_slice {r : V → Option Int → Option Int → Hp → VK → Prop} (hr : SlR X r) (he : PE X e te) (hl : PO X lo tl) (hu : PO X hi th) : PE X (.Subscript e (.Slice lo hi none p2) pos) (tSl r te tl th) := by
  intro pins s σ H Q I h
  refine Subscript_ (thn (he pins s σ H _ I h) fun v s1 ⟨x, H1, I1, r1, q1⟩ => ?_)
  refine wpAny_Slice (thn (hl pins s1 σ H1 _ I1 q1) fun vl s2 ⟨l, H2, I2, pl, q2⟩ => thn (hu pins s2 σ H2 _ I2 q2) fun vu s3 ⟨u, H3, I3, pu, q3⟩ => ?_)
  rw [evalPart_none]
  refine wpAny_pure ?_
  have I4 : Inv X pins σ H3 { s3 with heap := s3.heap.push { cls := .type "slice", data := .fields #[vl, vu, .none] } } := I3.kept (t' := s3.toks) fun b ob q => Heap.get?_push_of_some _ q
  obtain ⟨T, id, hT, ht, hg⟩ := hr pins { s3 with heap := s3.heap.push { cls := .type "slice", data := .fields #[vl, vu, .none] } } σ H3 x v vl vu l u s3.heap.objs.size Q I4 r1 (Heap.IsSliceOf.new ..) pl pu q3
  show wpAny (model X.prog X.w) X.A (subscriptTail e (.Slice lo hi none p2) v (.ref s3.heap.objs.size)) (EP X pins σ Q) X.xe { s3 with heap := s3.heap.push { cls := .type "slice", data := .fields #[vl, vu, .none] } }
  exact tail_any (ops := [.ref s3.heap.objs.size, v]) ht hT hg (by with_unfolding_all rfl)
def cutV (xs : List V) (lo hi : Option Int) : List V := (xs.drop (HT.sIx xs.length 0 lo)).take (HT.sIx xs.length xs.length hi - HT.sIx xs.length 0 lo)
theorem cutV_length (xs : List V) (lo hi : Option Int) : (cutV xs lo hi).length ≤ xs.length := by
  unfold cutV
  rw [List.length_take, List.length_drop]
  omega
def rSlT (K : PySem.W.Frag) : V → Option Int → Option Int → Hp → VK → Prop := fun x lo hi H Q => ∃ a xs, x = .ref a ∧ SqT K H a xs ∧
  ¬ (HT.sIx xs.length 0 lo = 0 ∧ HT.sIx xs.length xs.length hi = xs.length) ∧ ∀ p, H p = none → Q (.ref p) (upd H p (.tup (cutV xs lo hi)))
def rLtT (K : PySem.W.Frag) : R2 := fun x y H Q => ∃ a b ns ms, x = .ref a ∧ y = .ref b ∧ SqT K H a (ns.map V.int) ∧ SqT K H b (ms.map V.int) ∧ Q (.bl (HT.lexLt ns ms)) H
def rCatT (K : PySem.W.Frag) : R2 := fun x y H Q => ∃ a b xs ys, x = .ref a ∧ y = .ref b ∧ SqT K H a xs ∧ SqT K H b ys ∧ xs ≠ [] ∧ xs.length + ys.length ≤ sizeLine ∧
  (ys = [] → Q (.ref a) H) ∧ (ys ≠ [] → ∀ p, H p = none → Q (.ref p) (upd H p (.tup (xs ++ ys))))
end
end L2
namespace L2
open PySem PySem.Spec PyProof.Rows
def ixN (n : Nat) (i : Int) : Option Nat := if 0 ≤ i then (if i < n then some i.toNat else none) else if -(n : Int) ≤ i then some (i + n).toNat else none
def atI {α : Type} (xs : List α) (i : Int) : Option α := (ixN xs.length i).bind fun j => xs[j]?
theorem ixN_seq {n : Nat} {i : Int} {j : Nat} (h : ixN n i = some j) : seqIndex? i n = some j ∧ j < n ∧ -(n : Int) ≤ i ∧ i < n := by
  unfold ixN at h
  by_cases h0 : 0 ≤ i
  · rw [if_pos h0] at h
    by_cases h1 : i < n
    · rw [if_pos h1] at h
      have e : i.toNat = j := Option.some.inj h
      exact ⟨by rw [seqIndex_of h0 h1, e], by omega, by omega, h1⟩
    · rw [if_neg h1] at h; cases h
  · rw [if_neg h0] at h
    by_cases h1 : -(n : Int) ≤ i
    · rw [if_pos h1] at h
      have e : (i + n).toNat = j := Option.some.inj h
      exact ⟨by rw [seqIndex_neg (by omega) h1, e], by omega, h1, by omega⟩
    · rw [if_neg h1] at h; cases h
theorem atI_get {α : Type} {xs : List α} {i : Int} {v : α} (h : atI xs i = some v) : ∃ j, seqIndex? i xs.length = some j ∧ xs[j]? = some v ∧ j < xs.length ∧ -(xs.length : Int) ≤ i ∧ i < xs.length := by
  unfold atI at h
  cases e : ixN xs.length i with
  | none => rw [e] at h; cases h
  | some j =>
    rw [e] at h
    obtain ⟨h1, h2, h3, h4⟩ := ixN_seq e
    exact ⟨j, h1, h, h2, h3, h4⟩
theorem atI_nat {α : Type} {xs : List α} {j : Nat} {v : α} (h : xs[j]? = some v) : atI xs (j : Int) = some v := by
  have hj : j < xs.length := (List.getElem?_eq_some_iff.mp h).1
  have e : ixN xs.length (j : Int) = some j := by
    unfold ixN
    rw [if_pos (by omega), if_pos (by omega)]; simp
  unfold atI; rw [e]; exact h
def PlainIx (b : Expr) : Prop := ∀ o i, subscripted b false o i = operate [o, i] (getItem o i)
def IxR (X : Cx) (r : R2) : Prop :=
  ∀ (value slice : Expr) (pins : List (Addr × Obj)) (s : Shared) (σ : St) (H : Hp) (x y : V) (v u : Value) (Q : VK), Inv X pins σ H s → RelV x v → RelV y u → r x y H Q →
    subscripted slice false v u = operate [v, u] (getItem v u) → wpAny (model X.prog X.w) X.A (subscriptTail value slice v u) (EP X pins σ Q) X.xe s
def MtR (X : Cx) (id : String) (r : V → List V → Hp → VK → Prop) : Prop :=
  ∀ (pins : List (Addr × Obj)) (s : Shared) (σ : St) (H : Hp) (x : V) (xs : List V) (v : Value) (us : List Value) (Q : VK), Inv X pins σ H s → RelV x v → Vals xs us → r x xs H Q →
    wpAny (model X.prog X.w) X.A (call (.builtin id) (v :: us)) (EP X pins σ Q) X.xe s
section
variable {X : Cx} {a b : Expr} {ta tb : TE} {pos : Pos}
theorem pe_ix {r : R2} (hr : IxR X r) (ha : PE X a ta) (hb : PE X b tb) (hs : PlainIx b) : PE X (.Subscript a b pos) (tOp r ta tb) := by
  intro pins s σ H Q I h
  exact Subscript_ (binT ha hb I h fun v u s2 x y H2 I2 rx ry q => hr a b pins s2 σ H2 x y v u Q I2 rx ry q (hs _ _))
def rIxL (K : PySem.W.Frag) : R2 := fun x y H Q => ∃ p xs i v, x = .ref p ∧ y = .int i ∧ SqL K H p xs ∧ atI xs i = some v ∧ Q v H
def rIxT (K : PySem.W.Frag) : R2 := fun x y H Q => ∃ p xs i v, x = .ref p ∧ y = .int i ∧ SqT K H p xs ∧ atI xs i = some v ∧ Q v H
def rIxS : R2 := fun x y H Q => ∃ z i c, x = .str z ∧ y = .int i ∧ z.length ≤ sizeLine ∧ atI z.cps.toList i = some c ∧ Q (.str ⟨#[c]⟩) H
theorem ix_list : IxR X (rIxL X.K) := by
  intro value slice pins s σ H x y v u Q I rx ry h hs
  obtain ⟨p, xs, i, z, rfl, rfl, hq, he, q⟩ := h
  cases rx
  obtain ⟨t, rfl⟩ := ry
  obtain ⟨its, r, pl, hz⟩ := I.list hq
  obtain ⟨j, h1, h2, h3, h4, h5⟩ := atI_get he
  obtain ⟨w, ew, rw'⟩ := r.get h2
  have hl := r.length
  have hn := line63
  have fin : EP X pins σ Q w s := ⟨z, H, I, rw', q⟩
  by_cases h0 : 0 ≤ i
  · have hj : i.toNat = j := by
      rw [seqIndex_of h0 h5] at h1
      exact Option.some.inj h1
    exact item_listR pl.isList h0 (by omega) (by rw [hj]; simpa using ew) fin hs
  · have hj : (i + (its.toArray.size : Int)).toNat = j := by
      rw [seqIndex_neg (by omega) h4] at h1
      rw [List.size_toArray, ← hl]
      exact Option.some.inj h1
    exact subscriptTail_builtinR (x := w) pl.isList.typeIs slot_list_getitem.lookup
      (wpAny_getItem_list_neg (Q := fun r s' => r = w ∧ EP X pins σ Q r s') pl.isList (by omega) (by rw [List.size_toArray] <;> omega) (by omega) (by rw [hj]; simpa using ew) ⟨rfl, fin⟩) hs
theorem ix_tup : IxR X (rIxT X.K) := by
  intro value slice pins s σ H x y v u Q I rx ry h hs
  obtain ⟨p, xs, i, z, rfl, rfl, hq, he, q⟩ := h
  cases rx
  obtain ⟨t, rfl⟩ := ry
  obtain ⟨its, r, pl, hz⟩ := I.tuple hq
  obtain ⟨j, h1, h2, h3, h4, h5⟩ := atI_get he
  obtain ⟨w, ew, rw'⟩ := r.get h2
  have hl := r.length
  have hn := line63
  have fin : EP X pins σ Q w s := ⟨z, H, I, rw', q⟩
  exact subscriptTail_builtinR (x := w) pl.typeIs slot_tuple_getitem.lookup
    (getItem_tuple (j := j) (Q := fun r s' => r = w ∧ EP X pins σ Q r s') pl (by omega) (by omega) (by rw [List.size_toArray, ← hl]; exact h1) (by simpa using ew) ⟨rfl, fin⟩) hs
def rIx (K : PySem.W.Frag) : R2 := fun x y H Q => rIxL K x y H Q ∨ rIxT K x y H Q ∨ rIxS x y H Q
def rSetL : V → V → V → Hp → (Hp → Prop) → Prop := fun o i v H Q => ∃ p xs k j, o = .ref p ∧ i = .int k ∧ H p = some (.lst xs) ∧ ixN xs.length k = some j ∧ Q (upd H p (.lst (xs.set j v)))
theorem slice_bounds (lo hi : Option Int) (n : Nat) : (sliceBounds lo hi none n).1 = ((HT.sIx n 0 lo : Nat) : Int) ∧ (sliceBounds lo hi none n).2.1 = ((HT.sIx n n hi : Nat) : Int) ∧ (sliceBounds lo hi none n).2.2 = 1 := by
  refine ⟨?_, ?_, rfl⟩
  · cases lo with
    | none => simp [sliceBounds, HT.sIx]
    | some i =>
      simp only [sliceBounds, HT.sIx, Option.getD_none, show (1 : Int) > 0 by decide, if_true]
      by_cases h : i < 0
      · simp only [h, if_true] <;> omega
      · simp only [h, if_false] <;> omega
  · cases hi with
    | none => simp [sliceBounds, HT.sIx]
    | some i =>
      simp only [sliceBounds, HT.sIx, Option.getD_none, show (1 : Int) > 0 by decide, if_true]
      by_cases h : i < 0
      · simp only [h, if_true] <;> omega
      · simp only [h, if_false] <;> omega
theorem slicePick_cut (its : List Value) (lo hi : Option Int) : slicePick its.toArray lo hi none = ((its.drop (HT.sIx its.length 0 lo)).take (HT.sIx its.length its.length hi - HT.sIx its.length 0 lo)).toArray := by
  obtain ⟨h1, h2, h3⟩ := slice_bounds lo hi its.toArray.size
  unfold slicePick
  rw [h1, h2, h3]
  simp only [sliceRange_one, pick_run, List.size_toArray] <;> rfl
def rSlL (K : PySem.W.Frag) : V → Option Int → Option Int → Hp → VK → Prop := fun x lo hi H Q => ∃ a xs, x = .ref a ∧ SqL K H a xs ∧ ∀ p, H p = none → Q (.ref p) (upd H p (.lst (cutV xs lo hi)))
theorem sl_list : SlR X (rSlL X.K) := by
  intro pins s σ H x v vl vu lo hi sl Q I rx hs pl pu h
  obtain ⟨a, xs, rfl, hx, q⟩ := h
  cases rx
  obtain ⟨its, r, ht, hz⟩ := I.list hx
  have hlen := r.length
  refine ⟨"list", _, slot_list_getitem.lookup, ht.isList.typeIs, ?_⟩
  refine wpAny_getItem_list_slice ht.isList hs pl pu .none (by simp) ?_ (by rw [List.size_toArray] <;> omega)
  rw [slicePick_cut, ← hlen]
  refine ⟨.ref s.heap.objs.size, _, I.laid (t' := s.toks) (o := .lst (cutV xs lo hi)) (fun b ob q => Heap.get?_push_of_some _ q) (Nat.le_refl _) ?_, rfl, q _ (I.hok.fresh (Nat.le_refl _))⟩
  exact ⟨Nat.le_trans (cutV_length xs lo hi) hz, _, 0, (r.drop (HT.sIx xs.length 0 lo)).take (HT.sIx xs.length xs.length hi - HT.sIx xs.length 0 lo), Heap.get?_push_size _ rfl⟩
def flatV : V → Bool
  | .non => true
  | .bl _ => true
  | .int _ => true
  | .str _ => true
  | _ => false
def eqV : V → V → Bool
  | .non, .non => true
  | .bl a, .bl b => a == b
  | .bl a, .int b => (if a then 1 else 0) == b
  | .int a, .bl b => a == (if b then 1 else 0)
  | .int a, .int b => a == b
  | .str a, .str b => a == b
  | _, _ => false
theorem eqAt_V {A : Around} {s : Shared} {y x : V} {u v : Value} (ry : RelV y u) (rx : RelV x v) (fy : flatV y = true) (fx : flatV x = true) : SeqAt.EqAt A s u v (eqV y x) := by
  cases y with
  | non =>
    cases ry
    cases x with
    | non => cases rx; exact SeqAt.EqAt.same _
    | bl b => cases rx; exact SeqAt.EqAt.none_bool b
    | int b => obtain ⟨t, rfl⟩ := rx; exact SeqAt.EqAt.none_int b t
    | str b => obtain ⟨t, rfl⟩ := rx; exact SeqAt.EqAt.none_str b t
    | _ => exact absurd (show false = true from fx) Bool.false_ne_true
  | bl a =>
    cases ry
    cases x with
    | non => cases rx; exact SeqAt.EqAt.bool_none a
    | bl b => cases rx; exact SeqAt.EqAt.bool_bool a b
    | int b => obtain ⟨t, rfl⟩ := rx; exact SeqAt.EqAt.bool_int a b t
    | str b => obtain ⟨t, rfl⟩ := rx; exact SeqAt.EqAt.bool_str a b t
    | _ => exact absurd (show false = true from fx) Bool.false_ne_true
  | int a =>
    obtain ⟨t', rfl⟩ := ry
    cases x with
    | non => cases rx; exact SeqAt.EqAt.int_none a t'
    | bl b => cases rx; exact SeqAt.EqAt.int_bool a t' b
    | int b => obtain ⟨t, rfl⟩ := rx; exact SeqAt.EqAt.int_int a t' b t
    | str b => obtain ⟨t, rfl⟩ := rx; exact SeqAt.EqAt.int_str a t' b t
    | _ => exact absurd (show false = true from fx) Bool.false_ne_true
  | str a =>
    obtain ⟨t', rfl⟩ := ry
    cases x with
    | non => cases rx; exact SeqAt.EqAt.str_none a t'
    | bl b => cases rx; exact SeqAt.EqAt.str_bool a t' b
    | int b => obtain ⟨t, rfl⟩ := rx; exact SeqAt.EqAt.str_int a t' b t
    | str b => obtain ⟨t, rfl⟩ := rx; exact SeqAt.EqAt.str_str a t' b t
    | _ => exact absurd (show false = true from fx) Bool.false_ne_true
  | _ => exact absurd (show false = true from fy) Bool.false_ne_true
def eqU (x : V) (u : Value) : Bool := match u with
  | .none => eqV .non x
  | .bool b => eqV (.bl b) x
  | .int i _ => eqV (.int i) x
  | .str z _ => eqV (.str z) x
  | _ => false
theorem eqU_of {x y : V} {u : Value} (r : RelV y u) (f : flatV y = true) : eqU x u = eqV y x := by
  cases y with
  | non => cases r; rfl
  | bl b => cases r; rfl
  | int i => obtain ⟨t, rfl⟩ := r; rfl
  | str z => obtain ⟨t, rfl⟩ := r; rfl
  | _ => exact absurd (show false = true from f) Bool.false_ne_true
theorem any_eqU {x : V} : ∀ {xs : List V} {us : List Value}, Vals xs us → xs.all flatV = true → us.any (eqU x) = xs.any fun y => eqV y x
  | _, _, .nil, _ => rfl
  | y :: xs, u :: us, .cons r t, f => by
    rw [List.all_cons, Bool.and_eq_true] at f
    rw [List.any_cons, List.any_cons, eqU_of r f.1, any_eqU t f.2]
theorem mem_eqAt {A : Around} {s : Shared} {x : V} {v : Value} (rx : RelV x v) (fx : flatV x = true) : ∀ {xs : List V} {us : List Value}, Vals xs us → xs.all flatV = true → ∀ u ∈ us, SeqAt.EqAt A s u v (eqU x u)
  | _, _, .nil, _ => fun u hu => by cases hu
  | y :: xs, u :: us, .cons r t, f => fun u' hu => by
    rw [List.all_cons, Bool.and_eq_true] at f
    rcases List.mem_cons.mp hu with rfl | hu
    · rw [eqU_of r f.1]; exact eqAt_V r rx f.1 fx
    · exact mem_eqAt rx fx t f.2 u' hu
def inV (x : V) (xs : List V) : Bool := xs.any fun y => eqV y x
def rIn (K : PySem.W.Frag) (neg : Bool) : R2 := fun x y H Q => ∃ p xs, y = .ref p ∧ (SqL K H p xs ∨ SqT K H p xs) ∧ flatV x = true ∧ xs.all flatV = true ∧ Q (.bl (if neg then !inV x xs else inV x xs)) H
theorem op_in_seq : OpR X (compareOp .In) (rIn X.K false) := by
  intro pins s σ H x y v u Q I rx ry h
  obtain ⟨p, xs, rfl, hq, fx, fs, q⟩ := h
  cases ry
  rcases hq with hq | hq
  · obtain ⟨its, r, pl, hz⟩ := I.list hq
    refine SeqAt.in_listAt (eqU x) pl.isList (fun w hw => mem_eqAt rx fx r fs w (by simpa using hw)) ⟨.bl _, H, I, rfl, ?_⟩
    rw [show its.toArray.any (eqU x) = its.any (eqU x) by simp, any_eqU r fs]
    exact q
  · obtain ⟨its, r, pl, hz⟩ := I.tuple hq
    refine SeqAt.in_tupleAt (eqU x) pl (fun w hw => mem_eqAt rx fx r fs w (by simpa using hw)) ⟨.bl _, H, I, rfl, ?_⟩
    rw [show its.toArray.any (eqU x) = its.any (eqU x) by simp, any_eqU r fs]
    exact q
theorem call_len_seq : CallR X (.builtin "len") (fun xs H Q => ∃ p ys, xs = [.ref p] ∧ (SqL X.K H p ys ∨ SqT X.K H p ys) ∧ Q (.int ys.length) H) := by
  intro pins s σ H xs us Q I r h
  obtain ⟨p, ys, rfl, hq, q⟩ := h
  obtain ⟨u, rfl, rx⟩ := vals1 r
  cases rx
  have hn := line63
  rcases hq with hq | hq
  · obtain ⟨its, r', pl, hz⟩ := I.list hq
    have hlen := r'.length
    exact Calls.call_len_list pl.isList (by simp only [List.size_toArray] <;> omega) ⟨.int ys.length, H, I.tok _, ⟨s.toks + 1, by rw [List.size_toArray, hlen]⟩, q⟩
  · obtain ⟨its, r', pl, hz⟩ := I.tuple hq
    have hlen := r'.length
    exact len_tuple pl (by simp only [List.size_toArray] <;> omega) ⟨.int ys.length, H, I.tok _, ⟨s.toks + 1, by rw [List.size_toArray, hlen]⟩, q⟩
theorem call_list_of : CallR X (.type "list") (fun xs H Q => ∃ p ys, xs = [.ref p] ∧ (SqL X.K H p ys ∨ SqT X.K H p ys) ∧ ∀ l, H l = none → Q (.ref l) (upd H l (.lst ys))) := by
  intro pins s σ H xs us Q I r h
  obtain ⟨p, ys, rfl, hq, q⟩ := h
  obtain ⟨u, rfl, rx⟩ := vals1 r
  cases rx
  have fin : ∀ (its : List Value), Vals ys its → ys.length ≤ sizeLine → ∀ (h' : Heap) (c' : Nat), (∀ b o', s.heap.get? b = some o' → h'.get? b = some o') →
      h'.get? s.heap.objs.size = some { cls := .type "list", dict := none, data := .seq its.toArray c', slots := #[] } → EP X pins σ Q (.ref s.heap.objs.size) { s with heap := h' } := fun its r' hz h' c' kp e =>
    ⟨.ref s.heap.objs.size, _, I.laid (t' := s.toks) kp (Nat.le_refl _) (show ObjOk X.prog X.w _ h' _ (.lst ys) from ⟨hz, its, c', r', e⟩), rfl, q _ (I.hok.fresh (Nat.le_refl _))⟩
  rcases hq with hq | hq
  · obtain ⟨its, r', pl, hz⟩ := I.list hq
    have hlen := r'.length
    obtain ⟨o, ho, hc, n, hd⟩ := pl.isList
    exact call_list_seq p (.inl rfl) ho hc hd (fun h' c' kp e => fin its r' hz h' c' kp e) (by simp only [List.size_toArray] <;> omega)
  · obtain ⟨its, r', pl, hz⟩ := I.tuple hq
    have hlen := r'.length
    obtain ⟨o, ho, hc, n, hd⟩ := pl
    exact call_list_seq p (.inr rfl) ho hc hd (fun h' c' kp e => fin its r' hz h' c' kp e) (by simp only [List.size_toArray] <;> omega)
theorem call_tuple_of : CallR X (.type "tuple") (fun xs H Q => ∃ p ys, xs = [.ref p] ∧ ((SqL X.K H p ys ∧ ∀ l, H l = none → Q (.ref l) (upd H l (.tup ys))) ∨ (SqT X.K H p ys ∧ Q (.ref p) H))) := by
  intro pins s σ H xs us Q I r h
  obtain ⟨p, ys, rfl, h⟩ := h
  obtain ⟨u, rfl, rx⟩ := vals1 r
  cases rx
  rcases h with ⟨hq, q⟩ | ⟨hq, q⟩
  · obtain ⟨its, r', pl, hz⟩ := I.list hq
    have hlen := r'.length
    refine call_tuple_list pl.isList (fun h' kp => ?_) (by simp only [List.size_toArray] <;> omega)
    have I1 : Inv X pins σ H { s with heap := h' } := I.kept (t' := s.toks) kp
    have I2 : Inv X pins σ (upd H h'.objs.size (.tup ys)) { s with heap := h'.push { cls := .type "tuple", data := .seq its.toArray } } :=
      I1.laid (t' := s.toks) (fun b o e => Heap.get?_push_of_some _ e) (Nat.le_refl _) (show ObjOk X.prog X.w _ _ _ (.tup ys) from ⟨hz, its, r', IsTup.new _ _⟩)
    exact ⟨.ref h'.objs.size, _, I2, rfl, q _ (I1.hok.fresh (Nat.le_refl _))⟩
  · obtain ⟨its, r', pl, hz⟩ := I.tuple hq
    exact call_tuple_same pl ⟨.ref p, H, I, rfl, q⟩
def tyV (K : PySem.W.Frag) (T : String) (x : V) (H : Hp) : Prop := match x with
  | .str _ => T = "str"
  | .int _ => T = "int"
  | .ref p => (T = "list" ∧ ∃ xs, SqL K H p xs) ∨ (T = "tuple" ∧ ∃ o, K.lookup p = some o ∧ o.cls = .type "tuple" ∧ o.dict = none) ∨
      (T = "dict" ∧ ((∃ kvs, H p = some (.dK kvs)) ∨ ∃ kvs, H p = some (.dT kvs))) ∨ (T = "set" ∧ ∃ S n, H p = some (.set S n))
  | _ => False
theorem tyV_is {pins : List (Addr × Obj)} {σ : St} {H : Hp} {s : Shared} {T : String} {x : V} {v : Value} (I : Inv X pins σ H s) (r : RelV x v) (ty : tyV X.K T x H) :
    s.TypeIs v T ∧ ∀ a, v = .ref a → ∃ ob, s.heap.get? a = some ob ∧ ob.dict = none := by
  cases x with
  | str z =>
    obtain ⟨t, rfl⟩ := r
    cases (show T = "str" from ty)
    exact ⟨typeIs_str s z t, fun _ e => nomatch e⟩
  | int i =>
    obtain ⟨t, rfl⟩ := r
    cases (show T = "int" from ty)
    exact ⟨typeIs_int s i t, fun _ e => nomatch e⟩
  | ref p =>
    cases r
    rcases ty with ⟨rfl, xs, hq⟩ | ⟨rfl, o, hk, hc, hd⟩ | ⟨rfl, hk⟩ | ⟨rfl, S, n, hk⟩
    · obtain ⟨its, _, pl, _⟩ := I.list hq
      refine ⟨pl.isList.typeIs, fun a e => ?_⟩
      cases e
      obtain ⟨o, n, e, c, hd, _⟩ := pl
      exact ⟨o, e, hd⟩
    · refine ⟨⟨o, I.kIn p o hk, hc⟩, fun a e => ?_⟩
      cases e
      exact ⟨o, I.kIn _ o hk, hd⟩
    · have z : ∃ o, s.heap.get? p = some o ∧ o.ExactDict := by
        rcases hk with ⟨kvs, hk⟩ | ⟨kvs, hk⟩
        · obtain ⟨_, _, _, _, o, _, _, e, ex, _⟩ := I.hok p _ hk
          exact ⟨o, e, ex⟩
        · obtain ⟨_, _, _, _, o, _, _, e, ex, _⟩ := I.hok p _ hk
          exact ⟨o, e, ex⟩
      obtain ⟨o, e, ex⟩ := z
      refine ⟨⟨o, e, ex.1⟩, fun a e2 => ?_⟩
      cases e2
      exact ⟨o, e, ex.2.1⟩
    · obtain ⟨o, _, _, _, e, ex, _⟩ := I.hok p _ hk
      refine ⟨⟨o, e, ex.1⟩, fun a e2 => ?_⟩
      cases e2
      exact ⟨o, e, ex.2.1⟩
  | _ => exact False.elim ty
def tBM0 (K : PySem.W.Frag) (T : String) (r : V → List V → Hp → VK → Prop) (to : TE) : TE := fun σ H Q => to σ H fun x H1 => tyV K T x H1 ∧ r x [] H1 Q
def tBM (K : PySem.W.Frag) (T : String) (r : V → List V → Hp → VK → Prop) (to : TE) (t : TA) : TE := fun σ H Q => to σ H fun x H1 => tyV K T x H1 ∧ t σ H1 fun xs H2 => r x xs H2 Q
variable {o e : Expr} {es : List Expr} {to : TE} {t : TA} {name : Str} {apos cpos : Pos} {T id : String} {r : V → List V → Hp → VK → Prop}
theorem pe_bm0 (pa : PlainAttrs T) (slot : Slot T name id) (hty : typeOf (.builtin id) = pure (.type "method_descriptor")) (hm : MtR X id r) (ho : PE X o to)
    (hbase : attributeBase o name X.env (eval o X.env) = eval o X.env := by rfl) (hline : (apos.endLine == cpos.line) = true := by rfl) : PE X (.Call (.Attribute o name apos) [] [] cpos) (tBM0 X.K T r to) := by
  intro pins s σ H Q I h
  refine wpAny_Call_method0_late hbase hline (thn (ho pins s σ H _ I h) fun v s1 ⟨x, H1, I1, r1, ty, q1⟩ => ?_)
  obtain ⟨h1, h2⟩ := tyV_is I1 r1 ty
  exact ⟨T, id, pa, slot, hty, h1, h2, Calls.callWith_builtin rfl (PySem.evalArgs_none (hm pins s1 σ H1 x [] v [] Q I1 r1 .nil q1))⟩
theorem pe_bm (pa : PlainAttrs T) (slot : Slot T name id) (hty : typeOf (.builtin id) = pure (.type "method_descriptor")) (hm : MtR X id r) (ho : PE X o to) (ha : PA X (e :: es) t)
    (hbase : attributeBase o name X.env (eval o X.env) = eval o X.env := by rfl)
    (hfew : ((backTo cpos (starEach (e :: es) X.env)).all (fun x => !x.1) && (backToKw cpos (keywordEach [] X.env)).all (fun x => x.1.isSome)
      && decide ((e :: es).length + ([] : List Keyword).length + (if ([] : List Keyword).isEmpty then 0 else 1) < 30)) = true := by rfl)
    (hline : (apos.endLine == cpos.line) = true := by rfl) (hs : starEach (e :: es) X.env = (false, eval e X.env) :: starEach es X.env := by rfl) (hplain : (backTo cpos (starEach es X.env)).any (·.1) = false := by rfl) :
    PE X (.Call (.Attribute o name apos) (e :: es) [] cpos) (tBM X.K T r to t) := by
  intro pins s σ H Q I h
  refine wpAny_Call_method_late hbase hfew hline rfl (thn (ho pins s σ H _ I h) fun v s1 ⟨x, H1, I1, r1, ty, q1⟩ => ?_)
  obtain ⟨h1, h2⟩ := tyV_is I1 r1 ty
  refine ⟨T, id, pa, slot, hty, h1, h2, ?_⟩
  have hA := ha cpos pins s1 σ H1 _ I1 q1
  rw [hs] at hA ⊢
  refine Calls.callWith_builtin (by show (false || (backTo cpos (starEach es X.env)).any (·.1)) = false; rw [hplain] <;> rfl) (Calls.evalArgs_plain ?_)
  exact thn hA fun us s2 ⟨vs, H2, I2, r2, q2⟩ => hm pins s2 σ H2 x vs v us Q I2 r1 r2 q2
/- xs.append(e), list.index on a module's tuple .. are MtR facts of 06m -/
end
end L2
namespace L2
open PySem PySem.Spec PyProof.Rows
def MtM (X : Cx) (id : String) (r : V → List V → Hp → VK → Prop) : Prop :=
  ∀ (pins : List (Addr × Obj)) (s : Shared) (σ : St) (H : Hp) (x : V) (xs : List V) (v : Value) (us : List Value) (Q : VK), Inv X pins σ H s → RelV x v → Vals xs us → r x xs H Q →
    wpAny (model X.prog X.w) X.A (call (.builtin id) (v :: us)) (EP X pins σ Q) X.xe s
theorem Vals.one : ∀ {x : V} {us : List Value}, Vals [x] us → ∃ u, us = [u] ∧ RelV x u
  | _, _, .cons r .nil => ⟨_, rfl, r⟩
theorem Vals.zero : ∀ {us : List Value}, Vals [] us → us = []
  | _, .nil => rfl
section
variable {X : Cx} {pins : List (Addr × Obj)} {σ : St} {H : Hp} {s : Shared} {l b : Addr} {xs ys zs : List V}
theorem Inv.lset {its its' : List Value} {n : Nat} {f : Array Value → Array Value} {t' : Nat} (I : Inv X pins σ H s) (hH : H l = some (.lst xs))
    (e : s.heap.get? l = some { cls := .type "list", data := .seq its.toArray n }) (hf : f its.toArray = its'.toArray) (hv : Vals ys its') (hz : ys.length ≤ sizeLine) :
    Inv X pins σ (upd H l (.lst ys)) { s with heap := s.heap.update l (Obj.mapSeq f), toks := t' } := by
  have q := PySem.IsL.update e f
  rw [hf] at q
  refine I.write (x := l) (e := l) (by rw [hH]; exact trivial) (.inl rfl) (fun b' u hb hu => (Heap.get?_update_other s.heap (Obj.mapSeq f) (Ne.symm hb)).trans hu) ⟨_, q⟩ ?_
  exact ⟨hz, its', _, hv, q⟩
theorem Inv.lnew {its : List Value} {t' : Nat} (I : Inv X pins σ H s) (hv : Vals ys its) (hz : ys.length ≤ sizeLine) :
    Inv X pins σ (upd H s.heap.objs.size (.lst ys)) { s with heap := s.heap.push { cls := .type "list", data := .seq its.toArray }, toks := t' } :=
  I.laid (fun _ _ q => Heap.get?_push_of_some _ q) (Nat.le_refl _) ⟨hz, its, 0, hv, Heap.get?_push_size _ rfl⟩
theorem Inv.fresh (I : Inv X pins σ H s) : H s.heap.objs.size = none := I.hok.fresh (Nat.le_refl _)
theorem Inv.lstM (I : Inv X pins σ H s) (hH : H l = some (.lst xs)) : xs.length ≤ sizeLine ∧ ∃ (its : List Value) (n : Nat), Vals xs its ∧ xs.length = its.length ∧ s.heap.get? l = some { cls := .type "list", data := .seq its.toArray n } := by
  obtain ⟨z, its, n, r, e⟩ := I.hok l _ hH
  exact ⟨z, its, n, r, r.length, e⟩
end
section
variable {X : Cx}
def rAppend : V → List V → Hp → VK → Prop := fun x vs H Q => ∃ l xs y, x = .ref l ∧ vs = [y] ∧ H l = some (.lst xs) ∧ xs.length < sizeLine ∧ Q .non (upd H l (.lst (xs ++ [y])))
theorem mt_append : MtM X "list.append" rAppend := by
  intro pins s σ H x vs v us Q I rx rv h
  obtain ⟨l, xs, y, rfl, rfl, hH, hz, q⟩ := h
  cases rx
  obtain ⟨u, rfl, ru⟩ := rv.one
  obtain ⟨z, its, n, r, hl, e⟩ := I.lstM hH
  refine call_meets F.slot_list_append ⟨_, e, rfl⟩ F.entry_list_append (F.args_list_append_2 _ _) (PySem.list_append l its.toArray n u (by rw [List.size_toArray]; omega)) ⟨e, ?_⟩
  refine ⟨.non, _, I.lset (its' := its ++ [u]) hH e (by simp) (r.append (.cons ru .nil)) ?_, rfl, q⟩
  rw [List.length_append, List.length_singleton]
  omega
def rExtend : V → List V → Hp → VK → Prop := fun x vs H Q => ∃ l b xs zs, x = .ref l ∧ vs = [.ref b] ∧ H l = some (.lst xs) ∧ H b = some (.lst zs) ∧ xs.length + zs.length ≤ sizeLine ∧ Q .non (upd H l (.lst (xs ++ zs)))
def rPop : V → List V → Hp → VK → Prop := fun x vs H Q => ∃ l xs y, x = .ref l ∧ vs = [] ∧ H l = some (.lst xs) ∧ xs[xs.length - 1]? = some y ∧ Q y (upd H l (.lst xs.dropLast))
def rPopAt : V → List V → Hp → VK → Prop := fun x vs H Q => ∃ l xs i k y, x = .ref l ∧ vs = [.int i] ∧ H l = some (.lst xs) ∧ -(2 ^ 63) ≤ i ∧ i < 2 ^ 63 ∧ seqIndex? i xs.length = some k ∧ xs[k]? = some y ∧ Q y (upd H l (.lst (xs.eraseIdx k)))
def rReverse : V → List V → Hp → VK → Prop := fun x vs H Q => ∃ l xs, x = .ref l ∧ vs = [] ∧ H l = some (.lst xs) ∧ Q .non (upd H l (.lst xs.reverse))
def rClear : V → List V → Hp → VK → Prop := fun x vs H Q => ∃ l xs, x = .ref l ∧ vs = [] ∧ H l = some (.lst xs) ∧ Q .non (upd H l (.lst []))
theorem mt_clear : MtM X "list.clear" rClear := by
  intro pins s σ H x vs v us Q I rx rv h
  obtain ⟨l, xs, rfl, rfl, hH, q⟩ := h
  cases rx
  have hus := rv.zero
  subst hus
  obtain ⟨z, its, n, r, hl, e⟩ := I.lstM hH
  refine call_meets F.slot_list_clear ⟨_, e, rfl⟩ F.entry_list_clear (F.args_list_clear_1 _) (AutoSeq1.list_clear_list_0 l its.toArray n (by rw [List.size_toArray]; omega)) ⟨e, ?_⟩
  exact ⟨.non, _, I.lset (its' := []) (ys := []) hH e rfl .nil (Nat.zero_le _), rfl, q⟩
def rCat : R2 := fun x y H Q => ∃ l b xs zs, x = .ref l ∧ y = .ref b ∧ H l = some (.lst xs) ∧ H b = some (.lst zs) ∧ xs.length + zs.length ≤ sizeLine ∧ ∀ p, H p = none → Q (.ref p) (upd H p (.lst (xs ++ zs)))
theorem op_cat : OpR X (binaryOp .Add) rCat := by
  intro pins s σ H x y v u Q I rx ry h
  obtain ⟨l, b, xs, zs, rfl, rfl, hH, hB, hz, q⟩ := h
  cases rx
  cases ry
  obtain ⟨z, its, n, r, hl, e⟩ := I.lstM hH
  obtain ⟨z2, its2, n2, r2, hl2, e2⟩ := I.lstM hB
  refine PySem.P.add_list e e2 ?_ (by rw [List.size_toArray, List.size_toArray]; omega)
  have ea : its.toArray ++ its2.toArray = (its ++ its2).toArray := by simp
  rw [ea]
  exact ⟨.ref _, _, I.lnew (t' := s.toks) (r.append r2) (by rw [List.length_append]; omega), rfl, q _ I.fresh⟩
def rRep : R2 := fun x y H Q => ∃ l k xs, x = .ref l ∧ y = .int k ∧ H l = some (.lst xs) ∧ -(2 ^ 63) ≤ k ∧ k < 2 ^ 63 ∧ xs.length * k.toNat ≤ sizeLine ∧
  ∀ p, H p = none → Q (.ref p) (upd H p (.lst (List.replicate k.toNat xs).flatten))
end
section
variable {prog : Program} {w : World} {A : Around} {E : Value → Shared → Prop} {s : Shared}
end
section
variable {X : Cx}
end
end L2
namespace Att
open PySem PySem.W PySem.Calls PyProof.Rows
theorem ints_of_wellAll {P : Params} {h : Heap} : ∀ (ns : List Int) (vs : List Value), WellAll P h vs (ns.map WData.int) → IntsAre vs ns := by
  intro ns
  induction ns with
  | nil =>
    intro vs w
    rw [List.map_nil] at w
    cases w
    exact .nil
  | cons n ns ih =>
    intro vs w
    rw [List.map_cons] at w
    cases w with
    | cons a b =>
      cases a
      exact .cons _ _ (ih _ b)
theorem script_of {l : OpenLaw} {n : Nat} (hn : l.most = some n) {P : Params} {h : Heap} {args : List WData} {vals : List Value}
    (hpre : l.row.toRowW.claim.pre args = true) (hwl : WellAll P h vals args) :
    ∃ a vs ns, vals = [Value.ref a] ∧ args = [WData.list (ns.map WData.int)] ∧ h.get? a = some { cls := .type "list", data := .seq vs.toArray } ∧ IntsAre vs ns ∧ ns.length ≤ n := by
  have hsh : WShape.hasAll [] args [.list .int] = true := (pre_splitW hpre).1
  have hc : l.pre.holds [] { args := args } = true := (pre_splitW hpre).2
  obtain ⟨d, r, rfl, h1, h2⟩ := hasAllW_cons hsh
  obtain rfl := hasAllW_nil h2
  obtain ⟨xs, rfl, h3⟩ := hasW_list h1
  obtain ⟨ns, rfl⟩ := items_int h3
  have hlen : ns.length ≤ n := by
    unfold OpenLaw.pre at hc
    have h4 : (WTm.not (.lt (.lit (.int (n : Int))) (.len (.arg 0)))).holds [] { args := [.list (ns.map .int)] } = true := by
      have h4 := (holds_andW hc).1
      rw [hn] at h4
      exact h4
    have h5 := condW_of h4 (w_not (w_lt w_lit (w_len_list (w_arg rfl))))
    rw [List.length_map] at h5
    refine Nat.le_of_not_lt fun q => ?_
    have q' : (n : Int) < ((ns.length : Nat) : Int) := by omega
    first
      | (rw [decide_eq_true q'] at h5; exact absurd h5 (by decide))
      | (simp at h5; omega)
  cases hwl with
  | cons w1 w2 =>
    cases w2
    cases w1 with
    | list ho hall => exact ⟨_, _, ns, rfl, rfl, ho, ints_of_wellAll ns _ hall, hlen⟩
theorem post_true (l : OpenLaw) (args : List WData) : l.row.toRowW.claim.post args (.bool true) args = true :=
  postW_of (r := l.row.toRowW) (X := (true == true))
    (show WShape.has [] (.bool true) .bool = true by first | rfl | decide | simp [WShape.has, WShape.arms, WShape.armsAll])
    (show (WTm.eq .res (.lit (.bool true))).value [] { args := args, res := some (.bool true), after := args } = some (.bool (true == true)) from w_eq_bool (w_res rfl) w_lit) rfl
section
variable {prog : Program} {w : World} {A : Around} {E : Value → Shared → Prop} {s : Shared} {K : Frag}
def noObjs (h : Heap) : Heap := { h with objs := #[] }
def ledger (h : Heap) (L d : Addr) : List (Addr × Obj) := (List.range h.objs.size).filterMap fun a => if a = L ∨ a = d then none else (h.get? a).map fun o => (a, o)
end
end Att
namespace L2
open PySem PySem.Spec PyProof.Rows
theorem vals_ints : ∀ {vs : List Value} {ns : List Int}, IntsAre vs ns → Vals (ns.map V.int) vs
  | _, _, .nil => .nil
  | _, _, .cons n t h => .cons ⟨t, rfl⟩ (vals_ints h)
def Only (H : Hp) : Prop := ∀ b, H b = none ∨ ∃ o xs, H b = some (.frz o (.lst xs))
theorem law_call {P : Program} {w : World} {K : PySem.W.Frag} {mg mb : Str → Option Value} {CX : CXT} {k : Nat} {fa a : Addr} {fd : FuncData} {x : Str} {sp : Sp} {s₁ : Shared} {vs : List Value} {ns : List Int}
    (KX : K.In s₁.heap) (hns : s₁.heap.Ns mainGlobals mg) (hb : s₁.heap.Ns builtinsNs mb) (hbb : ∀ x : Str, x ≠ "__name__" → mb x = bootBuiltins x) (hlim : s₁.heap.NoLimit) (hg : s₁.gens = #[])
    (ha : s₁.heap.get? a = some { cls := .type "list", data := .seq vs.toArray }) (hi : IntsAre vs ns) (hl : ns.length ≤ sizeLine) (hr : Room k callerA)
    (F : ∀ base : Heap, K.In base → base.Ns mainGlobals mg → FnOk P w K mg base CX k fa fd [x] sp) (hbind : ∀ (s : Shared) (u : Value), BindsTo s fd ⟨[u], []⟩ [(x, u)])
    (hsp : ∀ H : Hp, Only H → SqL K H a (ns.map V.int) → sp [.ref a] H (fun v _ => v = .bl true) fun _ _ _ => False)
    (hCX : ∀ H e s', CX [] H s₁ (fun _ _ _ => False) e s' → False) :
    codeAny (model P w) callerA (.call (.ref fa) ⟨[.ref a], []⟩) (fun r s' => r = .ok (.ret (.bool true)) ∧ OldK s₁.heap s'.heap ∧ s'.os = s₁.os ∧ AllBare s'.gens) s₁ := by
  have rv := vals_ints hi
  have lenV := hi.length
  have core : ∀ H : Hp, Only H → SqL K H a (ns.map V.int) → HOk P w H s₁.heap → (∀ b, H b ≠ none → b = a) → (H a ≠ none → K.lookup a = none) →
      codeAny (model P w) callerA (.call (.ref fa) ⟨[.ref a], []⟩) (fun r s' => r = .ok (.ret (.bool true)) ∧ OldK s₁.heap s'.heap ∧ s'.os = s₁.os ∧ AllBare s'.gens) s₁ := by
    intro H hO hS hok hA hK
    have base_of : ∀ {b : Addr} {o : Obj}, s₁.heap.get? b = some o → H b = none → (hidT s₁.heap H).get? b = some o := fun e n => hidT_get e n
    have noA : ∀ {b : Addr} {o : Obj} {es : Array DictEntry} {ep : Nat}, s₁.heap.get? b = some o → o.data = .dict es ep → H b = none := fun {b o es ep} e d => by
      cases q : H b with
      | none => rfl
      | some u =>
        have e' : b = a := hA b (by rw [q]; simp)
        subst e'
        rw [ha] at e; cases e
        have d' : Data.seq vs.toArray _ = Data.dict es ep := d
        cases d'
    have nsK : ∀ {b : Addr} {m : Str → Option Value}, s₁.heap.Ns b m → (hidT s₁.heap H).Ns b m := fun {b m} ⟨o, es, ep, e, d, r⟩ => ⟨o, es, ep, base_of e (noA e d), d, r⟩
    have hKb : K.In (hidT s₁.heap H) := fun b o e => base_of (KX b o e) (by
      cases q : H b with
      | none => rfl
      | some u =>
        have e' : b = a := hA b (by rw [q]; simp)
        subst e'
        rw [hK (by rw [q]; simp)] at e; cases e)
    have hM : Mod K mg (hidT s₁.heap H) := ⟨hKb, nsK hns, ⟨mb, nsK hb, hbb⟩, let ⟨mc, h1, h2⟩ := hlim; ⟨mc, nsK h1, h2⟩⟩
    have e0 : Env0 P w K mg (hidT s₁.heap H) callerA [] s₁ H := ⟨rfl, hM, fun b o e => of_hidT e, Nat.le_of_eq (hidT_size _ _), trivial, fun b hb => absurd (show b ∈ ([] : List Addr) from hb) (by simp), hok, .of_eq hg⟩
    refine codeAny_mono ((F _ hKb (nsK hns)).run callerA [] s₁ H ⟨[.ref a], []⟩ [.ref a] [.ref a] _ _ hr e0 (hbind s₁ (.ref a)) (.cons rfl .nil) (hsp H hO hS)) fun r s' h => ?_
    cases r with
    | error e => exact (hCX H e s' h).elim
    | ok fl =>
      cases fl with
      | next => exact False.elim h
      | brk => exact False.elim h
      | cont => exact False.elim h
      | ret u =>
        obtain ⟨v, H', os, bare, un, hok', r', q⟩ := h
        have q' : v = .bl true := q
        subst q'
        obtain rfl : u = Value.bool true := r'
        refine ⟨rfl, OldK.of_keep fun b o e => ?_, os, bare⟩
        cases q : H b with
        | none => exact un.keep b o e q (by intro z; exact absurd (show b ∈ ([] : List Addr) from z) (by simp)) (by simp)
        | some u =>
          rcases hO b with z | ⟨ob, xs, z⟩
          · rw [q] at z; cases z
          · have z2 := un.frzs b ob _ z
            obtain ⟨e1, _⟩ := hok b _ z
            obtain ⟨e2, _⟩ := hok' b _ z2
            rw [e] at e1; cases e1
            exact e2
  cases hk : K.lookup a with
  | some o =>
    have e := KX a o hk
    rw [ha] at e
    cases e
    refine core (fun _ => none) (fun _ => .inl rfl) (.inr ⟨_, vs.toArray, _, hk, rfl, rfl, rfl, by rw [List.size_toArray, lenV]; exact hl, by simpa using rv⟩) (fun b u z => by have z' : (none : Option HO) = some u := z; cases z') (fun b z => absurd rfl z) fun z => absurd rfl z
  | none =>
    refine core (fun b => if b = a then some (.frz { cls := .type "list", data := .seq vs.toArray } (.lst (ns.map V.int))) else none) (fun b => ?_) (.inl (.inr ⟨{ cls := .type "list", data := .seq vs.toArray }, if_pos rfl⟩)) (fun b u z => ?_) (fun b z => ?_) fun _ => hk
    · by_cases hb : b = a
      · exact .inr ⟨_, _, if_pos hb⟩
      · exact .inl (if_neg hb)
    · by_cases hb : b = a
      · have z' := (if_pos hb).symm.trans z
        cases z'
        subst hb
        exact ⟨ha, by rw [List.length_map]; exact hl, vs, _, rv, ha⟩
      · have z' := (if_neg hb).symm.trans z
        cases z'
    · by_cases hb : b = a
      · exact hb
      · exact absurd (if_neg hb) z
end L2
namespace L2
open PySem PySem.Spec PyProof.Rows
abbrev KOf {K : PySem.W.Frag} {h : Heap} (_ : K.In h) : PySem.W.Frag := K
end L2
/- THE LAST THEOREM (shape; LID, My.* are yours):
   My.Adr: a structure of the addresses that your layer names (classes, functions); My.Txt K t: a structure (Prop) of the equations over K;
   My.txt_mk : {K} {implicit addresses ..} (e1 : nsIn K mainGlobals "law" = some (some (.ref f))) (e2 : K.lookup f = some ⟨oc, od, .func (fnOf "law" "law" params body scope dV kV doc pm an cdv ct), sl⟩) (e3 : codeIn K cdv "law" = true) .. : ∃ t, My.Txt K t
set_option maxRecDepth 100000 in
set_option maxHeartbeats 0 in
theorem PySem.Challenge.cw_LID_holds : PySem.Challenge.rw_LID.Holds := by
  w_on; o_law; k_head; (case hw => w_witness2)
  k_fill
  refine L2.walk_of (l := PySem.Challenge.rw_LID) (n := 63) (k := 40) (x := "script") (CX := fun w => ..) (sp := fun _ => My.sp_law) rfl (by decide) rfl ⟨rfl, by decide, by decide⟩ (fun w h Y => PySem.W.kIn_of Y) ?F ?S ?C
  case F =>
    intro w mg fa h KX G hmg
    have T : ∃ t, My.Txt (L2.KOf KX) t := by
      dsimp only [L2.KOf]                          -- K must stand as «<heap const> w.params» for k_is
      refine' My.txt_mk ?e1 ?e2 ?e3 ..
      (case e1 => PySem.W.k_is)                    -- in the order: a name -> its address -> its object -> its parts
      (case e2 => PySem.W.k_is)
      ..
    obtain ⟨t, T⟩ := T
    have e0 := hmg.symm.trans (PySem.W.mg_of KX G T.law)
    cases e0                                       -- fa is the law's own address
    exact ⟨_, fun s u => .of_eq rfl, fun base kb nb => My.law_fn T kb nb⟩     -- if «.of_eq rfl» comes too early: refine' ⟨_, ?b, fun base kb nb => My.law_fn T kb nb⟩; exact fun s u => .of_eq rfl
  case S => exact fun w H a ns hl hO hS => ..
  case C => exact ..
(the tactic k_is has no namespace: write k_is) -/
namespace L2
open PySem PySem.Spec PyProof.Rows
def inClass (s : Stmt) (j : Nat) : Stmt := match s with
  | .ClassDef _ _ _ body _ _ _ _ _ _ _ => body.getD j (.Pass ⟨0, 0, 0, 0⟩)
  | _ => .Pass ⟨0, 0, 0, 0⟩
def defArgs (s : Stmt) : Arguments := match s with
  | .FunctionDef _ a _ _ _ _ _ _ _ _ => a
  | _ => { posonlyargs := [], args := [], vararg := none, kwonlyargs := [], kw_defaults := [], kwarg := none, defaults := [] }
def defBody (s : Stmt) : List Stmt := match s with
  | .FunctionDef _ _ b _ _ _ _ _ _ _ => b
  | _ => []
def defScope (s : Stmt) : Scope := match s with
  | .FunctionDef _ _ _ _ _ _ sc _ _ _ => sc
  | _ => { kind := .function, names := [], isGenerator := false, isCoroutine := false }
abbrev CX0 : CXT := fun _ _ _ _ _ _ => False
abbrev E0 : XK := fun _ _ _ => False
theorem pass0 {X : Cx} : Passes CX0 X E0 := fun _ _ _ _ _ _ _ h => h.elim
structure Fun (K : PySem.W.Frag) (x qual : Str) (st : Stmt) (f : Addr) (fd : FuncData) : Prop where
  ex : ∃ (oc : Value) (od : Option Addr) (kV doc pm : Value) (an : Option Addr) (cdv ct : Value) (osl : Array (Option Value)),
    fd = PySem.W.fnOf x qual (defArgs st) (defBody st) (defScope st) .none kV doc pm an cdv ct ∧ K.lookup f = some ⟨oc, od, .func fd, osl⟩ ∧ PySem.W.codeIn K cdv qual = true
  kp : PySem.W.keepIn K (.ref f) = true
section
variable {P : Program} {w : World} {K : PySem.W.Frag} {mg : Str → Option Value} {base : Heap}
theorem Fun.ok {x qual : Str} {st : Stmt} {f : Addr} {fd : FuncData} {N ps : List Str} {k : Nat} {sp : Sp} (F : Fun K x qual st f fd) (S : FnScope N ps (defScope st)) (len : ∀ vs H Q E, sp vs H Q E → vs.length = ps.length)
    (hbody : ∀ (cdv : Value) (A : Around) (outer : List Env) (s : Shared) (H : Hp) (vs : List V) (Q : VK) (E : XK), Room k (A.deeper (envOfC qual (defScope st) s.heap.objs.size f cdv)) → sp vs H Q E →
      ∃ t, PSs (cxOf CX0 P w K mg base N qual (defScope st) f cdv A outer s H E).nox (defBody st) t ∧ t { nx := fun _ H' => Q .non H', rt := Q } (start N vs) H) : FnOk P w K mg base CX0 (k + 1) f fd ps sp := by
  obtain ⟨oc, od, kV, doc, pm, an, cdv, ct, osl, rfl, lk, hcd⟩ := F.ex
  refine fn_of lk hcd S len fun A outer s H vs Q E hr hsp => ?_
  obtain ⟨t, h, q⟩ := hbody cdv A outer s H vs Q E hr hsp
  exact ⟨t, h.nox, q⟩
theorem Fun.binds {x qual : Str} {st : Stmt} {f : Addr} {fd : FuncData} {ps : List Str} (F : Fun K x qual st f fd)
    (h : ∀ (kV doc pm : Value) (an : Option Addr) (cdv ct : Value) (us : List Value), us.length = ps.length → bindArgs (PySem.W.fnOf x qual (defArgs st) (defBody st) (defScope st) .none kV doc pm an cdv ct) ⟨us, []⟩ = pure (ps.zip us)) : Binds K fd ps [] := by
  obtain ⟨oc, od, kV, doc, pm, an, cdv, ct, osl, rfl, lk, hcd⟩ := F.ex
  exact .all (h kV doc pm an cdv ct)
theorem fun_mk {x qual : Str} {st : Stmt} {f : Addr} {oc : Value} {od an : Option Addr} {osl : Array (Option Value)} {kV doc pm cdv ct : Value} (l : K.lookup f = some ⟨oc, od, .func (PySem.W.fnOf x qual (defArgs st) (defBody st) (defScope st) .none kV doc pm an cdv ct), osl⟩)
    (c : PySem.W.codeIn K cdv qual = true) (k : PySem.W.keepIn K (.ref f) = true) : Fun K x qual st f (PySem.W.fnOf x qual (defArgs st) (defBody st) (defScope st) .none kV doc pm an cdv ct) := ⟨⟨oc, od, kV, doc, pm, an, cdv, ct, osl, rfl, l, c⟩, k⟩
end
theorem hu_of {A : Around} {k : Nat} (hr : Room k A) : A.units + 1 < cLine := Nat.lt_of_le_of_lt (Nat.add_le_add_left (by decide : 1 ≤ 64) _) hr.units
section
variable {X : Cx}
theorem pv (i : Nat) {x : Str} {pos : Pos} (hN : X.N[i]? = some x := by rfl) (hv : Vis X.env.scope x := by first | exact Or.inl rfl | exact Or.inr (Or.inl rfl) | exact Or.inr (Or.inr rfl)) (hd : (x == ("__debug__" : Str)) = false := by decide)
    (hcd : (x == ("__classdict__" : Str)) = false := by decide) : PE X (.Name x pos) (tVar i) := pe_var hN hv hd hcd
end
theorem iteF {A B : Prop} (h : B) : if false = true then A else B := by
  rw [if_neg Bool.false_ne_true]
  exact h
theorem iteT {A B : Prop} (h : A) : if true = true then A else B := by
  rw [if_pos rfl]
  exact h
def Same (H H' : Hp) : Prop := ∀ b o, H b = some o → H' b = some o
theorem Same.refl (H : Hp) : Same H H := fun _ _ h => h
theorem Same.trans {H H1 H2 : Hp} (a : Same H H1) (b : Same H1 H2) : Same H H2 := fun c o h => b c o (a c o h)
theorem Same.free {H H' : Hp} (e : Same H H') {l : Addr} (h : H' l = Option.none) : H l = Option.none := by
  cases q : H l with
  | none => rfl
  | some o =>
    rw [e l o q] at h
    cases h
end L2
namespace TH
open PySem PySem.W PySem.Calls PyProof.Rows
def treeOf : List Obj → Nat → BT → BT
  | [], _, t => t
  | o :: l, n, t => treeOf l (n + 1) (t.ins n o)
def ofS (s : Shared) : SharedT := ⟨treeOf s.heap.objs.toList 0 .nil, s.heap.objs.size, s.heap.life, s.gens, s.drawn, s.toks, s.os⟩
section
variable {tb : String → Option Builtin} {p : Program} {w : World} {n₀ : Nat} {ann : Option Value} {env : Env} {q : Pos}
theorem app {n N : Nat} {s s' r : Shared} {l : List Stmt} {c c' : Code} {pos p' : Pos} (h : segRun tb p w n₀ ann 1 n s (piecesOf l env c pos [topFrame q]) = some (.next, s', c', p'))
    (k : topRun tb p w n₀ ann N s' (restOf [] env c' p' [topFrame q]) = some r) : topRun tb p w n₀ ann (n + N) s (restOf l env c pos [topFrame q]) = some r := by
  obtain ⟨a, ha, hN⟩ := seg_top (res := id) (K' := fun f => match f with | .next => (execs [] env).wrap doneF (leaveH env) id id | f => doneF f) (H' := leaveH env) (B := [topFrame q]) rfl n s (piecesOf l env c pos [topFrame q])
    ⟨(execs l env).wrap (fun f => match f with | .next => (execs [] env).wrap doneF (leaveH env) id id | f => doneF f) (leaveH env) id id, c, pos, [topFrame q]⟩ _ _ _ _ ⟨rfl, rfl, .inl ⟨rfl, rfl, _, rfl, rfl⟩⟩ h
  obtain rfl : a = .next := ha
  have := hN N r k
  rw [show l = l ++ [] by simp]
  unfold restOf
  rw [execs_app_wrap]
  exact this
end
def lookT {β : Type} (p : Program) (w : World) (n₀ : Nat) (ann : Option Value) (b : List Stmt) (env : Env) (c : Code) (pos q : Pos) (k : Nat) (s : SharedT) (look : Shared → β) : Option β :=
  match segRunT treeTable p w n₀ ann 1 k s (piecesOf b env c pos [topFrame q]) with
  | some (.next, s', c', p') => (topRun treeTable p w n₀ ann 5 s'.abs (restOf [] env c' p' [topFrame q])).map look
  | _ => none
theorem look_of {β : Type} {p : Program} {w : World} {n₀ : Nat} {ann : Option Value} {b : List Stmt} {env : Env} {c : Code} {pos q : Pos} {k : Nat} {s : SharedT} {look : Shared → β} {v : β}
    (h : lookT p w n₀ ann b env c pos q k s look = some v) : ∃ r, topRun treeTable p w n₀ ann (k + 5) s.abs (restOf b env c pos [topFrame q]) = some r ∧ look r = v := by
  unfold lookT at h
  split at h
  · next s' c' p' e =>
    obtain ⟨r, hr, hv⟩ := Option.map_eq_some_iff.mp h
    exact ⟨r, app (segRun_of e) hr, hv⟩
  · cases h
def looks {α : Type} (p q : Program) (loose : List Str) (Xt : Shared → Bool) (Yf : Shared → α) (g0 : Bool) (H₀ : Heap) (s : Shared) :=
  ((staticsOk (importedModules p.main.body) H₀ s.heap && namesBound p s.heap && gensDone s && laidKept H₀ s.heap), openSeen q loose (importedModules p.main.body) Xt g0 s, Yf s)
theorem left {p q : Program} {loose : List Str} {Xt : Shared → Bool} {α : Type} {Yf : Shared → α} {Ya : World → α} {N : Nat} {g0 : Bool} {m₀ : Nat} {ann : Option Value} {k0 k : Nat} {env : Env} {pos q0 : Pos} {Sa : World → OsState → Shared}
    (e : opening p = plainProg p.main.scope.names) (hN : Nat.ble 600 N = true) (f : ∀ s, fenceModules? p s = some s)
    (size : ∀ w : World, ((boot_heap w.params).isNs mainGlobals, (boot_heap w.params).objs.size, (boot_heap w.params).nsMap mainGlobals "__annotations__") = (true, m₀, ann))
    (pre : ∀ (w : World) (os : OsState), topGo treeTable p w m₀ ann k0 ⟨boot_heap w.params, Array.mk [], boot_drawn, boot_toks, os⟩ (topStub p) =
      some (Sa w os, ⟨denote treeTable (.body (behindTheImports p) env), .body (behindTheImports p) env, pos, [topFrame q0]⟩))
    (tree : ∀ w os, (ofS (Sa w os)).abs = Sa w os)
    (block : blockStart (behindTheImports p) env = .pure ())
    (run : ∀ w os, lookT p w m₀ ann (behindTheImports p) env (.body (behindTheImports p) env) pos q0 k (ofS (Sa w os)) (looks p q loose Xt Yf g0 (boot_heap w.params)) = some (true, openGood q loose, Ya w))
    (le : Nat.ble (k0 + (1 + (k + 5))) N = true) : LeftO p q loose Xt Yf Ya N g0 := fun w => by
  obtain ⟨⟨h, gs, d, kk, os⟩, e1, e'⟩ := Option.map_eq_some_iff.mp (boot_open (N := N) e hN f w)
  obtain ⟨rfl, rfl, rfl, rfl⟩ : h = boot_heap w.params ∧ gs = Array.mk [] ∧ d = boot_drawn ∧ kk = boot_toks := by simpa using e'
  obtain ⟨z1, z2, z3⟩ : _ ∧ _ ∧ _ := by simpa only [Prod.mk.injEq] using size w
  obtain ⟨r, hr, hv⟩ := look_of (run w os)
  rw [tree w os] at hr
  have hb : segRun treeTable p w m₀ ann 1 1 (Sa w os) (blockOf (behindTheImports p) env (.body (behindTheImports p) env) pos [topFrame q0]) = some (.next, Sa w os, .body (behindTheImports p) env, pos) := by
    unfold blockOf
    rw [block]; rfl
  have r1 := go_top (pre w os) (piece_block hb hr)
  have r2 := topRun_mono (N - (k0 + (1 + (k + 5)))) _ _ _ _ r1
  rw [show (k0 + (1 + (k + 5))) + (N - (k0 + (1 + (k + 5)))) = N by have := Nat.le_of_ble_eq_true le; omega] at r2
  obtain ⟨l1, l2, l3⟩ : _ ∧ _ ∧ _ := by simpa only [looks, Prod.mk.injEq] using hv
  have t : topFrom treeTable p w N ⟨boot_heap w.params, Array.mk [], boot_drawn, boot_toks, os⟩ = some r := by
    unfold topFrom
    dsimp only
    rw [z1, z2, z3, r2]
    show (match staticsOk (importedModules p.main.body) (boot_heap w.params) r.heap && namesBound p r.heap && gensDone r && laidKept (boot_heap w.params) r.heap with | true => _ | false => _) = _
    rw [l1]
  unfold openEnds
  rw [e1]
  show (topFrom treeTable p w N _).map _ = _
  rw [t]
  exact congrArg some (Prod.ext l2 l3)
end TH
namespace FW
structure Low (a b : Int) : Prop where
  pos : 0 < b
  cop : Int.gcd a b = 1
abbrev g (a b : Int) : Int := ((Int.gcd a b : Nat) : Int)
def low (t b : Int) : Int × Int := (t / g t b, b / g t b)
def plusM (a b c d : Int) : Int × Int :=
  let s := g b d
  let top := a * (d / s) + c * (b / s)
  (top / g top s, b / g top s * (d / s))
def timesM (a b c d : Int) : Int × Int := (a / g a d * (c / g c b), b / g c b * (d / g a d))
structure IsQ (p : Int × Int) (W S : Int) : Prop where
  lo : Low p.1 p.2
  eq : p.1 * S = W * p.2
end FW
namespace L2
open PySem PySem.Spec PyProof.Rows
structure FnAt (K : PySem.W.Frag) (mg : Str → Option Value) (x : Str) (st : Stmt) (ps : List Str) (f : Addr) (fd : FuncData) : Prop where
  F : Fun K x x st f fd
  b : Binds K fd ps []
  m : mg x = some (.ref f)
theorem Same.upd {H : Hp} {p : Addr} {o : HO} (h : H p = Option.none) : Same H (upd H p o) := fun b u e => by
  rw [upd_ne (ne_of_none e h)]
  exact e
theorem Same.updR {H H' : Hp} {p : Addr} {o : HO} (e : Same H H') (h : H' p = Option.none) : Same H (L2.upd H' p o) := e.trans (.upd h)
theorem Same.tup {K : PySem.W.Frag} {H H' : Hp} {a : Addr} {xs : List V} (e : Same H H') (h : SqT K H a xs) : SqT K H' a xs := by
  rcases h with (h | ⟨o, h⟩) | h
  · exact .inl (.inl (e _ _ h))
  · exact .inl (.inr ⟨o, e _ _ h⟩)
  · exact .inr h
theorem iteBB {c : Bool} {A B : Prop} (h1 : c = true → A) (h2 : c = false → B) : if c = true then A else B := by
  cases c with
  | true => exact iteT (h1 rfl)
  | false => exact iteF (h2 rfl)
theorem two_le : (2 : Nat) ≤ sizeLine := by decide
def Sm (x : Int) : Prop := x.natAbs < 2 ^ 2000
end L2
namespace Att
open PySem PySem.W PySem.Calls PyProof.Rows
theorem weight_mem : ∀ {ns : List Int} {n : Int}, n ∈ ns → WData.weight (.int n) ≤ WData.weightAll (ns.map WData.int)
  | m :: r, n, h => by
    show WData.weight (.int n) ≤ WData.weight (.int m) + 1 + WData.weightAll (r.map WData.int)
    rcases List.mem_cons.mp h with e | e
    · subst e
      omega
    · have := weight_mem (ns := r) e
      omega
theorem bits_of_lay {ns : List Int} (h : WData.layableAll [WData.list (ns.map WData.int)] = true) : ∀ n ∈ ns, Builtin.Int.intBits n ≤ 2 ^ 20 := by
  intro n hn
  have h1 : (WData.list (ns.map WData.int)).layable = true := (layW_cons h).1
  have h2 : WData.weight (WData.list (ns.map WData.int)) ≤ 2 ^ 20 := of_decide_eq_true (Bool.and_eq_true_iff.mp h1).2
  have h3 : WData.weightAll (ns.map WData.int) ≤ 2 ^ 20 := by simpa only [WData.weight] using h2
  have h4 := weight_mem hn
  have h5 : WData.weight (.int n) ≤ 2 ^ 20 := Nat.le_trans h4 h3
  simpa only [WData.weight, Builtin.Int.intBits] using h5
theorem attach_callB {l : OpenLaw} {n : Nat} {q : Program} {loose : List Str} {XP : (Str → Option Value) → Heap → Prop} {YP : World → Heap → Prop} {d : DefRec}
    (hn : l.most = some n) (hdf : d.params.defaults = [])
    (call : ∀ (w : World) (s₀ s₁ : Shared) (mg mb : Str → Option Value) (fa : Addr) (a : Addr) (vs : List Value) (ns : List Int),
      Ground q loose [] XP w s₀ mg mb s₁.heap → YP w s₁.heap → mg d.name = some (.ref fa) →
      s₁.heap.get? a = some { cls := .type "list", data := .seq vs.toArray } → IntsAre vs ns → ns.length ≤ n → (∀ x ∈ ns, Builtin.Int.intBits x ≤ 2 ^ 20) → s₁.gens = #[] →
      codeAny (model l.prog w) callerA (.call (.ref fa) ⟨[.ref a], []⟩) (fun r s' => r = .ok (.ret (.bool true)) ∧ OldK s₁.heap s'.heap ∧ s'.os = s₁.os ∧ AllBare s'.gens) s₁) :
    WalkO q loose XP YP l.row.toRowW d [] (fun f vs => PySem.call f vs) := by
  intro w s₀ s₁ mg mb G Y fa o pm cd doc dV kV ho hd hcd hD hmg hg args vals as hpre hlay hrd hwl hlo
  obtain rfl : dV = .none := Dflts.none hD hdf
  obtain rfl : kV = .none := Dflts.noKw hD
  obtain ⟨a, vs, ns, rfl, rfl, hobj, hints, hlen⟩ := script_of hn hpre hwl
  refine enter_call (codeAny_mono (call w s₀ s₁ mg mb fa a vs ns G Y hmg hobj hints hlen (bits_of_lay hlay) hg) fun r s' hq => ?_)
  obtain ⟨rfl, h2, h3, h4⟩ := hq
  exact ⟨.inl ⟨.bool true, .bool true, [], rfl, fun _ => rfl, .bool true, post_true l _, fun _ => ⟨List.Pairwise.nil, fun _ hm => (nomatch hm)⟩⟩, h2, h3, h4⟩
end Att
namespace L2
open PySem PySem.Spec PyProof.Rows
theorem walk_ofB {l : PySem.W.OpenLaw} {n k : Nat} {q : Program} {loose : List Str} {XP : (Str → Option Value) → Heap → Prop} {YP : World → Heap → Prop} {d : DefRec} {K : Params → PySem.W.Frag} {CX : World → CXT} {sp : World → Sp} {x : Str}
    (hn : l.most = some n) (hn2 : n ≤ sizeLine) (hdf : d.params.defaults = []) (hr : Room k callerA)
    (hY : ∀ (w : World) (h : Heap), YP w h → (K w.params).In h)
    (F : ∀ (w : World) (mg : Str → Option Value) (fa : Addr) (h : Heap), (K w.params).In h → h.Ns mainGlobals mg → mg d.name = some (.ref fa) →
      ∃ fd : FuncData, (∀ (s : Shared) (u : Value), BindsTo s fd ⟨[u], []⟩ [(x, u)]) ∧
        ∀ base : Heap, (K w.params).In base → base.Ns mainGlobals mg → FnOk l.prog w (K w.params) mg base (CX w) k fa fd [x] (sp w))
    (hsp : ∀ (w : World) (H : Hp) (a : Addr) (ns : List Int), ns.length ≤ n → (∀ x ∈ ns, Builtin.Int.intBits x ≤ 2 ^ 20) → Only H → SqL (K w.params) H a (ns.map V.int) → sp w [.ref a] H (fun v _ => v = .bl true) fun _ _ _ => False)
    (hCX : ∀ (w : World) (H : Hp) (s : Shared) (e : Value) (s' : Shared), CX w [] H s (fun _ _ _ => False) e s' → False) :
    PySem.W.WalkO q loose XP YP l.row.toRowW d [] (fun f vs => PySem.call f vs) := by
  refine Att.attach_callB hn hdf fun w s₀ s₁ mg mb fa a vs ns G Y hmg hobj hints hlen hbits hg => ?_
  have KX := hY w _ Y
  obtain ⟨fd, hb, hF⟩ := F w mg fa _ KX G.T.g hmg
  exact law_call KX G.T.g G.T.b G.T.builtins G.T.nolimit hg hobj hints (Nat.le_trans hlen hn2) hr hF hb (fun H hO hS => hsp w H a ns hlen hbits hO hS) fun H e s' => hCX w H s₁ e s'
theorem fnAt_mk {K : PySem.W.Frag} {mg : Str → Option Value} {h : Heap} {x : Str} {st : Stmt} {ps : List Str} {f : Addr} {oc : Value} {od an : Option Addr} {osl : Array (Option Value)} {kV doc pm cdv ct : Value} (X : K.In h) (G : h.Ns mainGlobals mg)
    (a : PySem.W.nsIn K mainGlobals x = some (some (.ref f)))
    (l : K.lookup f = some ⟨oc, od, .func (PySem.W.fnOf x x (defArgs st) (defBody st) (defScope st) .none kV doc pm an cdv ct), osl⟩)
    (c : PySem.W.codeIn K cdv x = true) (k : PySem.W.keepIn K (.ref f) = true)
    (b : ∀ (kV doc pm : Value) (an : Option Addr) (cdv ct : Value) (us : List Value), us.length = ps.length → bindArgs (PySem.W.fnOf x x (defArgs st) (defBody st) (defScope st) .none kV doc pm an cdv ct) ⟨us, []⟩ = pure (ps.zip us)) :
    FnAt K mg x st ps f (PySem.W.fnOf x x (defArgs st) (defBody st) (defScope st) .none kV doc pm an cdv ct) :=
  ⟨fun_mk l c k, (fun_mk l c k).binds b, PySem.W.mg_of X G a⟩
end L2
namespace L2
open PySem PySem.Spec PyProof.Rows
section
variable {X : Cx}
theorem op_mulB : OpR X (binaryOp .Mult) (rI IntMulOk fun i j => .int (i * j)) := opI fun _ _ _ _ _ _ _ hc q => mul_int q hc
def CDivP (_ j : Int) : Prop := 0 < j ∧ j.natAbs.log2 < 9000
theorem op_fdivP : OpR X (binaryOp .FloorDiv) (rI CDivP fun i j => .int (i / j)) := opI fun i j _ _ _ _ _ hc q => by
  have h0 : (0 : Int) < j := hc.1
  refine floordiv_int (by omega) ?_ (.inl (PyProof.noPylong_of_log2 hc.2))
  rw [Int.fdiv_eq_ediv_of_nonneg _ (Int.le_of_lt h0)]
  exact q
def CDivB (_ j : Int) : Prop := j ≠ 0 ∧ j.natAbs.log2 < 9000
def rIsi (K : PySem.W.Frag) : List V → Hp → VK → Prop := fun xs H Q => ∃ x n t b, xs = [x, .ty n] ∧ TyOf K H x t ∧ PySem.W.kitOne K t (.type n) = some b ∧ Q (.bl b) H
theorem call_isi : CallR X (.builtin "isinstance") (rIsi X.K) := by
  intro pins s σ H xs us Q I r h
  obtain ⟨x, n, t, b, rfl, ty, e, q⟩ := h
  obtain ⟨u, w', rfl, r1, r2⟩ := vals2 r
  cases (show w' = Value.type n from r2)
  exact isinst_ok I r1 ty e fun tk => ⟨.bl b, H, I.tok tk, rfl, q⟩
def rIsiC (K : PySem.W.Frag) : List V → Hp → VK → Prop := fun xs H Q => ∃ x C t b, xs = [x, .ref C] ∧ TyOf K H x t ∧ PySem.W.kitOne K t (.ref C) = some b ∧ Q (.bl b) H
theorem call_isiC : CallR X (.builtin "isinstance") (rIsiC X.K) := by
  intro pins s σ H xs us Q I r h
  obtain ⟨x, n, t, b, rfl, ty, e, q⟩ := h
  obtain ⟨u, w', rfl, r1, r2⟩ := vals2 r
  cases (show w' = Value.ref n from r2)
  exact isinst_ok I r1 ty e fun tk => ⟨.bl b, H, I.tok tk, rfl, q⟩
def rEqT (K : PySem.W.Frag) : R2 := fun x y H Q => ∃ (a b : Addr) (ns ms : List Int), x = .ref a ∧ y = .ref b ∧ SqT K H a (ns.map V.int) ∧ SqT K H b (ms.map V.int) ∧ Q (.bl (decide (ns = ms))) H
end
def cCx (X : Cx) (scope : Scope) (cl : List (Str × Addr)) (C : Addr) (Nc : List Str) (s : Shared) (H : Hp) (fp : List Addr) : Cx where
  prog := X.prog
  w := X.w
  K := X.K
  mg := X.mg
  base := X.base
  A := X.A
  N := Nc
  s₀ := s
  H₀ := H
  env := compEnvC scope cl C X.env
  outer := X.stack
  stack := X.stack
  ex := fp
  fn := fun _ => false
  calm := X.calm
  pn := []
  xe := fun _ _ => False
def PTs (X : Cx) (ifs : List Expr) (t : TT) : Prop :=
  ∀ (pins : List (Addr × Obj)) (s : Shared) (σ : St) (H : Hp) (Q : Bool → Hp → Prop), Inv X pins σ H s → t σ H Q →
    wpAny (model X.prog X.w) X.A (forIn ifs true fun c r => if r = true then do let ok ← isTrue c X.env (eval c X.env); pure (ForInStep.yield ok) else pure (ForInStep.yield r)) (TP X pins σ Q) X.xe s
def tTrue : TT := fun _ H Q => Q true H
theorem pts_nil {X : Cx} : PTs X [] tTrue := fun _ _ _ H _ I h => wpAny_tests_nil ⟨H, I, h⟩
theorem pts_one {X : Cx} {c : Expr} {t : TT} (h : PT X c t) : PTs X [c] t := fun pins s σ H Q I q => wpAny_tests_one (h pins s σ H Q I q)
theorem comp_loop0 {prog : Program} {w : World} {A : Around} {R : Result → Shared → Prop} {s : Shared} {elt target iter : Expr} {ifs : List Expr} {scope : Scope} {pos : Pos} {it acc : Value} {env : Env} (I : Nat → Shared → Prop)
    (turn : ∀ n s, I n s → wpAny (model prog w) A (pyNext it) (fun r s₁ => match r with
      | none => R (.ok .next) s₁
      | some v => wpAny (model prog w) A (letOwnedTupleGo target it v) (fun _ s₂ => wpAny (model prog w) A (assign target env v) (fun _ s₃ =>
          wpAny (model prog w) A (forIn ifs true fun c r => if r = true then do let ok ← isTrue c env (eval c env); pure (ForInStep.yield ok) else pure (ForInStep.yield r)) (fun ok s₄ =>
            if ok = true then wpAny (model prog w) A (eval elt env) (fun x s₅ =>
              wpAny (model prog w) A (call (.builtin "list.append") [acc, x]) (fun _ s₆ => ∃ m, m < n ∧ I m s₆) (fun _ _ => False) s₅) (fun _ _ => False) s₄
            else ∃ m, m < n ∧ I m s₄) (fun _ _ => False) s₃) (fun _ _ => False) s₂) (fun _ _ => False) s₁) (fun _ _ => False) s)
    (n : Nat) (h : I n s) :
    codeAny (model prog w) A (.compLoop (.ListComp elt [⟨target, iter, ifs, 0⟩] scope pos) 0 it acc env) R s := by
  refine codeAny_loop rfl I (fun n s hI => ?_) n h
  show wpAny _ A ((compTurn (.ListComp elt [⟨target, iter, ifs, 0⟩] scope pos) 0 it acc env).onRaise (fun x => do noteFrame x env; theTreesLotGoes x)) _ _ s
  refine wpAny_noted ?_
  rw [compTurn_list]
  refine wpAny_bind (wpAny_standAt (wpAny_bind (wpAny_mono (turn n s hI) (fun r s₁ h₁ => ?_) fun _ _ h' => h'.elim)))
  cases r with
  | none => exact wpAny_pure h₁
  | some v =>
    refine wpAny_bind (wpAny_mono h₁ (fun _ s₂ h₂ => wpAny_bind (wpAny_mono h₂ (fun _ s₃ h₃ => wpAny_bind (wpAny_mono h₃ (fun ok s₄ h₄ => ?_) fun _ _ h' => h'.elim)) fun _ _ h' => h'.elim)) fun _ _ h' => h'.elim)
    cases ok with
    | false => exact wpAny_pure ⟨rfl, h₄⟩
    | true =>
      exact wpAny_bind (wpAny_bind (wpAny_mono h₄ (fun x s₅ h₅ => wpAny_bind (wpAny_mono h₅ (fun _ s₆ h₆ => wpAny_pure (wpAny_pure ⟨rfl, h₆⟩)) fun _ _ h' => h'.elim)) fun _ _ h' => h'.elim))
def CompW (J : It) (g : TG) (tt : TT) (te : TE) (σ0 : St) (Q : VK) (D : Addr) (H1 : Hp) : Prop :=
  ∃ W : Nat → Nat → St → List V → Hp → Prop, (∃ m, W 0 m σ0 [] H1) ∧ ∀ i m σ2 ys H2, W i m σ2 ys H2 → H2 D = some (.lst ys) ∧ ys.length < sizeLine ∧
    ((J.stop i H2 ∧ Q (.ref D) H2) ∨ (J.go i H2 ∧ ∀ x H3, J.yld i H2 x H3 → g x σ2 H3 fun σ4 H4 => tt σ4 H4 fun b H5 =>
      if b = true then te σ4 H5 fun v H6 => H6 D = some (.lst ys) ∧ ∃ m', m' < m ∧ W (i + 1) m' σ4 (ys ++ [v]) (upd H6 D (.lst (ys ++ [v])))
      else ∃ m', m' < m ∧ W (i + 1) m' σ4 ys H5))
def tComp (wi : TI) (g : TG) (tt : TT) (te : TE) (σc : St → St) : TE := fun σ H Q => wi σ H fun J H1 => ∀ D, H1 D = none → CompW J g tt te (σc σ) Q D (upd H1 D (.lst []))
structure Caps (X : Cx) (scope : Scope) (cl : List (Str × Addr)) (Nc : List Str) (σc : St → St) : Prop where
  clos : closureFor scope X.env = pure cl
  kind : scope.kind = .function
  nocell : ∀ y ∈ scope.names, y.2 ≠ .cell
  names : ∀ y ∈ scope.names, y.2 = .local → scope.names.lookup y.1 = some .local
  cells : ∀ x c, cl.lookup x = some c → X.env.cells.lookup x = some c
  has : ∀ x, ((relabel scope X.env).names.lookup x = some .cell ∨ (relabel scope X.env).names.lookup x = some .free) → ∃ c, cl.lookup x = some c
  len : ∀ σ, (σc σ).length = Nc.length
  cap : ∀ σ (i : Nat) x v, Nc[i]? = some x → (σc σ)[i]? = some (some v) → Vis (relabel scope X.env) x →
    ((relabel scope X.env).names.lookup x = some .cell ∨ (relabel scope X.env).names.lookup x = some .free) ∧
    (X.env.kindOf x = some .cell ∨ X.env.kindOf x = some .free) ∧ ∃ j : Nat, X.N[j]? = some x ∧ σ[j]? = some (some v) ∧ Vis X.env.scope x
section
variable {X : Cx} {tg iter elt : Expr} {ifs : List Expr} {scope : Scope} {cl : List (Str × Addr)} {Nc : List Str} {σc : St → St} {pos : Pos} {wi : TI} {g : TG} {tt : TT} {te : TE}
theorem cCx_ok {pins : List (Addr × Obj)} {σ : St} {H : Hp} {s : Shared} {fp : List Addr} {C : Addr} (I : Inv X pins σ H s) (c : Caps X scope cl Nc σc) (hC : s.heap.objs.size ≤ C) (hf : ∀ b ∈ fp, FpOk X pins H b) (hlt : ∀ b ∈ fp, b < s.heap.objs.size) :
    (cCx X scope cl C Nc s H fp).Ok where
  mod := I.ok.mod
  kind := c.kind
  glob := I.ok.glob
  blt := I.ok.blt
  above := hC
  inj := fun x y a h1 h2 => I.ok.inj x y a (c.cells x a h1) (c.cells y a h2)
  has := c.has
  cab := fun _ _ h _ => absurd (show false = true from h) Bool.false_ne_true
  hd := I.ok.hd
  frames := I.ok.frames
  stk := .inl rfl
  exf := fun b hb => ⟨fun z => absurd (Nat.lt_of_lt_of_le (hlt b hb) hC) (by
      have z' : b = C := z
      rw [z']
      exact Nat.lt_irrefl _), fun x a h z => (hf b hb).2.2.2.2.1 x a (c.cells x a h) z⟩
  bs := I.bs
  bsz := Nat.le_trans I.ok.bsz I.sz
  noex := fun b o e hb => by
    rcases (hf b hb).2.2.2.1 with z | z
    · exact I.ok.noex b o e z
    · exact absurd (Nat.lt_of_lt_of_le (Heap.lt_size e) (Nat.le_trans I.ok.bsz z)) (Nat.lt_irrefl _)
  exfs := fun b hb z => by
    rcases List.mem_cons.mp (I.stkSub b z) with q | q
    · exact (hf b hb).2.1 q
    · exact (hf b hb).2.2.1 q
  funs := I.stack
  frf := I.stkFree
theorem cCx_inv {pins : List (Addr × Obj)} {σ : St} {H : Hp} {s : Shared} {fp : List Addr} {C : Addr} {h' : Heap} {t' : Nat} {m : Str → Option Value} (I : Inv X pins σ H s) (c : Caps X scope cl Nc σc) (hC : s.heap.objs.size ≤ C)
    (hf : ∀ b ∈ fp, FpOk X pins H b) (hlt : ∀ b ∈ fp, b < s.heap.objs.size) (hk : ∀ b o, s.heap.get? b = some o → h'.get? b = some o) (hn : h'.Ns C m) :
    Inv (cCx X scope cl C Nc s H fp) [] (σc σ) H { s with heap := h', toks := t' } := by
  refine ⟨cCx_ok I c hC hf hlt, rfl, I.bare, Un.kept hk, ⟨m, hn, fun i x v e1 e2 e3 => ?_⟩, fun x a h => ?_, I.hok.fresh hC, fun x a h => I.freeC x a (c.cells x a h), fun p hp => absurd (show p ∈ ([] : List (Addr × Obj)) from hp) (by simp), I.hok.kept hk, c.len σ⟩
  · obtain ⟨k1, k2, j, n1, n2, n3⟩ := c.cap σ i x v e1 e2 e3
    obtain ⟨m0, _, hl⟩ := I.loc
    obtain ⟨u, ru, lk⟩ := hl j x v n1 n2 n3
    refine ⟨u, ru, .inr ⟨k1, ?_⟩⟩
    rcases lk with ⟨z, _⟩ | ⟨_, a, ha, hcell⟩
    · rcases k2 with k2 | k2 <;> rw [k2] at z <;> cases z
    · obtain ⟨a', ha'⟩ := c.has x k1
      have e := c.cells x a' ha'
      rw [ha] at e
      cases e
      obtain ⟨o, ho, hd⟩ := hcell
      exact ⟨a, ha', ⟨o, hk _ _ ho, hd⟩⟩
  · obtain ⟨v, o, ho, hd⟩ := I.cell x a (c.cells x a h)
    exact ⟨v, o, hk _ _ ho, hd⟩
theorem comp_block {pins : List (Addr × Obj)} {σ : St} {H : Hp} {s : Shared} {Q : VK} {J : It} {fp : List Addr} {it : Addr} {tn : Nat → Heap → Prop} {RR : Value → Addr → Result → Shared → Prop} {E : Value → Shared → Prop}
    (hc : X.calm = true) (c : Caps X scope cl Nc σc)
    (hg : ∀ C s H fp, PG (cCx X scope cl C Nc s H fp) tg g) (ht : ∀ C s H fp, PTs (cCx X scope cl C Nc s H fp) ifs tt) (he : ∀ C s H fp, PE (cCx X scope cl C Nc s H fp) elt te)
    (I : Inv X pins σ H s) (T : Turn X.prog X.w X.K tg J fp it tn) (st : tn 0 s.heap) (hf : ∀ b ∈ fp, FpOk X pins H b)
    (h : ∀ D, H D = none → CompW J g tt te (σc σ) Q D (upd H D (.lst [])))
    (hRR : ∀ D C H' s' m, Inv X pins σ H' s' → H' C = none → s.heap.objs.size ≤ C → s'.heap.Ns C m → Q (.ref D) H' → RR (.ref D) C (.ok .next) s') :
    wpAny (model X.prog X.w) X.A (newList []) (fun acc s₃ => wpAny (model X.prog X.w) X.A (newFunctionEnv scope X.env.globals cl [] X.env.qual none .none (some X.env)) (fun cenv s₄ =>
      codeAny (model X.prog X.w) X.A (.compStart (.ListComp elt [⟨tg, iter, ifs, 0⟩] scope pos) 0 (.ref it) acc { cenv with scope := relabel scope X.env }) (RR acc cenv.locals) s₄) E s₃) E s := by
  have fit : ∀ b ∈ fp, b < s.heap.objs.size := fun b hb => by
    obtain ⟨o, e, _⟩ := T.obj _ _ st b hb
    exact Heap.lt_size e
  obtain ⟨W, ⟨m0, w0⟩, turn⟩ := h s.heap.objs.size (I.hok.fresh (Nat.le_refl _))
  refine wpAny_newObj_type (wpAny_newFunctionEnv c.nocell (by intro y hy; simp at hy) (fun h₁ hns₁ hsb₁ => ?_) c.kind)
  dsimp only at hns₁ hsb₁ ⊢
  have I1 : Inv X pins σ (upd H s.heap.objs.size (.lst [])) { s with heap := s.heap.push { cls := .type "list", dict := none, data := .seq ([] : List Value).toArray } } :=
    I.laid (t' := s.toks) (fun b u e => Heap.get?_push_of_some _ e) (Nat.le_refl _) ⟨Nat.zero_le _, [], 0, .nil, Heap.get?_push_size _ rfl⟩
  generalize hH2 : s.heap.push { cls := .type "list", dict := none, data := .seq ([] : List Value).toArray } = G at hns₁ hsb₁ I1 ⊢
  have hG : G.objs.size = s.heap.objs.size + 1 := by rw [← hH2, Heap.size_push]
  have old : ∀ b o, G.get? b = some o → h₁.get? b = some o := fun b o e => hsb₁.extBut b o (Nat.ne_of_lt (Heap.lt_size e)) (Heap.get?_push_of_some _ e)
  have hf1 : ∀ b ∈ fp, FpOk X pins (upd H s.heap.objs.size (.lst [])) b := fun b hb =>
    ⟨by rw [upd_ne (Nat.ne_of_lt (fit b hb))]; exact (hf b hb).1, (hf b hb).2⟩
  have hlt1 : ∀ b ∈ fp, b < G.objs.size := fun b hb => Nat.lt_of_lt_of_le (fit b hb) (by rw [hG]; exact Nat.le_succ _)
  have I2 := cCx_inv (C := G.objs.size) (t' := s.toks + ([] : List (Str × Value)).length) I1 c (Nat.le_refl _) hf1 hlt1 old hns₁
  have st1 : tn 0 h₁ := T.keep _ _ _ st fun b hb o e => old b o (by rw [← hH2]; exact Heap.get?_push_of_some _ e)
  have fpB : ∀ {H' : Hp}, (∀ b ∈ fp, H' b = none) → ∀ b ∈ fp, FpOk (cCx X scope cl G.objs.size Nc { s with heap := G } (upd H s.heap.objs.size (.lst [])) fp) [] H' b := fun {H'} hn b hb => by
    have ok := cCx_ok (C := G.objs.size) I1 c (Nat.le_refl _) hf1 hlt1
    obtain ⟨e1, e2⟩ := ok.exf b hb
    exact ⟨hn b hb, e1, ok.exfs b hb, .inl hb, e2, fun p hp => absurd (show p ∈ ([] : List (Addr × Obj)) from hp) (by simp)⟩
  have loop : ∀ s₃ : Shared, s₃ = { s with heap := h₁, toks := s.toks + ([] : List (Str × Value)).length } →
      codeAny (model X.prog X.w) X.A (.compLoop (.ListComp elt [⟨tg, iter, ifs, 0⟩] scope pos) 0 (.ref it) (.ref s.heap.objs.size) (compEnvC scope cl G.objs.size X.env))
        (RR (.ref s.heap.objs.size) G.objs.size) s₃ := by
    rintro s₃ rfl
    refine comp_loop0 (fun n s' => ∃ i σ' ys H', Inv (cCx X scope cl G.objs.size Nc { s with heap := G } (upd H s.heap.objs.size (.lst [])) fp) [] σ' H' s' ∧ tn i s'.heap ∧ (∀ b ∈ fp, H' b = none) ∧ W i n σ' ys H') ?_ m0
      ⟨0, σc σ, [], _, I2, st1, fun b hb => (hf1 b hb).1, w0⟩
    rintro n s5 ⟨i, σ5, ys, H5, I5, st5, fr5, w5⟩
    obtain ⟨hD, hsz, alt⟩ := turn i n σ5 ys H5 w5
    rcases alt with ⟨stop, q⟩ | ⟨go, step⟩
    · refine thn (T.done (cCx X scope cl G.objs.size Nc { s with heap := G } (upd H s.heap.objs.size (.lst [])) fp) rfl rfl rfl hc i [] s5 σ5 H5 _ I5 (fpB fr5) st5 stop) fun r s6 ⟨hr, I6⟩ => ?_
      subst hr
      obtain ⟨m6, n6, _⟩ := I6.loc
      have I7 : Inv X pins σ H5 s6 := I1.call' I6.os I6.base I6.hok I6.bare fun b hb => ⟨(hf1 b hb).2.2.2.1, (hf1 b hb).2.1, (hf1 b hb).2.2.2.2.1, (hf1 b hb).2.2.2.2.2⟩
      exact hRR _ _ H5 s6 m6 I7 I6.free (by rw [hG]; exact Nat.le_succ _) n6 q
    · refine thn (T.item (cCx X scope cl G.objs.size Nc { s with heap := G } (upd H s.heap.objs.size (.lst [])) fp) rfl rfl rfl hc i [] s5 σ5 H5 _ I5 (fpB fr5) st5 go) fun r s6 ⟨u, hr, h6⟩ => ?_
      subst hr
      refine thn h6 fun _ s7 ⟨x, H7, I7, r7, y7, st7, fr7⟩ => ?_
      have I7' := I7.pinned (fpB fr7) (T.obj _ _ st7)
      refine thn (hg _ _ _ _ _ s7 σ5 H7 x u _ I7' r7 (step x H7 y7)) fun _ s8 ⟨σ8, H8, I8, q8⟩ => ?_
      refine thn (ht _ _ _ _ _ s8 σ8 H8 _ I8 q8) fun ok s9 ⟨H9, I9, q9⟩ => ?_
      have again : ∀ {σ' : St} {H' : Hp} {s' : Shared} {ys' : List V} {m' : Nat}, Inv (cCx X scope cl G.objs.size Nc { s with heap := G } (upd H s.heap.objs.size (.lst [])) fp) ([] ++ pinsAt fp s7.heap) σ' H' s' → m' < n → W (i + 1) m' σ' ys' H' →
          ∃ m, m < n ∧ ∃ i σ' ys H', Inv (cCx X scope cl G.objs.size Nc { s with heap := G } (upd H s.heap.objs.size (.lst [])) fp) [] σ' H' s' ∧ tn i s'.heap ∧ (∀ b ∈ fp, H' b = none) ∧ W i m σ' ys H' := fun {σ' H' s' ys' m'} J7 hm hw => by
        refine ⟨m', hm, i + 1, σ', ys', H', J7.unpinned, T.keep _ _ _ st7 fun b hb o e => (J7.pin (b, o) (List.mem_append_right _ (List.mem_append_right _ (mem_pinsAt hb e)))).1, fun b hb => ?_, hw⟩
        obtain ⟨o, e, d⟩ := T.obj _ _ st7 b hb
        exact (J7.pin (b, o) (List.mem_append_right _ (List.mem_append_right _ (mem_pinsAt hb e)))).2.1
      cases ok with
      | false =>
        rw [if_neg Bool.false_ne_true] at q9 ⊢
        obtain ⟨m', hm, hw⟩ := q9
        exact again I9 hm hw
      | true =>
        rw [if_pos rfl] at q9 ⊢
        refine thn (he _ _ _ _ _ s9 σ8 H9 _ I9 q9) fun v s10 ⟨y, H10, I10, r10, hD10, m', hm, hw⟩ => ?_
        refine thn (mt_append _ s10 σ8 H10 (.ref s.heap.objs.size) [y] (.ref s.heap.objs.size) [v] (fun _ H' => H' = upd H10 s.heap.objs.size (.lst (ys ++ [y]))) I10 rfl (.cons r10 .nil) ⟨_, ys, y, rfl, rfl, hD10, hsz, rfl⟩) fun _ s11 ⟨z, H11, I11, _, e11⟩ => ?_
        subst e11
        exact again I11 hm hw
  exact codeAny_compStart_list (loop _ rfl) (T.self _ 0 _ _ _ st1 (loop _ rfl))
theorem pe_comp (hc : X.calm = true) (c : Caps X scope cl Nc σc) (hi : PI X tg iter wi)
    (hg : ∀ C s H fp, PG (cCx X scope cl C Nc s H fp) tg g) (ht : ∀ C s H fp, PTs (cCx X scope cl C Nc s H fp) ifs tt) (he : ∀ C s H fp, PE (cCx X scope cl C Nc s H fp) elt te)
    (hs : ∀ x, foldedSetIterable iter X.env x = pure x := by intro _; rfl) : PE X (.ListComp elt [⟨tg, iter, ifs, 0⟩] scope pos) (tComp wi g tt te σc) := by
  intro pins s σ H Q I h
  rw [eval_ListComp]
  refine wpAny_comprehension_free (use := none) rfl hs c.clos c.kind c.names (thn (hi pins s σ H _ I h) fun v s1 h1 => thn h1 fun itv s2 h2 => ?_)
  obtain ⟨it, fp, tn, J, H2, rfl, I2, T, st2, f2, W⟩ := h2
  refine comp_block (Q := Q) hc c hg ht he I2 T st2 f2 W ?_
  intro D C H' s' m I' hC hCs hn q
  refine ⟨m, hn, fun h' sb => ⟨.ref D, H', ?_, rfl, q⟩⟩
  have nl : C ≠ X.env.locals := Nat.ne_of_gt (Nat.lt_of_lt_of_le I2.lt hCs)
  refine I'.turned (t' := s'.toks) (it := C) (fun b o hb e => sb.extBut b o hb e) hC nl (.inr (Nat.le_trans I2.sz hCs)) (fun x a e z => ?_) (fun p hp z => ?_)
  · obtain ⟨v, q⟩ := I2.cell x a e
    exact absurd (Nat.lt_of_lt_of_le q.lt hCs) (by rw [z]; exact Nat.lt_irrefl _)
  · exact absurd (Nat.lt_of_lt_of_le (Heap.lt_size (I2.pin p hp).1) hCs) (by rw [z]; exact Nat.lt_irrefl _)
theorem ps_comp {i : Nat} {y : Str} {py spos : Pos} (hc : X.calm = true) (hN : X.N.Nodup) (hiy : X.N[i]? = some y) (hy : Loc X.env.scope y) (c : Caps X scope cl Nc σc) (hi : PI X tg iter wi)
    (hg : ∀ C s H fp, PG (cCx X scope cl C Nc s H fp) tg g) (ht : ∀ C s H fp, PTs (cCx X scope cl C Nc s H fp) ifs tt) (he : ∀ C s H fp, PE (cCx X scope cl C Nc s H fp) elt te)
    (hsw : swapsWith (.ListComp elt [⟨tg, iter, ifs, 0⟩] scope pos) (some (.Name y py)) spos.line X.env = pure true := by rfl)
    (hs : ∀ x, foldedSetIterable iter X.env x = pure x := by intro _; rfl) (hf : X.fn y = true ∨ X.env.scope.names.lookup y = some .local := by first | exact .inl rfl | exact .inr rfl | assumption) :
    PS X (.Assign [.Name y py] (.ListComp elt [⟨tg, iter, ifs, 0⟩] scope pos) spos) (tAsg (tComp wi g tt te σc) (gName i)) := by
  intro pins s σ H D I h
  rw [exec_Assign_Name_used _ _ _ _ hsw]
  refine wpAny_bind (wpAny_standAt (wpAny_bind ?_))
  show wpAny _ X.A (do let _ ← comprehension (.ListComp elt [⟨tg, iter, ifs, 0⟩] scope pos) scope X.env _ (newList []) false (eval iter X.env) (some (assign (.Name y py) X.env))) _ _ s
  refine wpAny_bind (wpAny_mono (wpAny_comprehension_free (use := some (assign (.Name y py) X.env)) (Q := fun _ s' => SP X pins D .next s') rfl hs c.clos c.kind c.names
    (thn (hi pins s σ H _ I h) fun v s1 h1 => thn h1 fun itv s2 h2 => ?_)) (fun _ s' hq => wpAny_pure (wpAny_pure hq)) fun _ _ e => e)
  obtain ⟨it, fp, tn, J, H2, rfl, I2, T, st2, f2, W⟩ := h2
  refine comp_block (Q := fun v H' => D.nx (σ.set i (some v)) H') hc c hg ht he I2 T st2 f2 W ?_
  intro L C H' s' m I' hC hCs hn q
  have nl : C ≠ X.env.locals := Nat.ne_of_gt (Nat.lt_of_lt_of_le I2.lt hCs)
  have nfs : C ∉ X.fs := I2.nofs hCs
  obtain ⟨oC, es, ep, hoC, hdC, hrC⟩ := id hn
  have ncell : ∀ v, oC.data ≠ .cell v := fun v z => by rw [hdC] at z; cases z
  have I'' : Inv X (pins ++ [(C, oC)]) σ H' s' := I'.pins_of fun p hp => by
    rcases List.mem_append.mp hp with z | z
    · exact I'.pin p (List.mem_append_right _ z)
    · have e : p = (C, oC) := by simpa using z
      subst e
      exact ⟨hoC, hC, nl, nfs, ncell⟩
  show wpAny _ X.A (assign (.Name y py) X.env (.ref L)) _ _ _
  refine wpAny_assign_Name (store_ok I'' hN hiy hy (v := .ref L) rfl (fun s3 I3 => ?_) hf)
  have hn3 : s3.heap.Ns C m := ⟨oC, es, ep, (I3.pin (C, oC) (by simp)).1, hdC, hrC⟩
  refine ⟨m, hn3, fun h' sb => ⟨σ.set i (some (.ref L)), H', ?_, q⟩⟩
  refine I3.unpinned.turned (t' := s3.toks) (it := C) (fun b o hb e => sb.extBut b o hb e) hC nl (.inr (Nat.le_trans I2.sz hCs)) (fun x a e z => ?_) (fun p hp z => ?_)
  · obtain ⟨v, q⟩ := I2.cell x a e
    exact absurd (Nat.lt_of_lt_of_le q.lt hCs) (by rw [z]; exact Nat.lt_irrefl _)
  · exact absurd (Nat.lt_of_lt_of_le (Heap.lt_size (I2.pin p hp).1) hCs) (by rw [z]; exact Nat.lt_irrefl _)
theorem caps0 (hk : scope.kind = .function) (hfree : ∀ x ∈ scope.names, x.2 ≠ .free) (hcell : ∀ x ∈ scope.names, x.2 ≠ .cell) (hnames : ∀ y ∈ scope.names, y.2 = .local → scope.names.lookup y.1 = some .local) :
    Caps X scope [] Nc (fun _ => List.replicate Nc.length none) where
  clos := closureFor_none hfree
  kind := hk
  nocell := hcell
  names := hnames
  cells := fun x c e => by cases e
  has := fun x h => by
    have hm : (relabel scope X.env).names = scope.names := by
      unfold relabel
      refine map_eq_self fun y hy => ?_
      obtain ⟨n, k⟩ := y
      have : (k == NameKind.free) = false := by simpa using hfree _ hy
      simp [this]
    rw [hm] at h
    rcases h with h | h
    · exact absurd rfl (hcell _ (PySem.mem_of_lookup h))
    · exact absurd rfl (hfree _ (PySem.mem_of_lookup h))
  len := fun _ => by simp
  cap := fun σ i x v _ e _ => by
    rw [List.getElem?_replicate] at e
    split at e <;> cases e
end
end L2
namespace L2
open PySem PySem.Spec PyProof.Rows
def Itz (K : PySem.W.Frag) (a b : Addr) : It :=
  ⟨fun i H => ∃ xs ys x y, SqL K H a xs ∧ SqL K H b ys ∧ xs[i]? = some x ∧ ys[i]? = some y,
   fun i H v H' => ∃ p, v = .ref p ∧ H p = none ∧ ∀ xs ys x y, SqL K H a xs → SqL K H b ys → xs[i]? = some x → ys[i]? = some y → H' = upd H p (.tup [x, y]),
   fun i H => ∃ xs ys, SqL K H a xs ∧ SqL K H b ys ∧ (xs.length ≤ i ∨ ys.length ≤ i)⟩
section
variable {X : Cx} {pins : List (Addr × Obj)} {σ : St} {H : Hp} {s : Shared} {h' : Heap}
theorem Inv.turnedLaid {t' : Nat} {ch : List Addr} {p : Addr} {o : HO} (I : Inv X pins σ H s) (k : ∀ b u, b ∉ ch → s.heap.get? b = some u → h'.get? b = some u) (hf : ∀ b ∈ ch, FpOk X pins H b)
    (hp : s.heap.objs.size ≤ p) (new : ObjOk X.prog X.w (upd H p o) h' p o) : Inv X pins σ (upd H p o) { s with heap := h', toks := t' } := by
  have hn := I.hok.fresh hp
  have nch : ∀ b u, H b = some u → b ∉ ch := fun b u e z => by rw [(hf b z).1] at e; cases e
  refine I.call (g' := s.gens) (d' := s.drawn) (ch := ch) ⟨fun b u e _ _ hc => k b u hc e, fun b u e _ _ hc => ⟨u.slots, k b u hc e⟩, fun b u e n _ => ?_, fun b u e hc => ⟨u, k b u hc e⟩, fun b xs e => ?_, fun b u xs e => ?_, fun b ps e => ?_⟩ (fun b u e => ?_) I.bare
    fun b hb => ⟨(hf b hb).2.2.2.1, (hf b hb).2.1, (hf b hb).2.2.2.2.1, (hf b hb).2.2.2.2.2⟩
  · rw [upd_ne (Nat.ne_of_lt (Nat.lt_of_lt_of_le (Heap.lt_size e) hp))]
    exact n
  · rw [upd_ne (ne_of_none e hn)]
    exact e
  · rw [upd_ne (ne_of_none e hn)]
    exact e
  · exact ⟨#[], by rw [upd_ne (ne_of_none e hn), e]; simp⟩
  · by_cases hb : b = p
    · subst hb
      rw [upd_same] at e
      cases e
      exact new
    · rw [upd_ne hb] at e
      refine (I.hok b u e).stay (fun c v hc q => k c v ?_ q) (fun c q => by rw [upd_ne (ne_of_none q hn)]; exact q) fun c xs q => by rw [upd_ne (ne_of_none q hn)]; exact q
      rcases hc with z | z
      · rw [z]
        exact nch b u e
      · exact nch c _ z
theorem Inv.turnedAll {t' : Nat} {ch : List Addr} (I : Inv X pins σ H s) (k : ∀ b u, b ∉ ch → s.heap.get? b = some u → h'.get? b = some u) (hf : ∀ b ∈ ch, FpOk X pins H b) : Inv X pins σ H { s with heap := h', toks := t' } := by
  have nch : ∀ b u, H b = some u → b ∉ ch := fun b u e z => by rw [(hf b z).1] at e; cases e
  refine I.call (g' := s.gens) (d' := s.drawn) (ch := ch) ⟨fun b u e _ _ hc => k b u hc e, fun b u e _ _ hc => ⟨u.slots, k b u hc e⟩, fun b u e n _ => n, fun b u e hc => ⟨u, k b u hc e⟩, fun b xs e => e, fun b u xs e => e, fun b ps e => ⟨#[], by rw [e]; simp⟩⟩ (fun b u e => ?_) I.bare
    fun b hb => ⟨(hf b hb).2.2.2.1, (hf b hb).2.1, (hf b hb).2.2.2.2.1, (hf b hb).2.2.2.2.2⟩
  refine (I.hok b u e).stay (fun c v hc q => k c v ?_ q) (fun c q => q) fun c xs q => q
  rcases hc with z | z
  · rw [z]
    exact nch b u e
  · exact nch c _ z
end
section
variable {X : Cx} {elts : List Expr} {kk : Nat} {tpos : Pos}
def iZip (K : PySem.W.Frag) (ta : TA) : TI := fun σ H R => ta σ H fun vs H1 => ∃ a b, vs = [.ref a, .ref b] ∧ (∃ xs, SqL K H1 a xs) ∧ (∃ ys, SqL K H1 b ys) ∧ R (Itz K a b) H1
end
end L2
namespace L2
open PySem PySem.Spec PyProof.Rows
structure ExcCls (K : PySem.W.Frag) (mg : Str → Option Value) (x : Str) (C : Addr) : Prop where
  m : mg x = some (.ref C)
  ex : PySem.W.excIn K C [.type "ValueError", .type "Exception", .type "BaseException", .type "object"] "ValueError.__new__" = true
def CXe (P : Program) (w : World) : CXT := fun outer H s E e s' => ∃ (ea : Addr) (cls a0 : Value) (H' : Hp) (B : Heap),
  e = .ref ea ∧ s'.os = s.os ∧ AllBare s'.gens ∧ Un (frs outer) [] H H' s.heap s'.heap ∧ HOk P w H' s'.heap ∧ Heap.FlyingW B outer ea cls a0 s'.heap ∧
  (∀ b o, s'.heap.get? b = some o → b ∉ frs outer → (H' b ≠ none ∨ s.heap.get? b ≠ none) → B.get? b = some o) ∧ H' ea = none ∧ s.heap.get? ea = none ∧ E cls none H'
def Throws (X : Cx) (C : Addr) (R : Hp → Prop) : Prop :=
  ∀ (pins : List (Addr × Obj)) (σ : St) (H : Hp) (s : Shared) (h' : Heap) (ea : Addr) (vs : List Value), Inv X pins σ H s → Heap.MadeExcOf s.heap h' ea (.ref C) vs → R H → X.xe (.ref ea) { s with heap := h' }
section
variable {X : Cx}
def tRaise (te : TE) (R : Hp → Prop) : TS := fun _ σ H => te σ H fun v H1 => ([v] : List V).length = 1 ∧ R H1
end
end L2
namespace L2
open PySem PySem.Spec PyProof.Rows
abbrev Cx.marked (X : Cx) (ea : Addr) : Cx := { X with A := X.A.mark (some (.ref ea)), calm := false, xe := fun _ _ => False }
section
variable {X : Cx} {pins : List (Addr × Obj)} {σ : St} {H : Hp} {s : Shared} {ea : Addr}
def ExcAt (p : Addr) (cls : Value) (h : Heap) : Prop := ∃ o, h.get? p = some o ∧ o.cls = cls
end
end L2
namespace L2
open PySem PySem.Spec PySem.W PySem.Calls PyProof.Rows
structure ExcKit (K : Frag) (C : Addr) : Prop where
  ga : findIn K (.ref C) "__getattribute__" = some (some (.builtin "BaseException.__getattribute__"))
  gx : findIn K (.ref C) "__getattr__" = some none
  cl : findIn K (.ref C) "__class__" = some (some (.builtin "object.__class__"))
  mo : mroIn K C (.type "object") = some true
  mb : mroIn K C (.type "BaseException") = some true
section
variable {prog : Program} {w : World} {A : Around} {E : Value → Shared → Prop} {h : Heap} {g : Array GenState} {d : Drawn} {t : Nat} {os : OsState} {a C : Addr} {o : Obj} {K : Frag}
open Builtin Builtin.ObjectAttr Builtin.Getset_descriptor in
end
section
variable {X : Cx}
def rIsiX (K : Frag) : List V → Hp → VK → Prop := fun xs H Q => ∃ p c cv C b, xs = [.ref p, c] ∧ RelV c cv ∧ H p = some (.ext (ExcAt p (.ref C))) ∧ ExcKit K C ∧ kitOne K (.ref C) cv = some b ∧ Q (.bl b) H
end
end L2
namespace L2
open PySem PySem.Spec PyProof.Rows
def tTry (K : PySem.W.Frag) (Ch : Value) (i : Nat) (sp : Sp) (t : TA) (ts : TS) : TS := fun D σ H => t σ H fun vs H1 => sp vs H1 (fun _ H2 => D.nx σ H2)
  (fun cls _ H2 => (∃ C, cls = .ref C) ∧ PySem.W.exmOne K cls Ch = some true ∧ ∀ ea, H2 ea = none → ts { nx := fun σ' H' => D.nx (σ'.set i none) H', rt := fun _ _ => False } (σ.set i (some (.ref ea))) (upd H2 ea (.ext (ExcAt ea cls))))
section
variable {X : Cx} {k : Nat} {f : Addr} {fd : FuncData} {ps : List Str} {sp : Sp} {x c n : Str} {p cpos epos np hpos pos : Pos} {e : Expr} {es : List Expr} {t : TA} {b₀ : Stmt} {suite : List Stmt} {ts : TS} {i : Nat} {Ch : Value}
end
end L2
namespace L2
open PySem PySem.Spec PyProof.Rows
section
variable {X : Cx}
theorem ints_get {its : List Value} {ns : List Int} (i : IntsAre its ns) : ∀ (j : Nat) v, its[j]? = some v → ∃ t, v = Value.int (ns.getD j 0) t := by
  induction i with
  | nil => intro j v h; simp at h
  | cons n t i ih =>
    intro j v h
    cases j with
    | zero => simp at h; exact ⟨t, h.symm⟩
    | succ j =>
      obtain ⟨t', e⟩ := ih j v (by simpa using h)
      exact ⟨t', by simpa using e⟩
theorem call_sum (hc : X.calm = true) : CallR X (.builtin "sum") (fun xs H Q => ∃ (p : Addr) (ns : List Int), xs = [.ref p] ∧ SqL X.K H p (ns.map V.int) ∧ Q (.int ns.sum) H) := by
  intro pins s σ H xs us Q I r h
  obtain ⟨p, ns, rfl, hp, q⟩ := h
  obtain ⟨u, rfl, ru⟩ := vals1 r
  cases ru
  obtain ⟨its, rv, pl, _⟩ := I.list hp
  have i1 : IntsAre its ns := intsAre_of rv
  have lp : p < s.heap.objs.size := by obtain ⟨_, e, _⟩ := pl.isList; exact Heap.lt_size e
  refine call_sum_walkG (wpAny_pyIter_list pl.isList ?_)
  refine ⟨s.heap.objs.size, _, _, _, _, _, fun j => ns.getD j 0, rfl, Walks.list (A := X.A.in1) (I.ok.hd hc) s.heap.objs.size p (Nat.ne_of_lt lp) its.toArray, ⟨⟨_, Heap.get?_push_size _ rfl, rfl, rfl⟩, pl.isList.at fun o e => Heap.get?_push_of_some _ e⟩, fun b hb => ?_, fun j v hj => ints_get i1 j v (by simpa using hj), fun h' tk t' kk => ?_⟩
  · have hb' : b = s.heap.objs.size ∨ b = p := by simpa using hb
    rcases hb' with rfl | rfl
    · rw [Heap.size_push]; exact Nat.lt_succ_self _
    · rw [Heap.size_push]; exact Nat.lt_succ_of_lt lp
  · refine ⟨.int ns.sum, H, I.kept (t' := tk) fun b o e => kk b o (fun z => ?_) (Heap.get?_push_of_some _ e), ⟨t', ?_⟩, q⟩
    · have z' : b = s.heap.objs.size := by simpa using z
      exact absurd (Heap.lt_size e) (by rw [z']; exact Nat.lt_irrefl _)
    · have l1 : its.toArray.size = ns.length := by rw [List.size_toArray]; exact i1.length
      rw [preSum_getD, l1, List.take_of_length_le (Nat.le_refl _)]
end
end L2
namespace L2
open PySem PySem.Spec PyProof.Rows
inductive Dt where
  | non | int (i : Int) | str (x : Str) | tup (ds : List Dt)
mutual
def Dt.beq : Dt → Dt → Bool
  | .non, .non => true
  | .int i, .int j => i == j
  | .str x, .str y => x == y
  | .tup a, .tup b => Dt.beqs a b
  | _, _ => false
def Dt.beqs : List Dt → List Dt → Bool
  | [], [] => true
  | x :: xs, y :: ys => Dt.beq x y && Dt.beqs xs ys
  | _, _ => false
end
mutual
def Dt.hgt : Dt → Nat
  | .tup ds => Dt.hgts ds + 1
  | _ => 0
def Dt.hgts : List Dt → Nat
  | [] => 0
  | d :: r => max (Dt.hgt d) (Dt.hgts r)
end
mutual
def DatAt (K : PySem.W.Frag) (H : Hp) : V → Dt → Prop
  | v, .non => v = .non
  | v, .int i => v = .int i
  | v, .str x => v = .str x
  | v, .tup ds => ∃ r vs, v = .ref r ∧ SqT K H r vs ∧ DatsAt K H vs ds
def DatsAt (K : PySem.W.Frag) (H : Hp) : List V → List Dt → Prop
  | [], [] => True
  | v :: vs, d :: ds => DatAt K H v d ∧ DatsAt K H vs ds
  | _, _ => False
end
mutual
theorem Dt.beq_iff : ∀ (x y : Dt), Dt.beq x y = true ↔ x = y
  | .non, y => by cases y <;> simp [Dt.beq]
  | .int i, y => by cases y <;> simp [Dt.beq]
  | .str i, y => by cases y <;> simp [Dt.beq]
  | .tup a, y => by
    cases y with
    | tup b =>
      have := Dt.beqs_iff a b
      simp [Dt.beq, this]
    | _ => simp [Dt.beq]
theorem Dt.beqs_iff : ∀ (x y : List Dt), Dt.beqs x y = true ↔ x = y
  | [], y => by cases y <;> simp [Dt.beqs]
  | a :: r, y => by
    cases y with
    | nil => simp [Dt.beqs]
    | cons b t =>
      have h1 := Dt.beq_iff a b
      have h2 := Dt.beqs_iff r t
      simp [Dt.beqs, h1, h2]
end
section
variable {K : PySem.W.Frag} {H H' : Hp}
theorem DatAt.int (i : Int) : DatAt K H (.int i) (.int i) := by simp [DatAt]
theorem DatAt.str (i : Str) : DatAt K H (.str i) (.str i) := by simp [DatAt]
theorem DatAt.tup {r : Addr} {vs : List V} {ds : List Dt} (h : SqT K H r vs) (k : DatsAt K H vs ds) : DatAt K H (.ref r) (.tup ds) := by
  simp only [DatAt]
  exact ⟨r, vs, rfl, h, k⟩
theorem DatsAt.nil : DatsAt K H [] [] := by simp [DatsAt]
theorem DatsAt.cons {v : V} {d : Dt} {vs : List V} {ds : List Dt} (h : DatAt K H v d) (k : DatsAt K H vs ds) : DatsAt K H (v :: vs) (d :: ds) := by
  simp only [DatsAt]
  exact ⟨h, k⟩
theorem DatAt.un {v : V} {ds : List Dt} (h : DatAt K H v (.tup ds)) : ∃ r vs, v = .ref r ∧ SqT K H r vs ∧ DatsAt K H vs ds := by
  simp only [DatAt] at h
  exact h
theorem DatsAt.un {vs : List V} {d : Dt} {ds : List Dt} (h : DatsAt K H vs (d :: ds)) : ∃ v r, vs = v :: r ∧ DatAt K H v d ∧ DatsAt K H r ds := by
  cases vs with
  | nil => simp [DatsAt] at h
  | cons v r =>
    simp only [DatsAt] at h
    exact ⟨v, r, rfl, h.1, h.2⟩
theorem DatsAt.un0 {vs : List V} (h : DatsAt K H vs []) : vs = [] := by
  cases vs with
  | nil => rfl
  | cons v r => simp [DatsAt] at h
mutual
theorem DatAt.same (e : Same H H') : ∀ {v : V} {d : Dt}, DatAt K H v d → DatAt K H' v d
  | v, .non, h => by simpa [DatAt] using h
  | v, .int i, h => by simpa [DatAt] using h
  | v, .str i, h => by simpa [DatAt] using h
  | v, .tup ds, h => by
    obtain ⟨r, vs, rfl, h1, h2⟩ := h.un
    exact .tup (e.tup h1) (DatsAt.same e h2)
theorem DatsAt.same (e : Same H H') : ∀ {vs : List V} {ds : List Dt}, DatsAt K H vs ds → DatsAt K H' vs ds
  | vs, [], h => by
    rw [h.un0]
    exact .nil
  | vs, d :: ds, h => by
    obtain ⟨v, r, rfl, h1, h2⟩ := h.un
    exact .cons (DatAt.same e h1) (DatsAt.same e h2)
end
theorem DatsAt.length : ∀ {vs : List V} {ds : List Dt}, DatsAt K H vs ds → vs.length = ds.length
  | vs, [], h => by rw [h.un0]; rfl
  | vs, d :: ds, h => by
    obtain ⟨v, r, rfl, _, h2⟩ := h.un
    simp [DatsAt.length h2]
theorem DatsAt.get : ∀ {vs : List V} {ds : List Dt} {i : Nat} {d : Dt}, DatsAt K H vs ds → ds[i]? = some d → ∃ v, vs[i]? = some v ∧ DatAt K H v d
  | vs, [], i, d, h, e => by simp at e
  | vs, c :: ds, i, d, h, e => by
    obtain ⟨v, r, rfl, h1, h2⟩ := h.un
    cases i with
    | zero =>
      have e' : c = d := by simpa using e
      subst e'
      exact ⟨v, rfl, h1⟩
    | succ i =>
      obtain ⟨u, e1, e2⟩ := DatsAt.get (i := i) (d := d) h2 (by simpa using e)
      exact ⟨u, by simpa using e1, e2⟩
theorem DatsAt.get' {vs : List V} {ds : List Dt} {i : Nat} {v : V} (h : DatsAt K H vs ds) (e : vs[i]? = some v) : ∃ d, ds[i]? = some d ∧ DatAt K H v d := by
  have hl := h.length
  have hi : i < ds.length := by
    have := (List.getElem?_eq_some_iff.mp e).1
    omega
  obtain ⟨u, e1, e2⟩ := h.get (List.getElem?_eq_getElem hi)
  rw [e] at e1
  cases e1
  exact ⟨_, List.getElem?_eq_getElem hi, e2⟩
theorem DatsAt.append : ∀ {vs ws : List V} {ds es : List Dt}, DatsAt K H vs ds → DatsAt K H ws es → DatsAt K H (vs ++ ws) (ds ++ es)
  | vs, ws, [], es, h, k => by
    rw [h.un0]
    exact k
  | vs, ws, d :: ds, es, h, k => by
    obtain ⟨v, r, rfl, h1, h2⟩ := h.un
    exact .cons h1 (DatsAt.append h2 k)
end
section
variable {X : Cx} {pins : List (Addr × Obj)} {σ : St} {H : Hp} {s : Shared}
mutual
theorem DatAt.inj (I : Inv X pins σ H s) : ∀ {v : V} {d e : Dt}, DatAt X.K H v d → DatAt X.K H v e → d = e
  | v, .non, e, h, k => by
    have h' : v = .non := by simpa [DatAt] using h
    subst h'
    cases e <;> simp [DatAt] at k ⊢
  | v, .int i, e, h, k => by
    have h' : v = .int i := by simpa [DatAt] using h
    subst h'
    cases e <;> simp [DatAt] at k ⊢
    exact k
  | v, .str i, e, h, k => by
    have h' : v = .str i := by simpa [DatAt] using h
    subst h'
    cases e <;> simp [DatAt] at k ⊢
    exact k
  | v, .tup ds, e, h, k => by
    obtain ⟨r, vs, rfl, h1, h2⟩ := h.un
    cases e with
    | tup es =>
      obtain ⟨r', ws, e', k1, k2⟩ := k.un
      cases e'
      have := I.tuple_inj h1 k1
      subst this
      rw [DatsAt.inj I h2 k2]
    | _ => simp [DatAt] at k
theorem DatsAt.inj (I : Inv X pins σ H s) : ∀ {vs : List V} {ds es : List Dt}, DatsAt X.K H vs ds → DatsAt X.K H vs es → ds = es
  | vs, [], es, h, k => by
    have := h.un0
    subst this
    cases es with
    | nil => rfl
    | cons _ _ => simp [DatsAt] at k
  | vs, d :: ds, es, h, k => by
    obtain ⟨v, r, rfl, h1, h2⟩ := h.un
    cases es with
    | nil => simp [DatsAt] at k
    | cons e es =>
      simp only [DatsAt] at k
      rw [DatAt.inj I h1 k.1, DatsAt.inj I h2 k.2]
end
def rEqD (K : PySem.W.Frag) : R2 := fun x y H Q => ∃ d e, DatAt K H x d ∧ DatAt K H y e ∧ d.hgt ≤ 30 ∧ Q (.bl (Dt.beq d e)) H
def rNeD (K : PySem.W.Frag) : R2 := fun x y H Q => ∃ d e, DatAt K H x d ∧ DatAt K H y e ∧ d.hgt ≤ 30 ∧ Q (.bl (!Dt.beq d e)) H
def rEqL (K : PySem.W.Frag) : R2 := fun x y H Q => ∃ a b vs ws ds es, x = .ref a ∧ y = .ref b ∧ SqL K H a vs ∧ SqL K H b ws ∧ DatsAt K H vs ds ∧ DatsAt K H ws es ∧ Dt.hgts ds ≤ 30 ∧ Q (.bl (Dt.beqs ds es)) H
def rNeL (K : PySem.W.Frag) : R2 := fun x y H Q => ∃ a b vs ws ds es, x = .ref a ∧ y = .ref b ∧ SqL K H a vs ∧ SqL K H b ws ∧ DatsAt K H vs ds ∧ DatsAt K H ws es ∧ Dt.hgts ds ≤ 30 ∧ Q (.bl (!Dt.beqs ds es)) H
theorem call_isiT : CallR X (.builtin "isinstance") (fun xs H Q => ∃ a vs n b, xs = [.ref a, .ty n] ∧ SqT X.K H a vs ∧ PySem.W.kitOne X.K (.type "tuple") (.type n) = some b ∧ Q (.bl b) H) := by
  intro pins s σ H xs us Q I r h
  obtain ⟨a, vs, n, b, rfl, ht, e, q⟩ := h
  obtain ⟨u, w', rfl, r1, r2⟩ := vals2 r
  cases (show u = Value.ref a from r1)
  cases (show w' = Value.type n from r2)
  obtain ⟨its, _, ⟨o, h1, h2, _⟩, _⟩ := I.tuple ht
  exact PySem.W.kia_one PySem.W.kitx_tuple I.kIn ⟨o, h1, h2⟩ e (fun z => nomatch z) fun tk => ⟨.bl b, H, I.tok tk, rfl, q⟩
end
end L2
namespace L2
open PySem PySem.Spec PySem.W PyProof.Rows
def Tr {α : Type} (N : Nat) (P : α → Prop) : KasT α → Prop
  | .ret a => P a
  | .ask i j k => i < N ∧ j < N ∧ ∀ b, Tr N P (k b)
def Pl (N : Nat) (p : Array Nat) : Prop := p.Perm (List.range N).toArray
section
variable {N : Nat} (hN : 0 < N)
include hN
end
section
variable {prog : Program} {w : World} {A : Around} {E : Value → Shared → Prop} {s : Shared}
end
end L2
namespace L2
open PySem PySem.Spec PySem.W PyProof.Rows
def pairD (f : Str × Int) : Dt := .tup [.str f.1, .int f.2]
def pairLt (f g : Str × Int) : Bool := if f.1 == g.1 then (if f.2 == g.2 then false else decide (f.2 < g.2)) else decide (f.1.cps.toList < g.1.cps.toList)
section
variable {X : Cx} {pins : List (Addr × Obj)} {σ : L2.St} {H : Hp} {s : Shared}
end
end L2
namespace L2
open PySem PySem.Spec PyProof.Rows
structure Feed (i l : Addr) (P : Nat → Heap → Prop) (f : Nat → Option Value) : Prop where
  obj : ∀ k h, P k h → ∃ o, h.get? i = some o ∧ ∀ v, o.data ≠ .cell v
  keep : ∀ k (h g : Heap), P k h → (∀ b o, b = i ∨ b = l → h.get? b = some o → g.get? b = some o) → P k g
  item : ∀ {prog : Program} {w : World} {A : Around} {E : Value → Shared → Prop} {s : Shared} {k : Nat} {x : Value} {Q : Value → Shared → Prop}, P k s.heap → f k = some x →
    (∀ g, P (k + 1) g → Heap.SameBut i s.heap g → Q x { s with heap := g }) → wpAny (model prog w) A (Builtin.SmallTypes.nextOf (.ref i)) Q E s
  stop : ∀ {prog : Program} {w : World} {A : Around} {E : Value → Shared → Prop} {s : Shared} {k : Nat} {Q : Value → Shared → Prop}, A.handled = none → P k s.heap → f k = none →
    (∀ g e, Heap.ExtBut i s.heap g → (∃ o, g.get? e = some o ∧ o.cls = .type "StopIteration") → E (.ref e) { s with heap := g }) → wpAny (model prog w) A (Builtin.SmallTypes.nextOf (.ref i)) Q E s
section
variable {prog : Program} {w : World} {A : Around} {E : Value → Shared → Prop} {s : Shared}
theorem feed_tuple {i l : Addr} (hil : l ≠ i) (xs : Array Value) : Feed i l (fun k h => h.IsTupleIter i l k ∧ h.IsTuple l xs) (fun k => xs[k]?) where
  obj := fun k h p => by
    obtain ⟨⟨o, e, _, d⟩, _⟩ := p
    exact ⟨o, e, fun v z => by rw [d] at z; cases z⟩
  keep := fun k h g p q => ⟨p.1.at fun o e => q i o (.inl rfl) e, by
    obtain ⟨o, e, r⟩ := p.2
    exact ⟨o, q l o (.inr rfl) e, r⟩⟩
  item := by
    intro prog w A E s k x Q p hx hQ
    obtain ⟨⟨oi, ei, ci, di⟩, ⟨ol, el, cl, nl, dl⟩⟩ := id p
    unfold Builtin.SmallTypes.nextOf
    refine wpAny_bind (wpAny_callSpecial?_slot (name := Str.ofString "__next__") p.1.typeIs PySem.F.slot_tuple_iterator_next (wpAny_call_entry PySem.F.slot_tuple_iterator_next p.1.typeIs PySem.F.entry_tuple_iterator_next ?_ (PySem.F.args_tuple_iterator_next_1 _)))
    show wpAny _ _ (field (.ref i) 0 >>= _) _ _ s
    refine wpAny_bind (wpAny_field ei di (x := .ref l) rfl ?_)
    show wpAny _ _ (if (Value.ref l == Value.none) = true then _ else _) _ _ s
    rw [if_neg (show ¬ ((Value.ref l == Value.none) = true) from Bool.false_ne_true)]
    show wpAny _ _ (field (.ref i) 1 >>= _) _ _ s
    refine wpAny_bind (wpAny_field ei di (x := .int k 0) rfl ?_)
    show wpAny _ _ (seqItems? (.ref l) >>= _) _ _ s
    refine wpAny_bind (wpAny_seqItems el dl ?_)
    have hx' : xs[k]? = some x := hx
    simp only [Int.toNat_natCast, hx']
    refine wpAny_bind (wpAny_setField ei di (by simp) (wpAny_pure ⟨x, rfl, wpAny_pure (hQ _ ⟨?_, ?_⟩ (Heap.SameBut.update ..))⟩))
    · exact ⟨_, Heap.get?_update_self _ ei (Obj.isFreed_of_fields (Obj.data_mapFields di _)), (Obj.cls_mapFields ..).trans ci, by rw [Obj.data_mapFields di]; simp [rawInt]⟩
    · exact ⟨ol, ((Heap.SameBut.update ..).2 l hil).trans el, cl, nl, dl⟩
  stop := by
    intro prog w A E s k Q hh p hx hE
    obtain ⟨⟨oi, ei, ci, di⟩, ⟨ol, el, cl, nl, dl⟩⟩ := id p
    unfold Builtin.SmallTypes.nextOf
    refine wpAny_bind (wpAny_callSpecial?_slot (name := Str.ofString "__next__") p.1.typeIs PySem.F.slot_tuple_iterator_next (wpAny_call_entry PySem.F.slot_tuple_iterator_next p.1.typeIs PySem.F.entry_tuple_iterator_next ?_ (PySem.F.args_tuple_iterator_next_1 _)))
    show wpAny _ _ (field (.ref i) 0 >>= _) _ _ s
    refine wpAny_bind (wpAny_field ei di (x := .ref l) rfl ?_)
    show wpAny _ _ (if (Value.ref l == Value.none) = true then _ else _) _ _ s
    rw [if_neg (show ¬ ((Value.ref l == Value.none) = true) from Bool.false_ne_true)]
    show wpAny _ _ (field (.ref i) 1 >>= _) _ _ s
    refine wpAny_bind (wpAny_field ei di (x := .int k 0) rfl ?_)
    show wpAny _ _ (seqItems? (.ref l) >>= _) _ _ s
    refine wpAny_bind (wpAny_seqItems el dl ?_)
    have hx' : xs[k]? = none := hx
    simp only [Int.toNat_natCast, hx']
    refine wpAny_bind (wpAny_rule (wpAny_bind (wpAny_setField ei di (by simp) ?_)))
    show wpAny _ _ (newExc (.type "StopIteration") [] >>= _) _ _ _
    refine wpAny_bind ?_
    simp only [newExc, newTuple]
    refine wpAny_bind (wpAny_newObj_type ?_ (by size_fits))
    refine wpAny_bind (m := firstArgMember _ _) (wpAny_of_eq (a := Value.none) (by first | rfl | (simp only [firstArgMember]; rfl)) (wpAny_newObj_type ?_ (by size_fits)))
    simp only [raiseNew]
    refine wpAny_bind (wpAny_handled ?_)
    first | rw [show A.in1.handled = none from hh] | rw [hh]
    refine wpAny_bind (wpAny_pure (wpAny_throw ?_))
    exact hE _ _ (((Heap.SameBut.update ..).extBut.push _).push _) ⟨_, Heap.get?_push_size _ rfl, rfl⟩
variable {z TI TO i1 i2 l1 l2 : Addr} {P1 P2 : Nat → Heap → Prop} {f1 f2 : Nat → Option Value} {k1 k2 : Nat} {x y a b : Value}
theorem zipF_item {Q : Option Value → Shared → Prop} (F1 : Feed i1 l1 P1 f1) (F2 : Feed i2 l2 P2 f2) (D : ZipApart z TI TO i1 i2 l1 l2) (hz : IsZip s.heap z TI TO .none) (hI : IsPair s.heap TI (.ref i1) (.ref i2)) (hO : IsPair s.heap TO a b)
    (p1 : P1 k1 s.heap) (p2 : P2 k2 s.heap) (hx : f1 k1 = some x) (hy : f2 k2 = some y)
    (hQ : ∀ g, IsZip g z TI TO (rawInt s.heap.objs.size) → IsPair g TO x y → P1 (k1 + 1) g → P2 (k2 + 1) g → IsPair g s.heap.objs.size x y →
      (∀ c o, c ≠ z → c ≠ TO → c ≠ i1 → c ≠ i2 → s.heap.get? c = some o → g.get? c = some o) → Q (some (.ref s.heap.objs.size)) { s with heap := g }) :
    wpAny (model prog w) A (pyNext (.ref z)) Q E s := by
  have ty : s.TypeIs (.ref z) "zip" := ⟨_, hz, rfl⟩
  unfold pyNext
  refine wpAny_bind (wpAny_attempt (wpAny_callSpecial?_slot (name := Str.ofString "__next__") ty PySem.F.slot_zip_next (wpAny_call_entry PySem.F.slot_zip_next ty PySem.F.entry_zip_next ?_ (PySem.F.args_zip_next_1 _))))
  show wpAny _ _ (field (.ref z) 2 >>= _) _ _ _
  refine wpAny_bind (wpAny_field hz rfl (x := .bool false) rfl ?_)
  show wpAny _ _ (field (.ref z) 3 >>= _) _ _ _
  refine wpAny_bind (wpAny_field hz rfl (x := .ref TI) rfl (wpAny_bind (wpAny_seqItems hI rfl ?_)))
  show wpAny _ _ (Builtin.SmallTypes.ownedTupleIsFree (.ref z) >>= _) _ _ _
  refine wpAny_bind ?_
  unfold Builtin.SmallTypes.ownedTupleIsFree
  refine wpAny_bind (wpAny_field hz rfl (x := .none) rfl (wpAny_pure ?_))
  simp only [if_true]
  refine wpAny_bind (wpAny_rule (wpAny_bind (wpAny_field hz rfl (x := .ref TO) rfl ?_)))
  refine wpAny_bind (wpAny_setField_rec hz (by simp) fun g1 z1 b1 => ?_)
  replace z1 : IsZip g1 z TI TO .ellipsis := z1
  refine wpAny_bind ?_
  simp only [List.zipIdx_cons, List.zipIdx_nil, List.forIn_cons, List.forIn_nil]
  refine wpAny_bind (wpAny_bind (wpAny_onRaise ?_))
  show wpAny _ _ (Builtin.SmallTypes.nextOf (.ref i1) >>= _) _ _ _
  have q1 : P1 k1 g1 := F1.keep _ _ _ p1 fun c o hc e => b1.extBut _ _ (by rcases hc with rfl | rfl; exact D.i1z; exact D.l1z) e
  refine wpAny_bind (F1.item q1 hx fun g2 r1 b2 => wpAny_pure ?_)
  have O2 : IsPair g2 TO a b := b2.extBut _ _ D.TOi1 (b1.extBut _ _ D.TOz hO)
  refine wpAny_bind (wpAny_seqItems O2 rfl (wpAny_bind (wpAny_updateSeq_pair O2 fun g3 O3 b3 => ?_)))
  replace O3 : IsPair g3 TO x b := O3
  refine wpAny_bind (wpAny_letGo (wpAny_pure (wpAny_bind (wpAny_bind (wpAny_onRaise ?_)))))
  show wpAny _ _ (Builtin.SmallTypes.nextOf (.ref i2) >>= _) _ _ _
  have q2 : P2 k2 g3 := F2.keep _ _ _ p2 fun c o hc e => b3.extBut _ _ (by rcases hc with rfl | rfl; exact D.TOi2.symm; exact D.l2TO) (b2.extBut _ _ (by rcases hc with rfl | rfl; exact D.i12.symm; exact D.l2i1) (b1.extBut _ _ (by rcases hc with rfl | rfl; exact D.i2z; exact D.l2z) e))
  refine wpAny_bind (F2.item q2 hy fun g4 r2 b4 => wpAny_pure ?_)
  have O4 : IsPair g4 TO x b := b4.extBut _ _ D.TOi2 O3
  refine wpAny_bind (wpAny_seqItems O4 rfl (wpAny_bind (wpAny_updateSeq_pair O4 fun g5 O5 b5 => ?_)))
  replace O5 : IsPair g5 TO x y := O5
  refine wpAny_bind (wpAny_letGo (wpAny_pure (wpAny_pure (wpAny_bind (wpAny_seqItems O5 rfl (wpAny_bind (wpAny_newTuple ?_)))))))
  have sz : g5.objs.size = s.heap.objs.size := by rw [b5.1, b4.1, b3.1, b2.1, b1.1]
  have z5 : IsZip g5 z TI TO .ellipsis := b5.extBut _ _ D.TOz.symm (b4.extBut _ _ D.i2z.symm (b3.extBut _ _ D.TOz.symm (b2.extBut _ _ D.i1z.symm z1)))
  have all5 : ∀ c o, c ≠ z → c ≠ TO → c ≠ i1 → c ≠ i2 → s.heap.get? c = some o → g5.get? c = some o := fun c o n1 n2 n3 n4 e =>
    b5.extBut _ _ n2 (b4.extBut _ _ n4 (b3.extBut _ _ n2 (b2.extBut _ _ n3 (b1.extBut _ _ n1 e))))
  have s1 : P1 (k1 + 1) g5 := F1.keep _ _ _ r1 fun c o hc e => b5.extBut _ _ (by rcases hc with rfl | rfl; exact D.TOi1.symm; exact D.l1TO) (b4.extBut _ _ (by rcases hc with rfl | rfl; exact D.i12; exact D.l1i2) (b3.extBut _ _ (by rcases hc with rfl | rfl; exact D.TOi1.symm; exact D.l1TO) e))
  have s2 : P2 (k2 + 1) g5 := F2.keep _ _ _ r2 fun c o hc e => b5.extBut _ _ (by rcases hc with rfl | rfl; exact D.TOi2.symm; exact D.l2TO) e
  have ltz : z < g5.objs.size := Heap.lt_size z5
  show wpAny _ _ (Builtin.SmallTypes.ownedTupleHandOut (.ref z) (.ref g5.objs.size) >>= _) _ _ _
  refine wpAny_bind ?_
  unfold Builtin.SmallTypes.ownedTupleHandOut
  have z6 : IsZip (g5.push { cls := .type "tuple", data := .seq #[x, y] }) z TI TO .ellipsis := Heap.get?_push_of_some _ z5
  refine wpAny_bind (wpAny_setField_rec z6 (by simp) fun g7 z7 b7 => ?_)
  replace z7 : IsZip g7 z TI TO (rawInt g5.objs.size) := z7
  refine wpAny_setField_rec z7 (by simp) fun g8 z8 b8 => ?_
  replace z8 : IsZip g8 z TI TO (rawInt g5.objs.size) := z8
  have up : ∀ c o, c ≠ z → g5.get? c = some o → g8.get? c = some o := fun c o n e => b8.extBut _ _ n (b7.extBut _ _ n (Heap.get?_push_of_some _ e))
  have T8 : IsPair g8 g5.objs.size x y := b8.extBut _ _ (Nat.ne_of_gt ltz) (b7.extBut _ _ (Nat.ne_of_gt ltz) (Heap.get?_push_size _ rfl))
  rw [sz] at z8 T8
  refine wpAny_pure ⟨_, rfl, wpAny_pure ?_⟩
  show Q (some (.ref g5.objs.size)) _
  rw [sz]
  exact hQ g8 z8 (up _ _ D.TOz O5) (F1.keep _ _ _ s1 fun c o hc e => up c o (by rcases hc with rfl | rfl; exact D.i1z; exact D.l1z) e) (F2.keep _ _ _ s2 fun c o hc e => up c o (by rcases hc with rfl | rfl; exact D.i2z; exact D.l2z) e) T8
    fun c o n1 n2 n3 n4 e => up c o n1 (all5 c o n1 n2 n3 n4 e)
theorem zipF_end {Q : Option Value → Shared → Prop} (hh : A.handled = none) (F1 : Feed i1 l1 P1 f1) (F2 : Feed i2 l2 P2 f2) (D : ZipApart z TI TO i1 i2 l1 l2) (hz : IsZip s.heap z TI TO .none) (hI : IsPair s.heap TI (.ref i1) (.ref i2)) (hO : IsPair s.heap TO a b)
    (p1 : P1 k1 s.heap) (p2 : P2 k2 s.heap) (ends : f1 k1 = none ∨ f2 k2 = none)
    (hQ : ∀ g, (∀ c o, c ≠ z → c ≠ TO → c ≠ i1 → c ≠ i2 → s.heap.get? c = some o → g.get? c = some o) → Q none { s with heap := g }) : wpAny (model prog w) A (pyNext (.ref z)) Q E s := by
  have ty : s.TypeIs (.ref z) "zip" := ⟨_, hz, rfl⟩
  have last : ∀ (g : Heap) (e : Addr), (∀ c o, c ≠ z → c ≠ TO → c ≠ i1 → c ≠ i2 → s.heap.get? c = some o → g.get? c = some o) → (∃ o, g.get? e = some o ∧ o.cls = .type "StopIteration") →
      wpAny (model prog w) A (do let b ← isInstance (.ref e) (.type "StopIteration"); if b = true then pure none else throw (.ref e)) Q E { s with heap := g } := fun g e k1 k2 => by
    obtain ⟨o, ho, hc⟩ := k2
    refine wpAny_bind (wpAny_isInstance (T := "StopIteration") (b := true) ⟨o, ho, hc⟩ isSubtype_stop ?_)
    exact wpAny_pure (hQ g k1)
  unfold pyNext
  refine wpAny_bind (wpAny_attempt (wpAny_callSpecial?_slot (name := Str.ofString "__next__") ty PySem.F.slot_zip_next (wpAny_call_entry PySem.F.slot_zip_next ty PySem.F.entry_zip_next ?_ (PySem.F.args_zip_next_1 _))))
  show wpAny _ _ (field (.ref z) 2 >>= _) _ _ _
  refine wpAny_bind (wpAny_field hz rfl (x := .bool false) rfl ?_)
  show wpAny _ _ (field (.ref z) 3 >>= _) _ _ _
  refine wpAny_bind (wpAny_field hz rfl (x := .ref TI) rfl (wpAny_bind (wpAny_seqItems hI rfl ?_)))
  show wpAny _ _ (Builtin.SmallTypes.ownedTupleIsFree (.ref z) >>= _) _ _ _
  refine wpAny_bind ?_
  unfold Builtin.SmallTypes.ownedTupleIsFree
  refine wpAny_bind (wpAny_field hz rfl (x := .none) rfl (wpAny_pure ?_))
  simp only [if_true]
  refine wpAny_bind (wpAny_rule (wpAny_bind (wpAny_field hz rfl (x := .ref TO) rfl ?_)))
  refine wpAny_bind (wpAny_setField_rec hz (by simp) fun g1 z1 b1 => ?_)
  replace z1 : IsZip g1 z TI TO .ellipsis := z1
  refine wpAny_bind ?_
  simp only [List.zipIdx_cons, List.zipIdx_nil, List.forIn_cons, List.forIn_nil]
  refine wpAny_bind (wpAny_bind (wpAny_onRaise ?_))
  show wpAny _ _ (Builtin.SmallTypes.nextOf (.ref i1) >>= _) _ _ _
  have q1 : P1 k1 g1 := F1.keep _ _ _ p1 fun c o hc e => b1.extBut _ _ (by rcases hc with rfl | rfl; exact D.i1z; exact D.l1z) e
  cases hx : f1 k1 with
  | none =>
    refine wpAny_bind (F1.stop hh q1 hx fun g2 e b2 he => ?_)
    obtain ⟨oe, hoe, hce⟩ := he
    have z2 : IsZip g2 z TI TO .ellipsis := b2 _ _ D.i1z.symm z1
    have ez : e ≠ z := fun q => by subst q; rw [z2] at hoe; cases hoe; simp at hce
    exact wpAny_setField_rec z2 (by simp) fun g3 _ b3 => last g3 e (fun c o n1 _ n3 _ q => b3.extBut _ _ n1 (b2 _ _ n3 (b1.extBut _ _ n1 q))) ⟨oe, b3.extBut _ _ ez hoe, hce⟩
  | some x =>
    have hy : f2 k2 = none := by
      rcases ends with q | q
      · rw [hx] at q; cases q
      · exact q
    refine wpAny_bind (F1.item q1 hx fun g2 r1 b2 => wpAny_pure ?_)
    have O2 : IsPair g2 TO a b := b2.extBut _ _ D.TOi1 (b1.extBut _ _ D.TOz hO)
    refine wpAny_bind (wpAny_seqItems O2 rfl (wpAny_bind (wpAny_updateSeq_pair O2 fun g3 O3 b3 => ?_)))
    refine wpAny_bind (wpAny_letGo (wpAny_pure (wpAny_bind (wpAny_bind (wpAny_onRaise ?_)))))
    show wpAny _ _ (Builtin.SmallTypes.nextOf (.ref i2) >>= _) _ _ _
    have q2 : P2 k2 g3 := F2.keep _ _ _ p2 fun c o hc e => b3.extBut _ _ (by rcases hc with rfl | rfl; exact D.TOi2.symm; exact D.l2TO) (b2.extBut _ _ (by rcases hc with rfl | rfl; exact D.i12.symm; exact D.l2i1) (b1.extBut _ _ (by rcases hc with rfl | rfl; exact D.i2z; exact D.l2z) e))
    refine wpAny_bind (F2.stop hh q2 hy fun g4 e b4 he => ?_)
    obtain ⟨oe, hoe, hce⟩ := he
    have z4 : IsZip g4 z TI TO .ellipsis := b4 _ _ D.i2z.symm (b3.extBut _ _ D.TOz.symm (b2.extBut _ _ D.i1z.symm z1))
    have ez : e ≠ z := fun q => by subst q; rw [z4] at hoe; cases hoe; simp at hce
    exact wpAny_setField_rec z4 (by simp) fun g5 _ b5 => last g5 e (fun c o n1 n2 n3 n4 q => b5.extBut _ _ n1 (b4 _ _ n4 (b3.extBut _ _ n2 (b2.extBut _ _ n3 (b1.extBut _ _ n1 q))))) ⟨oe, b5.extBut _ _ ez hoe, hce⟩
end
end L2
namespace L2
open PySem PySem.Spec PyProof.Rows
theorem comp_list {K : PySem.W.Frag} {a D : Addr} {xs : List V} {g : TG} {tt : TT} {te : TE} {Q : VK} {H : Hp} {σ0 : L2.St} (Pv : Nat → L2.St → List V → Hp → Prop) (p0 : Pv 0 σ0 [] H)
    (hl : ∀ i σ ys H', i ≤ xs.length → Pv i σ ys H' → SqL K H' a xs ∧ H' D = some (.lst ys) ∧ ys.length < sizeLine)
    (hs : ∀ i x σ ys H', xs[i]? = some x → Pv i σ ys H' → ∀ N : L2.St → List V → Hp → Prop, (∀ σ ys H, Pv (i + 1) σ ys H → N σ ys H) →
      g x σ H' fun σ4 H4 => tt σ4 H4 fun b H5 => if b = true then te σ4 H5 fun v H6 => H6 D = some (.lst ys) ∧ N σ4 (ys ++ [v]) (upd H6 D (.lst (ys ++ [v]))) else N σ4 ys H5)
    (hd : ∀ σ ys H', Pv xs.length σ ys H' → Q (.ref D) H') : CompW (Itl K a) g tt te σ0 Q D H := by
  refine ⟨fun i m σ ys H => m = xs.length - i ∧ i ≤ xs.length ∧ Pv i σ ys H, ⟨xs.length, by simp, Nat.zero_le _, p0⟩, ?_⟩
  rintro i m σ ys H2 ⟨rfl, hi, p⟩
  obtain ⟨q1, q2, q3⟩ := hl i σ ys H2 hi p
  refine ⟨q2, q3, ?_⟩
  by_cases hlt : i < xs.length
  · refine .inr ⟨⟨xs, xs[i], q1, by simp [hlt]⟩, fun x H3 y => ?_⟩
    obtain ⟨e, y⟩ := y
    subst e
    exact hs i x σ ys _ (y xs q1) p (fun σ ys H => ∃ m', m' < xs.length - i ∧ m' = xs.length - (i + 1) ∧ i + 1 ≤ xs.length ∧ Pv (i + 1) σ ys H) fun σ ys H z => ⟨_, by omega, rfl, hlt, z⟩
  · have e : i = xs.length := by omega
    subst e
    exact .inl ⟨⟨xs, q1, Nat.le_refl _⟩, hd σ ys H2 p⟩
theorem caps1 {X : Cx} {scope : Scope} {Nc : List Str} {x : Str} {c : Addr} (i j : Nat) (ns : List (Str × NameKind)) (hrel : (relabel scope X.env).names = ns) (hclos : closureFor scope X.env = pure [(x, c)]) (hk : scope.kind = .function)
    (hnc : ∀ y ∈ scope.names, y.2 ≠ .cell) (hnm : ∀ y ∈ scope.names, y.2 = .local → scope.names.lookup y.1 = some .local) (hcell : X.env.cells.lookup x = some c)
    (honly : ∀ y ∈ ns, y.2 = .cell ∨ y.2 = .free → y.1 = x) (hin : ns.lookup x = some .cell) (hkind : X.env.kindOf x = some .cell) (hNc : Nc[i]? = some x) (hj : X.N[j]? = some x) :
    Caps X scope [(x, c)] Nc (fun σ => (List.replicate Nc.length none).set i (σ.getD j none)) where
  clos := hclos
  kind := hk
  nocell := hnc
  names := hnm
  cells := fun y d e => by
    rw [List.lookup_cons] at e
    split at e
    · rename_i q
      have q' : y = x := by simpa using q
      cases e
      rw [q']
      exact hcell
    · cases e
  has := fun y h => by
    rw [hrel] at h
    have e : y = x := by
      rcases h with h | h
      · exact honly _ (PySem.mem_of_lookup h) (.inl rfl)
      · exact honly _ (PySem.mem_of_lookup h) (.inr rfl)
    subst e
    exact ⟨c, by simp [List.lookup_cons]⟩
  len := fun σ => by simp
  cap := fun σ k y v e1 e2 _ => by
    have hki : k = i := by
      by_cases q : k = i
      · exact q
      · rw [List.getElem?_set_ne (Ne.symm q), List.getElem?_replicate] at e2
        split at e2 <;> cases e2
    subst hki
    rw [hNc] at e1
    cases e1
    have hlt : k < Nc.length := (List.getElem?_eq_some_iff.mp hNc).1
    rw [List.getElem?_set_self (by simpa using hlt)] at e2
    refine ⟨.inl (by rw [hrel]; exact hin), .inl hkind, j, hj, ?_, .inr (.inl hkind)⟩
    have e3 : σ.getD j none = some v := Option.some.inj e2
    rw [List.getD_eq_getElem?_getD] at e3
    cases q : σ[j]? with
    | none => rw [q] at e3; cases e3
    | some o =>
      rw [q] at e3
      have e4 : o = some v := e3
      rw [e4]
def LsM (K : PySem.W.Frag) (H : Hp) (a : Addr) (ds : List Dt) : Prop := ∃ vs, H a = some (.lst vs) ∧ DatsAt K H vs ds
theorem LsM.same {K : PySem.W.Frag} {H H' : Hp} {a : Addr} {ds : List Dt} (h : LsM K H a ds) (e : Same H H') : LsM K H' a ds := by
  obtain ⟨vs, h1, h2⟩ := h
  exact ⟨vs, e _ _ h1, h2.same e⟩
section
variable {K : PySem.W.Frag} {H : Hp} {a : Addr} {xs ys : List V}
theorem sqT_upd {r : Addr} {vs : List V} (ha : H a = some (.lst xs)) (h : SqT K H r vs) : SqT K (upd H a (.lst ys)) r vs := by
  rcases h with (h | ⟨o, h⟩) | h
  · exact .inl (.inl (by rw [upd_ne (ne_of h ha (by intro z; cases z))]; exact h))
  · exact .inl (.inr ⟨o, by rw [upd_ne (ne_of h ha (by intro z; cases z))]; exact h⟩)
  · exact .inr h
mutual
theorem DatAt.updL (ha : H a = some (.lst xs)) : ∀ {v : V} {d : Dt}, DatAt K H v d → DatAt K (upd H a (.lst ys)) v d
  | v, .non, h => by simpa [DatAt] using h
  | v, .int i, h => by simpa [DatAt] using h
  | v, .str i, h => by simpa [DatAt] using h
  | v, .tup ds, h => by
    obtain ⟨r, vs, rfl, h1, h2⟩ := h.un
    exact .tup (sqT_upd ha h1) (DatsAt.updL ha h2)
theorem DatsAt.updL (ha : H a = some (.lst xs)) : ∀ {vs : List V} {ds : List Dt}, DatsAt K H vs ds → DatsAt K (upd H a (.lst ys)) vs ds
  | vs, [], h => by
    rw [h.un0]
    exact .nil
  | vs, d :: ds, h => by
    obtain ⟨v, r, rfl, h1, h2⟩ := h.un
    exact .cons (DatAt.updL ha h1) (DatsAt.updL ha h2)
end
end
end L2
namespace L2
open PySem PySem.Spec PyProof.Rows FW
def frD (p : Int × Int) : Dt := .tup [.int p.1, .int p.2]
def prD (p : Dt × Dt) : Dt := .tup [p.1, p.2]
def rowD (r : Dt × Int) : Dt := .tup [r.1, .int r.2]
def parD (S : Int) (r : Dt × Int) : Dt := prD (r.1, frD (low r.2 S))
inductive Oc : Dt → Prop
  | non : Oc .non
  | int (n : Int) : Oc (.int n)
  | recd (fs : List (Str × Int)) : Oc (.tup (fs.map pairD))
def tyD : Dt → String
  | .non => "NoneType"
  | .int _ => "int"
  | .str _ => "str"
  | .tup _ => "tuple"
section
variable {K : PySem.W.Frag} {H : Hp}
theorem DatsAt.two {vs : List V} {d e : Dt} (h : DatsAt K H vs [d, e]) : ∃ v u, vs = [v, u] ∧ DatAt K H v d ∧ DatAt K H u e := by
  obtain ⟨v, r, rfl, h1, h2⟩ := h.un
  obtain ⟨u, r2, rfl, h3, h4⟩ := h2.un
  have := h4.un0
  subst this
  exact ⟨v, u, rfl, h1, h3⟩
theorem DatAt.int_eq {v : V} {n : Int} (h : DatAt K H v (.int n)) : v = .int n := by simpa [DatAt] using h
theorem DatAt.str_eq {v : V} {n : Str} (h : DatAt K H v (.str n)) : v = .str n := by simpa [DatAt] using h
theorem DatAt.pr {v : V} {p : Dt × Dt} (h : DatAt K H v (prD p)) : ∃ r a b, v = .ref r ∧ SqT K H r [a, b] ∧ DatAt K H a p.1 ∧ DatAt K H b p.2 := by
  obtain ⟨r, vs, rfl, h1, h2⟩ := DatAt.un (ds := [p.1, p.2]) h
  obtain ⟨a, b, rfl, h3, h4⟩ := h2.two
  exact ⟨r, a, b, rfl, h1, h3, h4⟩
end
def sumW (rows : List (Dt × Int)) : Int := (rows.map (·.2)).sum
structure Sc (S : Int) (rows : List (Dt × Int)) : Prop where
  pos : 0 < S
  big : S ≤ 10 ^ 160
  nn : ∀ r ∈ rows, 0 ≤ r.2
  top : sumW rows ≤ 10 ^ 160
structure Rw (rows : List (Dt × Int)) : Prop where
  oc : ∀ r ∈ rows, Oc r.1
  pos : ∀ r ∈ rows, 0 < r.2
theorem take_snoc' {α : Type} {xs : List α} {i : Nat} {x : α} (h : xs[i]? = some x) : xs.take (i + 1) = xs.take i ++ [x] := by
  rw [List.take_add_one, h]
  rfl
theorem map_get {α β : Type} {f : α → β} {xs : List α} {i : Nat} {y : β} (h : (xs.map f)[i]? = some y) : ∃ x, xs[i]? = some x ∧ f x = y := by
  rw [List.getElem?_map] at h
  cases e : xs[i]? with
  | none => rw [e] at h; cases h
  | some x => rw [e] at h; exact ⟨x, rfl, Option.some.inj h⟩
end L2
namespace L2
open PySem PySem.Spec PyProof.Rows
section
variable {X : Cx} {K : PySem.W.Frag}
theorem ix_tupK (hK : X.K = K) : IxR X (rIxT K) := by
  subst hK
  exact ix_tup
theorem pg_tupK {es : List Expr} {kk n : Nat} {t : TGs} {pos : Pos} (hK : X.K = K) (hc : X.calm = true) (h : PGs X es t) (hn : (assignEach es X.env).length = n := by rfl) (hst : (assignEach es X.env).findIdx? (·.1) = none := by rfl) :
    PG X (.Tuple es kk pos) (gTup K n t) := by
  subst hK
  exact pg_tup hc h hn hst
end
end L2
namespace L2
open PySem PySem.Spec PyProof.Rows
section
variable {X : Cx}
def ipMul : TIp := fun x y H Q => ∃ i j, x = .int i ∧ y = .int j ∧ IntMulOk i j ∧ Q (.int (i * j)) H
theorem call_list_ofK {K : PySem.W.Frag} (hK : X.K = K) : CallR X (.type "list") (fun xs H Q => ∃ p ys, xs = [.ref p] ∧ (SqL K H p ys ∨ SqT K H p ys) ∧ ∀ l, H l = none → Q (.ref l) (upd H l (.lst ys))) := by
  subst hK
  exact call_list_of
def gLst (K : PySem.W.Frag) (n : Nat) (t : TGs) : TG := fun v σ H Q => ∃ a xs, v = .ref a ∧ SqL K H a xs ∧ xs.length = n ∧ t xs σ H Q
end
theorem comp_tup {K : PySem.W.Frag} {a D : Addr} {xs : List V} {g : TG} {tt : TT} {te : TE} {Q : VK} {H : Hp} {σ0 : L2.St} (Pv : Nat → L2.St → List V → Hp → Prop) (p0 : Pv 0 σ0 [] H)
    (hl : ∀ i σ ys H', i ≤ xs.length → Pv i σ ys H' → SqT K H' a xs ∧ H' D = some (.lst ys) ∧ ys.length < sizeLine)
    (hs : ∀ i x σ ys H', xs[i]? = some x → Pv i σ ys H' → ∀ N : L2.St → List V → Hp → Prop, (∀ σ ys H, Pv (i + 1) σ ys H → N σ ys H) →
      g x σ H' fun σ4 H4 => tt σ4 H4 fun b H5 => if b = true then te σ4 H5 fun v H6 => H6 D = some (.lst ys) ∧ N σ4 (ys ++ [v]) (upd H6 D (.lst (ys ++ [v]))) else N σ4 ys H5)
    (hd : ∀ σ ys H', Pv xs.length σ ys H' → Q (.ref D) H') : CompW (Itt K a) g tt te σ0 Q D H := by
  refine ⟨fun i m σ ys H => m = xs.length - i ∧ i ≤ xs.length ∧ Pv i σ ys H, ⟨xs.length, by simp, Nat.zero_le _, p0⟩, ?_⟩
  rintro i m σ ys H2 ⟨rfl, hi, p⟩
  obtain ⟨q1, q2, q3⟩ := hl i σ ys H2 hi p
  refine ⟨q2, q3, ?_⟩
  by_cases hlt : i < xs.length
  · refine .inr ⟨⟨xs, xs[i], q1, by simp [hlt]⟩, fun x H3 y => ?_⟩
    obtain ⟨e, y⟩ := y
    subst e
    exact hs i x σ ys _ (y xs q1) p (fun σ ys H => ∃ m', m' < xs.length - i ∧ m' = xs.length - (i + 1) ∧ i + 1 ≤ xs.length ∧ Pv (i + 1) σ ys H) fun σ ys H z => ⟨_, by omega, rfl, hlt, z⟩
  · have e : i = xs.length := by omega
    subst e
    exact .inl ⟨⟨xs, q1, Nat.le_refl _⟩, hd σ ys H2 p⟩
theorem comp_range {lo : Int} {n : Nat} {D : Addr} {g : TG} {tt : TT} {te : TE} {Q : VK} {H : Hp} {σ0 : L2.St} (Pv : Nat → L2.St → List V → Hp → Prop) (p0 : Pv 0 σ0 [] H)
    (hl : ∀ i σ ys H', i ≤ n → Pv i σ ys H' → H' D = some (.lst ys) ∧ ys.length < sizeLine)
    (hs : ∀ i σ ys H', i < n → Pv i σ ys H' → ∀ N : L2.St → List V → Hp → Prop, (∀ σ ys H, Pv (i + 1) σ ys H → N σ ys H) →
      g (.int (lo + i)) σ H' fun σ4 H4 => tt σ4 H4 fun b H5 => if b = true then te σ4 H5 fun v H6 => H6 D = some (.lst ys) ∧ N σ4 (ys ++ [v]) (upd H6 D (.lst (ys ++ [v]))) else N σ4 ys H5)
    (hd : ∀ σ ys H', Pv n σ ys H' → Q (.ref D) H') : CompW (Itr lo n) g tt te σ0 Q D H := by
  refine ⟨fun i m σ ys H => m = n - i ∧ i ≤ n ∧ Pv i σ ys H, ⟨n, by simp, Nat.zero_le _, p0⟩, ?_⟩
  rintro i m σ ys H2 ⟨rfl, hi, p⟩
  obtain ⟨q2, q3⟩ := hl i σ ys H2 hi p
  refine ⟨q2, q3, ?_⟩
  by_cases hlt : i < n
  · refine .inr ⟨hlt, fun x H3 y => ?_⟩
    obtain ⟨e, y⟩ := y
    subst e y
    exact hs i σ ys _ hlt p (fun σ ys H => ∃ m', m' < n - i ∧ m' = n - (i + 1) ∧ i + 1 ≤ n ∧ Pv (i + 1) σ ys H) fun σ ys H z => ⟨_, by omega, rfl, hlt, z⟩
  · have e : i = n := by omega
    subst e
    exact .inl ⟨Nat.le_refl _, hd σ ys H2 p⟩
def BtA (a : Addr) (H H' : Hp) : Prop := ∀ b o, b ≠ a → H b = some o → H' b = some o
def NT (H : Hp) (a : Addr) : Prop := ∀ o, H a = some o → (∀ vs, o ≠ .tup vs) ∧ ∀ q vs, o ≠ .frz q (.tup vs)
section
variable {K : PySem.W.Frag} {H H' H2 : Hp} {a b : Addr} {xs : List V}
theorem NT.lst (h : H a = some (.lst xs)) : NT H a := fun o e => by
  rw [h] at e
  cases e
  exact ⟨(fun _ z => nomatch z), (fun _ _ z => nomatch z)⟩
theorem NT.ins {C dx : Addr} {fs : List (Str × V)} (h : H a = some (.ins C dx fs)) : NT H a := fun o e => by
  rw [h] at e
  cases e
  exact ⟨(fun _ z => nomatch z), (fun _ _ z => nomatch z)⟩
theorem BtA.refl : BtA a H H := fun _ _ _ h => h
theorem BtA.of (e : Same H H') : BtA a H H' := fun b o _ h => e b o h
theorem BtA.trans (e : BtA a H H') (f : BtA a H' H2) : BtA a H H2 := fun b o n h => f b o n (e b o n h)
theorem BtA.upd {o : HO} : BtA a H (L2.upd H a o) := fun b _ n h => by rw [upd_ne n]; exact h
theorem BtA.updF {o : HO} (hn : H b = none) : BtA a H (L2.upd H b o) := fun c _ _ h => by rw [upd_ne (ne_of_none h hn)]; exact h
theorem sqT_but {r : Addr} {vs : List V} (nt : NT H a) (e : BtA a H H') (h : SqT K H r vs) : SqT K H' r vs := by
  rcases h with (h | ⟨o, h⟩) | h
  · exact .inl (.inl (e _ _ (fun z => by subst z; exact (nt _ h).1 _ rfl) h))
  · exact .inl (.inr ⟨o, e _ _ (fun z => by subst z; exact (nt _ h).2 _ _ rfl) h⟩)
  · exact .inr h
mutual
theorem DatAt.but (nt : NT H a) (e : BtA a H H') : ∀ {v : V} {d : Dt}, DatAt K H v d → DatAt K H' v d
  | v, .non, h => by simpa [DatAt] using h
  | v, .int i, h => by simpa [DatAt] using h
  | v, .str i, h => by simpa [DatAt] using h
  | v, .tup ds, h => by
    obtain ⟨r, vs, rfl, h1, h2⟩ := h.un
    exact .tup (sqT_but nt e h1) (DatsAt.but nt e h2)
theorem DatsAt.but (nt : NT H a) (e : BtA a H H') : ∀ {vs : List V} {ds : List Dt}, DatsAt K H vs ds → DatsAt K H' vs ds
  | vs, [], h => by
    rw [h.un0]
    exact .nil
  | vs, d :: ds, h => by
    obtain ⟨v, r, rfl, h1, h2⟩ := h.un
    exact .cons (DatAt.but nt e h1) (DatsAt.but nt e h2)
end
theorem LsM.but {ds : List Dt} (h : LsM K H b ds) (nt : NT H a) (e : BtA a H H') (n : b ≠ a) : LsM K H' b ds := by
  obtain ⟨vs, h1, h2⟩ := h
  exact ⟨vs, e _ _ n h1, h2.but nt e⟩
structure LLM (K : PySem.W.Frag) (H : Hp) (a : Addr) (ps : List (Addr × List Dt)) : Prop where
  at_ : H a = some (.lst (ps.map fun p => V.ref p.1))
  it : ∀ p ∈ ps, LsM K H p.1 p.2
  ne : ∀ p ∈ ps, p.1 ≠ a
theorem LLM.same {ps : List (Addr × List Dt)} (h : LLM K H a ps) (e : Same H H') : LLM K H' a ps := ⟨e _ _ h.at_, fun p hp => (h.it p hp).same e, h.ne⟩
theorem LLM.but {ps : List (Addr × List Dt)} (h : LLM K H b ps) (nt : NT H a) (e : BtA a H H') (n : b ≠ a) (ni : ∀ p ∈ ps, p.1 ≠ a) : LLM K H' b ps :=
  ⟨e _ _ n h.at_, fun p hp => (h.it p hp).but nt e (ni p hp), h.ne⟩
theorem LLM.snoc {ps : List (Addr × List Dt)} {D : Addr} {ds : List Dt} (h : LLM K H a ps) (hD : LsM K H D ds) (ne : D ≠ a) : LLM K (L2.upd H a (.lst (ps.map (fun p => V.ref p.1) ++ [.ref D]))) a (ps ++ [(D, ds)]) := by
  refine ⟨?_, fun p hp => ?_, fun p hp => ?_⟩
  · rw [upd_same, List.map_append]
    rfl
  · rcases List.mem_append.mp hp with z | z
    · exact (h.it p z).but (.lst h.at_) .upd (h.ne p z)
    · cases List.mem_singleton.mp z
      exact hD.but (.lst h.at_) .upd ne
  · rcases List.mem_append.mp hp with z | z
    · exact h.ne p z
    · cases List.mem_singleton.mp z
      exact ne
end
section
variable {X : Cx} {pins : List (Addr × Obj)} {σ : St} {H : Hp} {s : Shared}
def rNeLL (K : PySem.W.Frag) : R2 := fun x y H Q => ∃ a b ps qs, x = .ref a ∧ y = .ref b ∧ LLM K H a ps ∧ LLM K H b qs ∧ ps.map (·.2) = qs.map (·.2) ∧ (∀ p ∈ ps, Dt.hgts p.2 ≤ 30) ∧ Q (.bl false) H
end
end L2
namespace L2
open PySem PySem.Spec PyProof.Rows
section
variable {κ : Type} [DecidableEq κ]
def valV (kvs : List (κ × V)) (k : κ) : Option V := (kvs.find? fun kv => decide (kv.1 = k)).map (·.2)
def putK (kvs : List (κ × V)) (k : κ) (v : V) : List (κ × V) :=
  if (kvs.any fun kv => decide (kv.1 = k)) = true then kvs.map (fun kv => if kv.1 = k then (kv.1, v) else kv) else kvs ++ [(k, v)]
def dropK (kvs : List (κ × V)) (k : κ) : List (κ × V) := kvs.filter fun kv => decide (kv.1 ≠ k)
theorem valV_pos {p : κ × V} {r : List (κ × V)} {k : κ} (e : p.1 = k) : valV (p :: r) k = some p.2 := by simp [valV, List.find?_cons, e]
theorem valV_neg {p : κ × V} {r : List (κ × V)} {k : κ} (e : ¬ p.1 = k) : valV (p :: r) k = valV r k := by simp [valV, List.find?_cons, e]
theorem valV_any (k : κ) : ∀ kvs : List (κ × V), (kvs.any fun kv => decide (kv.1 = k)) = (valV kvs k).isSome
  | [] => rfl
  | p :: r => by
    rw [List.any_cons]
    by_cases e : p.1 = k
    · simp only [valV_pos e, decide_eq_true e, Bool.true_or, Option.isSome_some]
    · rw [valV_neg e, decide_eq_false e, Bool.false_or]; exact valV_any k r
theorem length_putK (kvs : List (κ × V)) (k : κ) (v : V) : (putK kvs k v).length ≤ kvs.length + 1 := by
  unfold putK
  split
  · rw [List.length_map]; omega
  · rw [List.length_append, List.length_cons, List.length_nil]; omega
theorem RelO.isSome_eq {o : Option V} {u : Option Value} (r : RelO o u) : o.isSome = u.isSome := by
  cases o with
  | none => cases u with
    | none => rfl
    | some _ => exact (show False from r).elim
  | some _ => cases u with
    | none => exact (show False from r).elim
    | some _ => rfl
theorem KV.val {kvs : List (κ × V)} {vs : List (κ × Value)} (r : KV kvs vs) (k : κ) : RelO (valV kvs k) (valueAt vs k) := by
  unfold KV at r
  induction r with
  | nil => exact True.intro
  | @cons p q ps qs h t ih =>
    obtain ⟨h1, h2⟩ := h
    by_cases e : p.1 = k
    · have e' : q.1 = k := h1.symm.trans e
      have b : valueAt (q :: qs) k = some q.2 := by simp [valueAt, List.find?_cons, e']
      rw [valV_pos e, b]; exact h2
    · have e' : ¬ q.1 = k := fun z => e (h1.trans z)
      have b : valueAt (q :: qs) k = valueAt qs k := by simp [valueAt, List.find?_cons, e']
      rw [valV_neg e, b]; exact ih
theorem KV.any {kvs : List (κ × V)} {vs : List (κ × Value)} (r : KV kvs vs) (k : κ) : (kvs.any fun kv => decide (kv.1 = k)) = vs.any fun kv => decide (kv.1 = k) := by
  unfold KV at r
  induction r with
  | nil => rfl
  | cons h t ih => rw [List.any_cons, List.any_cons, ih, h.1]
theorem KV.repl {kvs : List (κ × V)} {vs : List (κ × Value)} (r : KV kvs vs) (k : κ) {y : V} {u : Value} (ry : RelV y u) :
    KV (kvs.map fun kv => if kv.1 = k then (kv.1, y) else kv) (vs.map fun kv => if kv.1 = k then (kv.1, u) else kv) := by
  unfold KV at r ⊢
  induction r with
  | nil => exact .nil
  | @cons p q ps qs h t ih =>
    rw [List.map_cons, List.map_cons]
    refine .cons ?_ ih
    obtain ⟨h1, h2⟩ := h
    by_cases e : p.1 = k
    · rw [if_pos e, if_pos (h1.symm.trans e)]; exact ⟨h1, ry⟩
    · rw [if_neg e, if_neg (fun z => e (h1.trans z))]; exact ⟨h1, h2⟩
theorem KV.put {kvs : List (κ × V)} {vs : List (κ × Value)} (r : KV kvs vs) (k : κ) {y : V} {u : Value} (ry : RelV y u) : KV (putK kvs k y) (stored vs k u) := by
  unfold putK stored
  rw [r.any k]
  by_cases e : (vs.any fun kv => decide (kv.1 = k)) = true
  · rw [if_pos e, if_pos e]; exact r.repl k ry
  · rw [if_neg e, if_neg e]; exact Paired.snoc r ⟨rfl, ry⟩
theorem KV.length {kvs : List (κ × V)} {vs : List (κ × Value)} (r : KV kvs vs) : kvs.length = vs.length := Paired.length r
end
theorem kV_is {P : Program} {w : World} {k : Key} {u : Value} (r : RelV (kV k) u) : (mixKind P w).is k u = true := by
  cases k with
  | inl i => obtain ⟨t, e⟩ := (show ∃ t, u = Value.int i t from r); subst e; exact mixKind_int P w i t
  | inr x => obtain ⟨t, e⟩ := (show ∃ t, u = Value.str x t from r); subst e; exact mixKind_str P w x t
theorem items_are {P : Program} {w : World} : ∀ {ks : List Key} {us : List Value}, Vals (ks.map kV) us → ItemsAre (mixKind P w) ks us
  | [], _, r => by rw [List.map_nil] at r; cases r; exact .nil
  | k :: ks, _, r => by
    rw [List.map_cons] at r
    cases r with
    | cons h t => exact .cons (kV_is h) (items_are t)
abbrev KT (H : Hp) : List (List Key × V) → List (List Key × Addr × Value) → Prop := Paired fun p q => p.1 = q.1 ∧ H q.2.1 = some (.tup (p.1.map kV)) ∧ RelV p.2 q.2.2
theorem KT.val {H : Hp} {kvs : List (List Key × V)} {xs : List (List Key × Addr × Value)} (r : KT H kvs xs) (k : List Key) : RelO (valV kvs k) ((atKey xs k).map (·.2)) := by
  induction r with
  | nil => exact True.intro
  | @cons p q ps qs h t ih =>
    obtain ⟨h1, _, h2⟩ := h
    by_cases e : p.1 = k
    · have e' : q.1 = k := h1.symm.trans e
      have b : atKey (q :: qs) k = some q.2 := by simp [atKey, List.find?_cons, e']
      rw [valV_pos e, b]; exact h2
    · have e' : ¬ q.1 = k := fun z => e (h1.trans z)
      have b : atKey (q :: qs) k = atKey qs k := by simp [atKey, List.find?_cons, e']
      rw [valV_neg e, b]; exact ih
theorem KT.repl {H : Hp} {kvs : List (List Key × V)} {xs : List (List Key × Addr × Value)} (r : KT H kvs xs) (k : List Key) {y : V} {u : Value} (ry : RelV y u) :
    KT H (kvs.map fun kv => if kv.1 = k then (kv.1, y) else kv) (xs.map (putAt k u)) := by
  induction r with
  | nil => exact .nil
  | @cons p q ps qs h t ih =>
    rw [List.map_cons, List.map_cons]
    refine .cons ?_ ih
    obtain ⟨h1, h2, h3⟩ := h
    unfold putAt
    by_cases e : p.1 = k
    · rw [if_pos e, if_pos (h1.symm.trans e)]; exact ⟨h1, h2, ry⟩
    · rw [if_neg e, if_neg (fun z => e (h1.trans z))]; exact ⟨h1, h2, h3⟩
theorem KT.put {H : Hp} {kvs : List (List Key × V)} {xs : List (List Key × Addr × Value)} (r : KT H kvs xs) (k : List Key) {b : Addr} {y : V} {u : Value} (hb : H b = some (.tup (k.map kV))) (ry : RelV y u) :
    KT H (putK kvs k y) (storedH xs k b u) := by
  have e : (kvs.any fun kv => decide (kv.1 = k)) = (atKey xs k).isSome := by
    rw [valV_any, (r.val k).isSome_eq, Option.isSome_map]
  unfold putK storedH
  rw [e]
  by_cases q : (atKey xs k).isSome = true
  · rw [if_pos q, if_pos q]; exact r.repl k ry
  · rw [if_neg q, if_neg q]; exact Paired.snoc r ⟨rfl, hb, ry⟩
theorem KT.keeps {H H' : Hp} {kvs : List (List Key × V)} {xs : List (List Key × Addr × Value)} (r : KT H kvs xs) (ht : ∀ b ys, H b = some (.tup ys) → H' b = some (.tup ys)) : KT H' kvs xs :=
  Paired.mapP r fun _ _ z => ⟨z.1, ht _ _ z.2.1, z.2.2⟩
section
variable {P : Program} {w : World} {H : Hp} {h : Heap} {a : Addr}
theorem rd_of {u : HO} (ok : HOk P w H h) (e : Rd H a u) : ObjOk P w H h a u := e.ok ok
theorem dk_rd {kvs : List (Key × V)} (ok : HOk P w H h) (e : Rd H a (.dK kvs)) : kvs.length ≤ sizeLine ∧ (a == sysModules) = false ∧ ∃ vs, KV kvs vs ∧ h.DictOf (mixKind P w) a vs :=
  show ObjOk P w H h a (.dK kvs) from rd_of ok e
theorem dk_of {kvs : List (Key × V)} (ok : HOk P w H h) (e : H a = some (.dK kvs)) : kvs.length ≤ sizeLine ∧ (a == sysModules) = false ∧ ∃ vs, KV kvs vs ∧ h.DictOf (mixKind P w) a vs := dk_rd ok (.inl e)
theorem key_of {ks : List Key} (ok : HOk P w H h) (e : H a = some (.tup (ks.map kV))) : (tupleKind (mixKind P w)).is h ks a := by
  obtain ⟨_, its, r, o, h1, h2, n, h3⟩ := (show ObjOk P w H h a (.tup (ks.map kV)) from ok a _ e)
  exact ⟨o, its.toArray, n, h1, h2, h3, by simpa using items_are r⟩
theorem dt_rd {kvs : List (List Key × V)} (ok : HOk P w H h) (e : Rd H a (.dT kvs)) : kvs.length ≤ sizeLine ∧ (a == sysModules) = false ∧
    ∃ xs, KT H kvs xs ∧ h.DictOfH (tupleKind (mixKind P w)) a xs := by
  obtain ⟨z, y, xs, r, o, es, ep, h1, h2, h3, h4, h5⟩ := (show ObjOk P w H h a (.dT kvs) from rd_of ok e)
  refine ⟨z, y, xs, r, o, es, ep, h1, h2, h3, h4, fun x hx => ?_, h5⟩
  have all : ∀ {l : List (List Key × V)} {m : List (List Key × Addr × Value)}, KT H l m → ∀ x ∈ m, (tupleKind (mixKind P w)).is h x.1 x.2.1 := by
    intro l m q
    induction q with
    | nil => intro x hx; exact nomatch hx
    | @cons p q ps qs hq t ih =>
      intro x hx
      rcases List.mem_cons.mp hx with e | hx
      · subst e
        exact key_of ok (by rw [← hq.1]; exact hq.2.1)
      · exact ih x hx
  exact all r x hx
theorem dt_of {kvs : List (List Key × V)} (ok : HOk P w H h) (e : H a = some (.dT kvs)) : kvs.length ≤ sizeLine ∧ (a == sysModules) = false ∧
    ∃ xs, KT H kvs xs ∧ h.DictOfH (tupleKind (mixKind P w)) a xs := dt_rd ok (.inl e)
end
def DGet (H : Hp) (a : Addr) (y : V) (r : Option V) : Prop :=
  (∃ kvs k, Rd H a (.dK kvs) ∧ y = kV k ∧ r = valV kvs k) ∨ ∃ kvs k b, Rd H a (.dT kvs) ∧ y = .ref b ∧ H b = some (.tup (k.map kV)) ∧ r = valV kvs k
def DPut (H : Hp) (a : Addr) (y v : V) (H' : Hp) : Prop :=
  (∃ kvs k, H a = some (.dK kvs) ∧ y = kV k ∧ kvs.length < sizeLine ∧ H' = upd H a (.dK (putK kvs k v))) ∨
  ∃ kvs k b, H a = some (.dT kvs) ∧ y = .ref b ∧ H b = some (.tup (k.map kV)) ∧ kvs.length < sizeLine ∧ H' = upd H a (.dT (putK kvs k v))
theorem DGet.k {H : Hp} {a : Addr} {kvs : List (Key × V)} {k : Key} (e : H a = some (.dK kvs)) : DGet H a (kV k) (valV kvs k) := .inl ⟨kvs, k, .inl e, rfl, rfl⟩
theorem DPut.k {H : Hp} {a : Addr} {kvs : List (Key × V)} {k : Key} {v : V} (e : H a = some (.dK kvs)) (hl : kvs.length < sizeLine) : DPut H a (kV k) v (upd H a (.dK (putK kvs k v))) := .inl ⟨kvs, k, e, rfl, hl, rfl⟩
section
variable {X : Cx} {pins : List (Addr × Obj)} {σ : St} {H : Hp} {s : Shared} {a : Addr} {y v : V} {u r : Value} {o : Option V} {A : Around} {E : Value → Shared → Prop}
theorem Inv.big (I : Inv X pins σ H s) : sysModules < s.heap.objs.size := by
  have h : mainGlobals < s.heap.objs.size := (I.mod.glob.keeps I.bk).lt
  exact Nat.lt_trans (by decide) h
theorem d_getItem {Q : Value → Shared → Prop} (hu : A.units + 1 < cLine) (I : Inv X pins σ H s) (g : DGet H a y (some v)) (ry : RelV y u) (h : ∀ w' s', Inv X pins σ H s' → RelV v w' → Q w' s') :
    wpAny (model X.prog X.w) A (getItem (.ref a) u) Q E s := by
  rcases g with ⟨kvs, k, e, ey, l⟩ | ⟨kvs, k, b, e, ey, eb, l⟩
  · subst ey
    obtain ⟨z, hd, vs, rel, dd⟩ := dk_rd I.hok e
    obtain ⟨w', hw, rw'⟩ := RelO.some_of (v := v) (o := valueAt vs k) (by rw [l]; exact rel.val k)
    exact wpAny_getItem_of (kV_is ry) dd.mapOf hw (h w' _ (I.tok _) rw')
  · subst ey
    cases (show u = Value.ref b from ry)
    obtain ⟨z, hd, xs, rel, dd⟩ := dt_rd I.hok e
    obtain ⟨w', hw, rw'⟩ := RelO.some_of (v := v) (o := (atKey xs k).map (·.2)) (by rw [l]; exact rel.val k)
    obtain ⟨p, hp, hp2⟩ := Option.map_eq_some_iff.mp hw
    refine wpAny_getItem_heap (tupleKind_room_in1 hu) (key_of I.hok eb) dd hp ?_
    rw [hp2]
    exact h w' _ (I.tok _) rw'
theorem d_notIn {Q : Value → Shared → Prop} (hu : A.units + 1 < cLine) (I : Inv X pins σ H s) (g : DGet H a y o) (ry : RelV y u) (h : ∀ s', Inv X pins σ H s' → Q (.bool (!o.isSome)) s') :
    wpAny (model X.prog X.w) A (compareOp .NotIn u (.ref a)) Q E s := by
  rcases g with ⟨kvs, k, e, ey, l⟩ | ⟨kvs, k, b, e, ey, eb, l⟩
  · subst ey
    obtain ⟨z, hd, vs, rel, dd⟩ := dk_rd I.hok e
    refine wpAny_notIn_of (kV_is ry) hd dd.mapOf ?_
    rw [← (rel.val k).isSome_eq, ← l]
    exact h _ (I.tok _)
  · subst ey
    cases (show u = Value.ref b from ry)
    obtain ⟨z, hd, xs, rel, dd⟩ := dt_rd I.hok e
    refine wpAny_notIn_heap (tupleKind_room_in1 hu) (key_of I.hok eb) hd dd ?_
    have q := (rel.val k).isSome_eq
    rw [Option.isSome_map] at q
    rw [← q, ← l]
    exact h _ (I.tok _)
theorem d_write {h' : Heap} {t' : Nat} {ob : HO} (I : Inv X pins σ H s) (mu : Mut (H a)) (hs : Heap.SameBut a s.heap h') (he : ∃ q, h'.get? a = some q) (new : ObjOk X.prog X.w (upd H a ob) h' a ob) :
    Inv X pins σ (upd H a ob) { s with heap := h', toks := t' } :=
  I.write (x := a) (e := a) mu (.inl rfl) (fun b q hb z => (hs.2 b hb).trans z) he new
theorem dk_new {P : Program} {w : World} {H' : Hp} {h' : Heap} {kvs : List (Key × V)} {vs : List (Key × Value)} (z : kvs.length ≤ sizeLine) (hd : (a == sysModules) = false) (rel : KV kvs vs) (dd : h'.DictOf (mixKind P w) a vs) :
    ObjOk P w H' h' a (.dK kvs) := ⟨z, hd, vs, rel, dd⟩
theorem d_setItem {H' : Hp} {Q : Unit → Shared → Prop} (hu : A.units + 1 < cLine) (I : Inv X pins σ H s) (g : DPut H a y v H') (ry : RelV y u) (rv : RelV v r) (h : ∀ s', Inv X pins σ H' s' → Q () s') :
    wpAny (model X.prog X.w) A (setItem (.ref a) u r) Q E s := by
  rcases g with ⟨kvs, k, e, ey, l, eH⟩ | ⟨kvs, k, b, e, ey, eb, l, eH⟩
  · subst ey eH
    obtain ⟨z, hd, vs, rel, dd⟩ := dk_of I.hok e
    have hz : vs.length ≤ sizeLine := by rw [← rel.length]; exact z
    have hl : (putK kvs k v).length ≤ sizeLine := by have := length_putK kvs k v; omega
    refine wpAny_setItem_pairs (hsz := hz) (kV_is ry) dd fun h' dd' hs => h _ ?_
    have he : ∃ q, h'.get? a = some q := let ⟨q, _, _, hq, _⟩ := dd'; ⟨q, hq⟩
    exact d_write I (by rw [e]; exact True.intro) hs he (dk_new hl hd (rel.put k rv) dd')
  · subst ey eH
    cases (show u = Value.ref b from ry)
    obtain ⟨z, hd, xs, rel, dd⟩ := dt_of I.hok e
    have hz : xs.length ≤ sizeLine := by rw [← Paired.length rel]; exact z
    have hl : (putK kvs k v).length ≤ sizeLine := by have := length_putK kvs k v; omega
    refine wpAny_setItem_heap (hsz := hz) (tupleKind_room_in1 hu) (key_of I.hok eb) dd fun h' dd' hs => h _ ?_
    obtain ⟨q, es, ep, hq, h2, h3, h4, _, h5⟩ := dd'
    refine d_write I (by rw [e]; exact True.intro) hs ⟨q, hq⟩ ⟨hl, hd, _, (rel.put k eb rv).keeps fun c ys ec => ?_, q, es, ep, hq, h2, h3, h4, h5⟩
    rw [upd_ne (ne_of ec e (fun z => nomatch z))]
    exact ec
end
section
variable {X : Cx} {pins : List (Addr × Obj)} {σ : St} {H : Hp} {s : Shared} {a : Addr} {kvs : List (Key × V)} {k : Key} {u : Value} {A : Around} {E : Value → Shared → Prop}
end
def NoSl (i : Expr) : Prop := ∀ ov iv, subscripted i false ov iv = operate [ov, iv] (getItem ov iv)
theorem subD_of {prog : Program} {w : World} {A : Around} {E : Value → Shared → Prop} {s : Shared} {env : Env} {value slice : Expr} {pos : Pos} {T id : String} {Q : Value → Shared → Prop}
    (hl : typeLookup (.type T) "__getitem__" = pure (some (.builtin id))) (hs : NoSl slice)
    (h : wpAny (model prog w) A (eval value env) (fun o s₁ => wpAny (model prog w) A (eval slice env) (fun i s₂ => s₂.TypeIs o T ∧ wpAny (model prog w) A (getItem o i) Q E s₂) E s₁) E s) :
    wpAny (model prog w) A (eval (.Subscript value slice pos) env) Q E s := by
  refine Subscript_ (wpAny_mono h (fun o s₁ h₁ => wpAny_mono h₁ (fun i s₂ h₂ => ?_) fun _ _ x => x) fun _ _ x => x)
  obtain ⟨hT, h₂⟩ := h₂
  unfold subscriptTail
  refine wpAny_bind ?_
  rw [getitemInPython_of_ne hT.not_modules]
  refine wpAny_bind (wpAny_specialOf hT hl ?_)
  have fin : wpAny (model prog w) A (subscripted slice false o i) (fun r s₃ => wpAny (model prog w) A (letTemporaryGo value o r >>= fun _ => pure r) Q E s₃) E s₂ := by
    rw [hs o i]
    exact wpAny_operating (wpAny_mono h₂ (fun r s₃ h₃ => wpAny_bind (wpAny_letTemporaryGo (wpAny_pure h₃))) fun _ _ x => x)
  first
    | exact wpAny_pure (wpAny_bind fin)
    | exact wpAny_bind (wpAny_pure (wpAny_bind fin))
    | exact wpAny_bind fin
theorem dict_typeIs {X : Cx} {pins : List (Addr × Obj)} {σ : St} {H : Hp} {s : Shared} {a : Addr} {y : V} {o : Option V} (I : Inv X pins σ H s) (g : DGet H a y o) : s.TypeIs (.ref a) "dict" := by
  rcases g with ⟨kvs, k, e, _, _⟩ | ⟨kvs, k, b, e, _, _, _⟩
  · obtain ⟨_, _, vs, _, dd⟩ := dk_rd I.hok e
    exact dd.typeIs
  · obtain ⟨_, _, xs, _, dd⟩ := dt_rd I.hok e
    exact dd.typeIs
def tDGet (td ty : TE) : TE := fun σ H Q => td σ H fun x H1 => ty σ H1 fun y H2 => ∃ a v, x = .ref a ∧ DGet H2 a y (some v) ∧ Q v H2
def tDIn (ty td : TE) : TE := fun σ H Q => ty σ H fun y H1 => td σ H1 fun x H2 => ∃ a o, x = .ref a ∧ DGet H2 a y o ∧ Q (.bl o.isSome) H2
def tDNotIn (ty td : TE) : TE := fun σ H Q => ty σ H fun y H1 => td σ H1 fun x H2 => ∃ a o, x = .ref a ∧ DGet H2 a y o ∧ Q (.bl (!o.isSome)) H2
def sDPut (td ty tv : TE) : TS := fun D σ H => tv σ H fun v H1 => td σ H1 fun x H2 => ty σ H2 fun y H3 => ∃ a H4, x = .ref a ∧ DPut H3 a y v H4 ∧ D.nx σ H4
def sDAug (td ty tv : TE) (rd : V → V → Hp → VK → Prop) : TS := fun D σ H => td σ H fun x H1 => ty σ H1 fun y H2 => ∃ a v, x = .ref a ∧ DGet H2 a y (some v) ∧
  tv σ H2 fun y2 H3 => rd v y2 H3 fun z H4 => ∃ H5, DPut H4 a y z H5 ∧ D.nx σ H5
def sDDel (td ty : TE) : TS := fun D σ H => td σ H fun x H1 => ty σ H1 fun y H2 => ∃ a kvs k, x = .ref a ∧ H2 a = some (.dK kvs) ∧ y = kV k ∧ (valV kvs k).isSome = true ∧ D.nx σ (upd H2 a (.dK (dropK kvs k)))
section
variable {X : Cx} {o i e value : Expr} {pos pos' tpos : Pos} {td ty tv : TE}
theorem pe_dget (hu : X.A.units + 1 < cLine) (ho : PE X o td) (hi : PE X i ty) (hs : NoSl i) : PE X (.Subscript o i pos) (tDGet td ty) := by
  intro pins s σ H Q I h
  refine subD_of PySem.F.slot_dict_getitem.lookup hs (thn (ho pins s σ H _ I h) fun u s1 ⟨x, H1, I1, rx, q1⟩ => thn (hi pins s1 σ H1 _ I1 q1) fun iv s2 ⟨y, H2, I2, ry, a, v, ex, g, q2⟩ => ?_)
  subst ex
  obtain rfl : u = Value.ref a := rx
  exact ⟨dict_typeIs I2 g, d_getItem hu I2 g ry fun w' s3 I3 rw' => ⟨v, H2, I3, rw', q2⟩⟩
theorem ps_dput (hu : X.A.units + 1 < cLine) (ho : PE X o td) (hi : PE X i ty) (hv : PE X value tv) (hs : swapsWith value (some (.Subscript o i pos')) pos.line X.env = pure false) :
    PS X (.Assign [.Subscript o i pos'] value pos) (sDPut td ty tv) := by
  intro pins s σ H D I h
  refine wpAny_Assign_Subscript (thn (hv pins s σ H _ I h) fun r s1 ⟨v, H1, I1, rv, q1⟩ => thn (ho pins s1 σ H1 _ I1 q1) fun u s2 ⟨x, H2, I2, rx, q2⟩ => thn (hi pins s2 σ H2 _ I2 q2) fun iv s3 ⟨y, H3, I3, ry, a, H4, ex, g, q3⟩ => ?_) hs
  subst ex
  obtain rfl : u = Value.ref a := rx
  exact d_setItem hu I3 g ry rv fun s4 I4 => ⟨σ, H4, I4, q3⟩
end
theorem dk_empty {P : Program} {w : World} {H : Hp} (h : Heap) (hb : sysModules < h.objs.size) : ObjOk P w H (h.push { cls := .type "dict", data := .dict #[] }) h.objs.size (.dK []) :=
  ⟨Nat.zero_le _, beq_eq_false_iff_ne.mpr (Ne.symm (Nat.ne_of_lt hb)), [], .nil, Heap.DictOf.new h⟩
def tDNewK : TE := fun _ H Q => ∀ p, H p = none → Q (.ref p) (upd H p (.dK []))
def tDNewT : TE := fun _ H Q => ∀ p, H p = none → Q (.ref p) (upd H p (.dT []))
section
variable {X : Cx} {pos : Pos}
theorem pe_dnewK : PE X (.Dict [] [] pos) tDNewK := fun pins s σ H Q I h =>
  wpAny_Dict_empty ⟨.ref s.heap.objs.size, _, I.laid (a := s.heap.objs.size) (o := .dK []) (t' := s.toks) (fun _ _ q => Heap.get?_push_of_some _ q) (Nat.le_refl _) (dk_empty s.heap I.big), rfl, h _ (I.hok.fresh (Nat.le_refl _))⟩
end
def tPairs : List (TE × TE) → St → Hp → (List (V × V) → Hp → Prop) → Prop
  | [], _, H, Q => Q [] H
  | (tk, tv) :: r, σ, H, Q => tk σ H fun x H1 => tv σ H1 fun y H2 => tPairs r σ H2 fun ps H3 => Q ((x, y) :: ps) H3
abbrev VV : List (V × V) → List (Value × Value) → Prop := Paired fun p q => RelV p.1 q.1 ∧ RelV p.2 q.2
def PPs (X : Cx) (pos : Pos) (keys : List (Option Expr)) (values : List Expr) (trs : List (TE × TE)) : Prop :=
  ∀ (pins : List (Addr × Obj)) (s : Shared) (σ : St) (H : Hp) (Q : List (V × V) → Hp → Prop), Inv X pins σ H s → tPairs trs σ H Q →
    wpAny (model X.prog X.w) X.A (evalPairs (pairTrees keys values X.env pos)) (fun vs s' => ∃ ps H', Inv X pins σ H' s' ∧ VV ps vs ∧ Q ps H') X.xe s
def mergeK (kvs more : List (Key × V)) : List (Key × V) := more.foldl (fun acc kv => putK acc kv.1 kv.2) kvs
def tDisp (trs : List (TE × TE)) : TE := fun σ H Q => ∀ p, H p = none → tPairs trs σ (upd H p (.dK [])) fun ps H2 => H2 p = some (.dK []) ∧ ∃ kvs : List (Key × V), ps = kvs.map (fun kv => (kV kv.1, kv.2)) ∧ kvs.length ≤ 15 ∧ Q (.ref p) (upd H2 p (.dK (mergeK [] kvs)))
structure M1 (X : Cx) (o : Expr) (m : Str) (apos : Pos) (e : Expr) (cpos : Pos) : Prop where
  base : attributeBase o m X.env (eval o X.env) = eval o X.env
  few : ((backTo cpos (starEach [e] X.env)).all (fun x => !x.1) && (backToKw cpos (keywordEach [] X.env)).all (fun x => x.1.isSome)
    && decide (([e] : List Expr).length + ([] : List Keyword).length + (if ([] : List Keyword).isEmpty then 0 else 1) < 30)) = true
  line : (apos.endLine == cpos.line) = true
  trees : backTo cpos (starEach [e] X.env) = [(false, eval e X.env)]
structure M2 (X : Cx) (o : Expr) (m : Str) (apos : Pos) (e f : Expr) (cpos : Pos) : Prop where
  base : attributeBase o m X.env (eval o X.env) = eval o X.env
  few : ((backTo cpos (starEach [e, f] X.env)).all (fun x => !x.1) && (backToKw cpos (keywordEach [] X.env)).all (fun x => x.1.isSome)
    && decide (([e, f] : List Expr).length + ([] : List Keyword).length + (if ([] : List Keyword).isEmpty then 0 else 1) < 30)) = true
  line : (apos.endLine == cpos.line) = true
  trees : backTo cpos (starEach [e, f] X.env) = [(false, eval e X.env), (false, eval f X.env)]
def IsD (H : Hp) (a : Addr) : Prop := (∃ kvs, Rd H a (.dK kvs)) ∨ ∃ kvs, Rd H a (.dT kvs)
section
variable {X : Cx} {pins : List (Addr × Obj)} {σ : St} {H : Hp} {s : Shared} {a : Addr} {y d : V} {u r : Value} {o : Option V} {A : Around} {E : Value → Shared → Prop}
end
def tDGet1 (td ty : TE) : TE := fun σ H Q => td σ H fun x H1 => ∃ a, x = .ref a ∧ IsD H1 a ∧ ty σ H1 fun y H2 => ∃ o, DGet H2 a y o ∧ Q (o.getD .non) H2
def tDGet2 (td ty tx : TE) : TE := fun σ H Q => td σ H fun x H1 => ∃ a, x = .ref a ∧ IsD H1 a ∧ ty σ H1 fun y H2 => tx σ H2 fun z H3 => ∃ o, DGet H3 a y o ∧ Q (o.getD z) H3
def tDPop1 (td ty : TE) : TE := fun σ H Q => td σ H fun x H1 => ∃ a, x = .ref a ∧ IsD H1 a ∧ ty σ H1 fun y H2 => ∃ kvs k v, H2 a = some (.dK kvs) ∧ y = kV k ∧ valV kvs k = some v ∧ Q v (upd H2 a (.dK (dropK kvs k)))
def tDPop2 (td ty tx : TE) : TE := fun σ H Q => td σ H fun x H1 => ∃ a, x = .ref a ∧ IsD H1 a ∧ ty σ H1 fun y H2 => tx σ H2 fun z H3 => ∃ kvs k, H3 a = some (.dK kvs) ∧ y = kV k ∧
  (∀ v, valV kvs k = some v → Q v (upd H3 a (.dK (dropK kvs k)))) ∧ (valV kvs k = none → Q z H3)
section
variable {X : Cx} {o e f : Expr} {apos cpos : Pos} {td ty tx : TE}
end
section
variable {X : Cx} {pins : List (Addr × Obj)} {σ : St} {H : Hp} {s : Shared} {a : Addr} {kvs : List (Key × V)} {A : Around} {E : Value → Shared → Prop}
end
section
variable {X : Cx} {pins : List (Addr × Obj)} {σ : St} {H : Hp} {s : Shared} {a : Addr} {y : V} {u : Value} {A : Around} {E : Value → Shared → Prop}
end
end L2
namespace L2
open PySem PySem.Spec PyProof.Rows
theorem feed_list {i l : Addr} (hil : l ≠ i) (xs : Array Value) : Feed i l (fun k h => h.IsListIter i l k ∧ h.IsList l xs) (fun k => xs[k]?) where
  obj := fun k h p => by
    obtain ⟨⟨o, e, _, d⟩, _⟩ := p
    exact ⟨o, e, fun v z => by rw [d] at z; cases z⟩
  keep := fun k h g p q => ⟨p.1.at fun o e => q i o (.inl rfl) e, by
    obtain ⟨o, e, r⟩ := p.2
    exact ⟨o, q l o (.inr rfl) e, r⟩⟩
  item := fun p hx hQ => wpAny_nextOf_list_item p.1 p.2 hx fun g h1 h2 => hQ g ⟨h1, p.2.extBut h2.extBut hil⟩ h2
  stop := fun hh p hx hE => wpAny_nextOf_list_end hh p.1 p.2 hx hE
abbrev yA (h : Heap) (l : Addr) : Heap := h.push { cls := .type "tuple_iterator", data := .fields #[.ref l, .int 0 0] }
abbrev yB (h : Heap) (l m : Addr) : Heap := (yA h l).push { cls := .type "list_iterator", data := .fields #[.ref m, .int 0 0] }
abbrev yC (h : Heap) (l m : Addr) : Heap := (yB h l m).push { cls := .type "tuple", data := .seq #[.ref h.objs.size, .ref (yA h l).objs.size] }
abbrev yD (h : Heap) (l m : Addr) : Heap := (yC h l m).push { cls := .type "tuple", data := .seq #[.none, .none] }
abbrev yE (h : Heap) (l m : Addr) : Heap := (yD h l m).push { cls := .type "zip", data := .fields #[.none, .bool false, .bool false, .ref (yB h l m).objs.size, .ref (yC h l m).objs.size] }
theorem meets_zipM (l m : Addr) (xs ys : Array Value) :
    Meets (Builtin.«zip.__new__» ⟨[.type "zip", .ref l, .ref m], []⟩) (fun _ R s => s.heap.IsTuple l xs ∧ s.heap.IsList m ys ∧ R (.ok (.ret (.ref (yD s.heap l m).objs.size))) { s with heap := yE s.heap l m }) :=
  .of_wp fun prog w A R s h => by
    obtain ⟨hp, g, d, tk, os⟩ := s; obtain ⟨t1, t2, h⟩ := h
    have hsub := sub_zip
    have T1 : Heap.IsTuple (Shared.heap ⟨hp, g, d, tk, os⟩) l xs := t1
    have T2 : Heap.IsList (Shared.heap ⟨hp.push { cls := .type "tuple_iterator", data := .fields #[.ref l, .int 0 0] }, g, d, tk, os⟩) m ys := Heap.IsList.push t2 _
    wp_walk using wpAny_pyIter_tuple T1, wpAny_pyIter_list T2
    exact ⟨_, rfl, h⟩
theorem call_zipM {prog : Program} {w : World} {A : Around} {E : Value → Shared → Prop} {s : Shared} {l m : Addr} {xs ys : Array Value} {Q : Value → Shared → Prop} (t1 : s.heap.IsTuple l xs) (t2 : s.heap.IsList m ys)
    (h : ∀ g, IsZip g (s.heap.objs.size + 4) (s.heap.objs.size + 2) (s.heap.objs.size + 3) .none → IsPair g (s.heap.objs.size + 2) (.ref s.heap.objs.size) (.ref (s.heap.objs.size + 1)) →
      IsPair g (s.heap.objs.size + 3) .none .none → g.IsTupleIter s.heap.objs.size l 0 → g.IsListIter (s.heap.objs.size + 1) m 0 → (∀ c o, s.heap.get? c = some o → g.get? c = some o) → Q (.ref (s.heap.objs.size + 4)) { s with heap := g }) :
    wpAny (model prog w) A (call (.type "zip") [.ref l, .ref m]) Q E s := by
  refine callType_new PySem.F.called_zip (by decide) (PySem.F.typeCall_zip_2 _ _) (PySem.F.newCall_zip_2 _ _) (fun obj => PySem.F.args_object_init_3 obj _ _) PySem.F.entry_zip_new (meets_zipM l m xs ys) ⟨t1, t2, ?_⟩
  have n1 : (yA s.heap l).objs.size = s.heap.objs.size + 1 := Heap.size_push ..
  have n2 : (yB s.heap l m).objs.size = s.heap.objs.size + 2 := by rw [Heap.size_push, n1]
  have n3 : (yC s.heap l m).objs.size = s.heap.objs.size + 3 := by rw [Heap.size_push, n2]
  have n4 : (yD s.heap l m).objs.size = s.heap.objs.size + 4 := by rw [Heap.size_push, n3]
  have w5 : (yE s.heap l m).get? (yD s.heap l m).objs.size = some _ := Heap.get?_push_size _ rfl
  have w4 : (yE s.heap l m).get? (yC s.heap l m).objs.size = some _ := Heap.get?_push_of_some _ (Heap.get?_push_size _ rfl)
  have w3 : (yE s.heap l m).get? (yB s.heap l m).objs.size = some _ := Heap.get?_push_of_some _ (Heap.get?_push_of_some _ (Heap.get?_push_size _ rfl))
  have w2 : (yE s.heap l m).get? (yA s.heap l).objs.size = some _ := Heap.get?_push_of_some _ (Heap.get?_push_of_some _ (Heap.get?_push_of_some _ (Heap.get?_push_size _ rfl)))
  have w1 : (yE s.heap l m).get? s.heap.objs.size = some _ := Heap.get?_push_of_some _ (Heap.get?_push_of_some _ (Heap.get?_push_of_some _ (Heap.get?_push_of_some _ (Heap.get?_push_size _ rfl))))
  show _ ∧ _
  rw [n2, n3, n4] at w5
  rw [n1, n2] at w3
  rw [n3] at w4
  rw [n1] at w2
  rw [n4]
  exact ⟨⟨_, w5, rfl⟩, h _ w5 w3 w4 ⟨_, w1, rfl, rfl⟩ ⟨_, w2, rfl, rfl⟩ fun c o q =>
    Heap.get?_push_of_some _ (Heap.get?_push_of_some _ (Heap.get?_push_of_some _ (Heap.get?_push_of_some _ (Heap.get?_push_of_some _ q))))⟩
def ItzM (K : PySem.W.Frag) (a b : Addr) : It :=
  ⟨fun i H => ∃ xs ys x y, SqT K H a xs ∧ SqL K H b ys ∧ xs[i]? = some x ∧ ys[i]? = some y,
   fun i H v H' => ∃ p, v = .ref p ∧ H p = none ∧ ∀ xs ys x y, SqT K H a xs → SqL K H b ys → xs[i]? = some x → ys[i]? = some y → H' = upd H p (.tup [x, y]),
   fun i H => ∃ xs ys, SqT K H a xs ∧ SqL K H b ys ∧ (xs.length ≤ i ∨ ys.length ≤ i)⟩
theorem turn_zipM {P : Program} {w : World} {K : PySem.W.Frag} {elts : List Expr} {kk : Nat} {pos : Pos} (a b z TI TO i1 i2 : Addr) (D : ZipApart z TI TO i1 i2 a b) :
    Turn P w K (.Tuple elts kk pos) (ItzM K a b) [z, TI, TO, i1, i2] z (fun i h => IsZip h z TI TO .none ∧ IsPair h TI (.ref i1) (.ref i2) ∧ (∃ x y, IsPair h TO x y) ∧ h.IsTupleIter i1 a i ∧ h.IsListIter i2 b i) where
  mem := by simp
  obj := fun i h st c hc => by
    obtain ⟨hz, hTI, ⟨x, y, hTO⟩, ⟨o1, e1, c1, d1⟩, ⟨o2, e2, c2, d2⟩⟩ := st
    have hc' : c = z ∨ c = TI ∨ c = TO ∨ c = i1 ∨ c = i2 := by simpa using hc
    rcases hc' with rfl | rfl | rfl | rfl | rfl
    · exact ⟨_, hz, fun v q => by have q' : Data.fields _ = Data.cell v := q; cases q'⟩
    · exact ⟨_, hTI, fun v q => by have q' : Data.seq _ _ = Data.cell v := q; cases q'⟩
    · exact ⟨_, hTO, fun v q => by have q' : Data.seq _ _ = Data.cell v := q; cases q'⟩
    · exact ⟨_, e1, fun v q => by rw [d1] at q; cases q⟩
    · exact ⟨_, e2, fun v q => by rw [d2] at q; cases q⟩
  keep := fun i h h' st k => by
    obtain ⟨hz, hTI, ⟨x, y, hTO⟩, h1, h2⟩ := st
    exact ⟨k z (by simp) _ hz, k TI (by simp) _ hTI, ⟨x, y, k TO (by simp) _ hTO⟩, h1.at fun o e => k i1 (by simp) o e, h2.at fun o e => k i2 (by simp) o e⟩
  item := by
    intro X hP hw hK hc i pins s σ H E I hf st hg
    subst hP hw hK
    obtain ⟨xs, ys, x, y, hq1, hq2, hx, hy⟩ := hg
    obtain ⟨its, rv, p1, hz1⟩ := I.tuple hq1
    obtain ⟨its2, rv2, p2, hz2⟩ := I.list hq2
    obtain ⟨u, hu, ru⟩ := rv.get hx
    obtain ⟨v, hv, rvv⟩ := rv2.get hy
    obtain ⟨hz, hTI, ⟨ta, tb, hTO⟩, h1, h2⟩ := st
    refine zipF_item (feed_tuple D.l1i1 its.toArray) (feed_list D.l2i2 its2.toArray) D hz hTI hTO ⟨h1, p1⟩ ⟨h2, p2.isList⟩ (x := u) (y := v) (by simpa using hu) (by simpa using hv) fun h' a1 a2 a3 a4 a5 hk => ?_
    refine ⟨_, rfl, wpAny_letOwnedTupleGo_zip a1 fun h'' hz'' sb => ?_⟩
    have nz : s.heap.objs.size ≠ z := Nat.ne_of_gt (Heap.lt_size hz)
    have hk2 : ∀ c o, c ∉ [z, TI, TO, i1, i2] → s.heap.get? c = some o → h''.get? c = some o := fun c o hc e => by
      simp only [List.mem_cons, List.not_mem_nil, or_false, not_or] at hc
      exact sb.extBut c o hc.1 (hk c o hc.1 hc.2.2.1 hc.2.2.2.1 hc.2.2.2.2 e)
    refine ⟨.ref s.heap.objs.size, upd H s.heap.objs.size (.tup [x, y]), I.turnedLaid (t' := s.toks) hk2 hf (Nat.le_refl _) ⟨two_le, [u, v], .cons ru (.cons rvv .nil), ⟨_, sb.extBut _ _ nz a5, rfl, _, rfl⟩⟩, rfl,
      ⟨_, rfl, I.hok.fresh (Nat.le_refl _), fun xs' ys' x' y' e1 e2 e3 e4 => ?_⟩, ⟨hz'', sb.extBut _ _ D.TIz (hk _ _ D.TIz D.TITO D.TIi1 D.TIi2 hTI), ⟨_, _, sb.extBut _ _ D.TOz a2⟩, a3.1.extBut sb.extBut D.i1z, a4.1.extBut sb.extBut D.i2z⟩, fun c hc => ?_⟩
    · rw [I.tuple_inj e1 hq1, hx] at e3
      rw [I.list_inj e2 hq2, hy] at e4
      cases e3
      cases e4
      rfl
    · obtain ⟨o, e, _⟩ : ∃ o, s.heap.get? c = some o ∧ True := by
        have hc' : c = z ∨ c = TI ∨ c = TO ∨ c = i1 ∨ c = i2 := by simpa using hc
        obtain ⟨o1, e1, _⟩ := h1
        obtain ⟨o2, e2, _⟩ := h2
        rcases hc' with rfl | rfl | rfl | rfl | rfl
        · exact ⟨_, hz, trivial⟩
        · exact ⟨_, hTI, trivial⟩
        · exact ⟨_, hTO, trivial⟩
        · exact ⟨_, e1, trivial⟩
        · exact ⟨_, e2, trivial⟩
      rw [upd_ne (Nat.ne_of_lt (Heap.lt_size e))]
      exact (hf c hc).1
  done := by
    intro X hP hw hK hc i pins s σ H E I hf st hg
    subst hP hw hK
    obtain ⟨xs, ys, hq1, hq2, hend⟩ := hg
    obtain ⟨its, rv, p1, hz1⟩ := I.tuple hq1
    obtain ⟨its2, rv2, p2, hz2⟩ := I.list hq2
    obtain ⟨hz, hTI, ⟨ta, tb, hTO⟩, h1, h2⟩ := st
    have l1 := rv.length
    have l2 := rv2.length
    refine zipF_end (I.ok.hd hc) (feed_tuple D.l1i1 its.toArray) (feed_list D.l2i2 its2.toArray) D hz hTI hTO ⟨h1, p1⟩ ⟨h2, p2.isList⟩ ?_ fun h' hk => ⟨rfl, I.turnedAll (t' := s.toks) (ch := [z, TI, TO, i1, i2]) (fun c o hc e => ?_) hf⟩
    · rcases hend with q | q
      · exact .inl (by simp; omega)
      · exact .inr (by simp; omega)
    · simp only [List.mem_cons, List.not_mem_nil, or_false, not_or] at hc
      exact hk c o hc.1 hc.2.2.1 hc.2.2.2.1 hc.2.2.2.2 e
  self := fun _ _ _ _ _ st h => wpAny_pyIter_zip st.1 h
section
variable {X : Cx} {elts : List Expr} {kk : Nat} {tpos : Pos}
def iZipM (K : PySem.W.Frag) (ta : TA) : TI := fun σ H R => ta σ H fun vs H1 => ∃ a b, vs = [.ref a, .ref b] ∧ (∃ xs, SqT K H1 a xs) ∧ (∃ ys, SqL K H1 b ys) ∧ R (ItzM K a b) H1
theorem pi_zipM {e1 e2 : Expr} {ta : TA} {p pos : Pos} (hg : Gl X "zip") (hm : X.mg "zip" = none) (ha : PA X [e1, e2] ta)
    (hs : starEach [e1, e2] X.env = [(false, eval e1 X.env), (false, eval e2 X.env)] := by rfl) (hs2 : starEach [e2] X.env = [(false, eval e2 X.env)] := by rfl) : PI X (.Tuple elts kk tpos) (.Call (.Name "zip" p) [e1, e2] [] pos) (iZipM X.K ta) := by
  intro pins s σ H R I h
  refine Call_ (ld_blt I hg hm Boot.«zip» (PyProof.Rows.callWith_type1 (thn (ha pos pins s σ H _ I h) fun us s1 ⟨vs, H1, I1, r1, q1⟩ => ?_) (by rw [hs, hs2]) (by rw [hs2]; rfl)))
  obtain ⟨a, b, e, ⟨xs, hx⟩, ⟨ys, hy⟩, q⟩ := q1
  subst e
  cases r1 with
  | cons r rr =>
    cases rr with
    | cons r' rr =>
      cases rr
      cases r
      cases r'
      obtain ⟨its, rv, p1, hz1⟩ := I1.tuple hx
      obtain ⟨its2, rv2, p2, hz2⟩ := I1.list hy
      have l1 : a < s1.heap.objs.size := by obtain ⟨_, e, _⟩ := p1; exact Heap.lt_size e
      have l2 : b < s1.heap.objs.size := by obtain ⟨_, e, _⟩ := p2.isList; exact Heap.lt_size e
      refine call_zipM p1 p2.isList fun h' hz hTI hTO hi1 hi2 hk => ?_
      refine wpAny_pyIter_zip hz ?_
      refine ⟨s1.heap.objs.size + 4, [s1.heap.objs.size + 4, s1.heap.objs.size + 2, s1.heap.objs.size + 3, s1.heap.objs.size, s1.heap.objs.size + 1], _, _, H1, rfl, I1.kept (t' := s1.toks) hk, turn_zipM a b _ _ _ _ _ (zipApart_new l1 l2), ⟨hz, hTI, ⟨_, _, hTO⟩, hi1, hi2⟩, fun c hc => ?_, q⟩
      have hc' : s1.heap.objs.size ≤ c := by
        simp only [List.mem_cons, List.not_mem_nil, or_false] at hc
        rcases hc with e | e | e | e | e <;> rw [e] <;> first | exact Nat.le_refl _ | exact Nat.le_add_right _ _
      exact I1.fpOk hc' (I1.hok.fresh hc')
end
theorem comp_zipM {K : PySem.W.Frag} {a b D : Addr} {xs ys : List V} {g : TG} {tt : TT} {te : TE} {Q : VK} {H : Hp} {σ0 : L2.St} (Pv : Nat → L2.St → List V → Hp → Prop) (p0 : Pv 0 σ0 [] H)
    (hl : ∀ i σ zs H', i ≤ min xs.length ys.length → Pv i σ zs H' → SqT K H' a xs ∧ SqL K H' b ys ∧ H' D = some (.lst zs) ∧ zs.length < sizeLine)
    (hs : ∀ i x y σ zs H' p, xs[i]? = some x → ys[i]? = some y → Pv i σ zs H' → H' p = none → ∀ N : L2.St → List V → Hp → Prop, (∀ σ zs H, Pv (i + 1) σ zs H → N σ zs H) →
      g (.ref p) σ (upd H' p (.tup [x, y])) fun σ4 H4 => tt σ4 H4 fun b H5 => if b = true then te σ4 H5 fun v H6 => H6 D = some (.lst zs) ∧ N σ4 (zs ++ [v]) (upd H6 D (.lst (zs ++ [v]))) else N σ4 zs H5)
    (hd : ∀ σ zs H', Pv (min xs.length ys.length) σ zs H' → Q (.ref D) H') : CompW (ItzM K a b) g tt te σ0 Q D H := by
  refine ⟨fun i m σ zs H => m = min xs.length ys.length - i ∧ i ≤ min xs.length ys.length ∧ Pv i σ zs H, ⟨min xs.length ys.length, by simp, Nat.zero_le _, p0⟩, ?_⟩
  rintro i m σ zs H2 ⟨rfl, hi, p⟩
  obtain ⟨q1, q2, q3, q4⟩ := hl i σ zs H2 hi p
  refine ⟨q3, q4, ?_⟩
  by_cases hlt : i < min xs.length ys.length
  · have h1 : i < xs.length := by omega
    have h2 : i < ys.length := by omega
    refine .inr ⟨⟨xs, ys, xs[i], ys[i], q1, q2, by simp [h1], by simp [h2]⟩, fun v H3 y => ?_⟩
    obtain ⟨t, rfl, ht, y⟩ := y
    have e := y xs ys xs[i] ys[i] q1 q2 (by simp [h1]) (by simp [h2])
    subst e
    exact hs i xs[i] ys[i] σ zs H2 t (by simp [h1]) (by simp [h2]) p ht (fun σ zs H => ∃ m', m' < min xs.length ys.length - i ∧ m' = min xs.length ys.length - (i + 1) ∧ i + 1 ≤ min xs.length ys.length ∧ Pv (i + 1) σ zs H) fun σ zs H z => ⟨_, by omega, rfl, hlt, z⟩
  · have e : i = min xs.length ys.length := by omega
    subst e
    exact .inl ⟨⟨xs, ys, q1, q2, by omega⟩, hd σ zs H2 p⟩
section
variable {X : Cx}
theorem pss_no {b : List Stmt} : PSs X b (fun _ _ _ => False) := fun _ _ _ _ _ _ h => h.elim
theorem pe_no {e : Expr} : PE X e (fun _ _ _ => False) := fun _ _ _ _ _ _ h => h.elim
end
theorem FnOk.no {P : Program} {w : World} {K : PySem.W.Frag} {mg : Str → Option Value} {base : Heap} {CX : CXT} {k : Nat} {f : Addr} {fd : FuncData} {ps : List Str} : FnOk P w K mg base CX k f fd ps (fun _ _ _ _ => False) :=
  ⟨fun _ _ _ _ h => h.elim, fun _ _ _ _ _ _ _ _ _ _ _ _ _ h => h.elim⟩
section
variable {X : Cx}
def rNeDi (K : PySem.W.Frag) : R2 := fun x y H Q => ∃ (a b : Addr) (kvs lvs : List (Key × V)), x = .ref a ∧ y = .ref b ∧ H a = some (.dK kvs) ∧ H b = some (.dK lvs) ∧ kvs.length = lvs.length ∧
  (∀ kv ∈ kvs, ∃ v d, valV lvs kv.1 = some v ∧ DatAt K H kv.2 d ∧ DatAt K H v d ∧ d.hgt ≤ 30) ∧ Q (.bl false) H
end
end L2
namespace L2
open PySem PySem.Spec PySem.W PyProof.Rows
section
variable {X : Cx} {CX : CXT} {k : Nat} {f C : Addr} {fd : FuncData} {ps : List Str} {sp : Sp} {dvs : List V} {ds : List Value} {E : XK} {x m : Str} {p pos apos : Pos} {e o : Expr} {es : List Expr} {ta : TE} {t : TA}
structure ClsM (K : Frag) (C : Addr) (m : Str) (f : Addr) : Prop where
  ga : specialIn K (.ref C) "__getattribute__" = some (some (.builtin "type.__getattribute__"))
  rd : readsIn K C (.type "type") = true
  at_ : findCls K (.ref C) (.type "type") m = some (.val (.ref f))
  kp : keepIn K (.ref f) = true
theorem pe_clsM {pl : Sem Bool} (hg : Gl X x) (hm : X.mg x = some (.ref C)) (c : ClsM X.K C m f) (F : FnOk X.prog X.w X.K X.mg X.base CX k f fd ps sp) (hr : Room k X.A) (hb : Binds X.K fd ps ds) (hd : Vals dvs ds) (hx : Passes CX X E) (ha : PA X (e :: es) t)
    (hdb : (x == ("__debug__" : Str)) = false := by decide)
    (hst : starEach (e :: es) X.env = (false, eval e X.env) :: starEach es X.env := by rfl) (hpl : (backTo pos (starEach es X.env)).any (·.1) = false := by rfl)
    (ht : eval (.Call (.Attribute (.Name x p) m apos) (e :: es) [] pos) X.env = (do
      let ov ← eval (.Name x p) X.env
      standAt apos.atName
      let (f, first) ← holding [ov] (getMethod ov m pl)
      callWith pos f first (backTo pos (starEach (e :: es) X.env)) (backToKw pos (keywordEach [] X.env))) := by rfl) :
    PE X (.Call (.Attribute (.Name x p) m apos) (e :: es) [] pos) (tCall sp dvs E t) := by
  intro pins s σ H Q I h
  refine PySem.W.methodCall_KW (pl := pl) (ld_glob I hg hm ?_ hdb) ht
  refine method_cls I.kIn c.ga (cls_value I.kIn c.rd c.at_ rfl ?_)
  have I1 := I.tok (s.toks + 1)
  refine PySem.W.callWith_K (first := []) (h₀ := X.base) I.ok.mod.kin c.kp (thn (ha pos pins _ σ H _ I1 h) fun us s2 ⟨vs, H2, I2, r, q2⟩ => ⟨I2.kIn, ?_⟩) hst hpl
  exact run_fn F hr hb hd hx I2 r q2
def tMeth2 (C C2 : Addr) (m : Str) (sp sp2 : Sp) (E E2 : XK) (ta : TE) (t : TA) : TE := fun σ H Q => ta σ H fun x H1 => ∃ a dx fs, x = .ref a ∧ fs.lookup m = none ∧
  ((H1 a = some (.ins C dx fs) ∧ t σ H1 fun vs H2 => sp (x :: (vs ++ [])) H2 Q E) ∨ (H1 a = some (.ins C2 dx fs) ∧ t σ H1 fun vs H2 => sp2 (x :: (vs ++ [])) H2 Q E2))
end
section
variable {X : Cx}
def rEqLL (K : PySem.W.Frag) : R2 := fun x y H Q => ∃ a b ps qs, x = .ref a ∧ y = .ref b ∧ LLM K H a ps ∧ LLM K H b qs ∧ ps.map (·.2) = qs.map (·.2) ∧ (∀ p ∈ ps, Dt.hgts p.2 ≤ 30) ∧ Q (.bl true) H
def rEqDi (K : PySem.W.Frag) : R2 := fun x y H Q => ∃ (a b : Addr) (kvs lvs : List (Key × V)), x = .ref a ∧ y = .ref b ∧ H a = some (.dK kvs) ∧ H b = some (.dK lvs) ∧ kvs.length = lvs.length ∧
  (∀ kv ∈ kvs, ∃ v d, valV lvs kv.1 = some v ∧ DatAt K H kv.2 d ∧ DatAt K H v d ∧ d.hgt ≤ 30) ∧ Q (.bl true) H
end
end L2
namespace L2
open PySem PySem.Spec PySem.W PyProof.Rows
theorem caps2 {X : Cx} {scope : Scope} {Nc : List Str} {x y : Str} {c d : Addr} (i j i2 j2 : Nat) (ns : List (Str × NameKind)) (hrel : (relabel scope X.env).names = ns) (hclos : closureFor scope X.env = pure [(x, c), (y, d)]) (hk : scope.kind = .function)
    (hnc : ∀ z ∈ scope.names, z.2 ≠ .cell) (hnm : ∀ z ∈ scope.names, z.2 = .local → scope.names.lookup z.1 = some .local) (hcx : X.env.cells.lookup x = some c) (hcy : X.env.cells.lookup y = some d) (hii : i ≠ i2)
    (honly : ∀ z ∈ ns, z.2 = .cell ∨ z.2 = .free → z.1 = x ∨ z.1 = y) (hinx : ns.lookup x = some .cell) (hiny : ns.lookup y = some .cell) (hkx : X.env.kindOf x = some .cell) (hky : X.env.kindOf y = some .cell)
    (hNx : Nc[i]? = some x) (hNy : Nc[i2]? = some y) (hjx : X.N[j]? = some x) (hjy : X.N[j2]? = some y) :
    Caps X scope [(x, c), (y, d)] Nc (fun σ => ((List.replicate Nc.length none).set i (σ.getD j none)).set i2 (σ.getD j2 none)) where
  clos := hclos
  kind := hk
  nocell := hnc
  names := hnm
  cells := fun z e' e => by
    rw [List.lookup_cons] at e
    split at e
    · rename_i q
      have q' : z = x := by simpa using q
      cases e
      rw [q']
      exact hcx
    · rw [List.lookup_cons] at e
      split at e
      · rename_i q
        have q' : z = y := by simpa using q
        cases e
        rw [q']
        exact hcy
      · cases e
  has := fun z h => by
    rw [hrel] at h
    have e : z = x ∨ z = y := by
      rcases h with h | h
      · exact honly _ (PySem.mem_of_lookup h) (.inl rfl)
      · exact honly _ (PySem.mem_of_lookup h) (.inr rfl)
    rw [List.lookup_cons]
    split
    · exact ⟨c, rfl⟩
    · rename_i q
      have q' : z ≠ x := by simpa using q
      rcases e with e | e
      · exact absurd e q'
      · subst e
        exact ⟨d, by simp [List.lookup_cons]⟩
  len := fun σ => by simp
  cap := fun σ k z v e1 e2 _ => by
    have get : ∀ {q : Nat}, σ.getD q none = some v → σ[q]? = some (some v) := fun {q} e3 => by
      rw [List.getD_eq_getElem?_getD] at e3
      cases h : σ[q]? with
      | none => rw [h] at e3; cases e3
      | some o =>
        rw [h] at e3
        have e4 : o = some v := e3
        rw [e4]
    by_cases q2 : k = i2
    · subst q2
      rw [hNy] at e1
      cases e1
      have hlt : k < Nc.length := (List.getElem?_eq_some_iff.mp hNy).1
      rw [List.getElem?_set_self (by simpa using hlt)] at e2
      exact ⟨.inl (by rw [hrel]; exact hiny), .inl hky, j2, hjy, get (Option.some.inj e2), .inr (.inl hky)⟩
    · rw [List.getElem?_set_ne (Ne.symm q2)] at e2
      by_cases q : k = i
      · subst q
        rw [hNx] at e1
        cases e1
        have hlt : k < Nc.length := (List.getElem?_eq_some_iff.mp hNx).1
        rw [List.getElem?_set_self (by simpa using hlt)] at e2
        exact ⟨.inl (by rw [hrel]; exact hinx), .inl hkx, j, hjx, get (Option.some.inj e2), .inr (.inl hkx)⟩
      · rw [List.getElem?_set_ne (Ne.symm q), List.getElem?_replicate] at e2
        split at e2 <;> cases e2
end L2
namespace L2
open PySem PySem.Spec PySem.W PyProof.Rows
section
variable {X : Cx} {K : Frag}
theorem ix_listK (hK : X.K = K) : IxR X (rIxL K) := by
  subst hK
  exact ix_list
end
def Cold (H H' : Hp) : Prop := ∀ b o, o ≠ .lst [] → H b = some o → H' b = some o
section
variable {K : Frag} {H H' H2 : Hp}
theorem Cold.tup {r : Addr} {vs : List V} (e : Cold H H') (h : SqT K H r vs) : SqT K H' r vs := by
  rcases h with (h | ⟨o, h⟩) | h
  · exact .inl (.inl (e _ _ (fun z => nomatch z) h))
  · exact .inl (.inr ⟨o, e _ _ (fun z => nomatch z) h⟩)
  · exact .inr h
mutual
theorem DatAt.cold (e : Cold H H') : ∀ {v : V} {d : Dt}, DatAt K H v d → DatAt K H' v d
  | v, .non, h => by simpa [DatAt] using h
  | v, .int i, h => by simpa [DatAt] using h
  | v, .str i, h => by simpa [DatAt] using h
  | v, .tup ds, h => by
    obtain ⟨r, vs, rfl, h1, h2⟩ := h.un
    exact .tup (e.tup h1) (DatsAt.cold e h2)
theorem DatsAt.cold (e : Cold H H') : ∀ {vs : List V} {ds : List Dt}, DatsAt K H vs ds → DatsAt K H' vs ds
  | vs, [], h => by
    rw [h.un0]
    exact .nil
  | vs, d :: ds, h => by
    obtain ⟨v, r, rfl, h1, h2⟩ := h.un
    exact .cons (DatAt.cold e h1) (DatsAt.cold e h2)
end
end
end L2
namespace L2
open PySem PySem.Spec PySem.W PyProof.Rows
section
variable {X : Cx}
def tFmt (te : TE) : TE := fun σ H Q => te σ H fun x H1 => (∃ y : Str, x = .str y ∧ y.length ≤ sizeLine ∧ Q (.str y) H1) ∨ ∃ a : Int, x = .int a ∧ a.natAbs.log2 < 1920 ∧ Q (.str (toString a)) H1
def tJoin : List TE → Str → TE
  | [], out => fun _ H Q => out.length ≤ sizeLine ∧ Q (.str out) H
  | t :: r, out => fun σ H Q => t σ H fun x H1 => ∃ y : Str, x = .str y ∧ (out ++ y).length ≤ sizeLine ∧ tJoin r (out ++ y) σ H1 Q
inductive PJs (X : Cx) : List Expr → List TE → Prop
  | nil : PJs X [] []
  | cons {v : Expr} {t : TE} {vs : List Expr} {ts : List TE} (h : PE X v t) (r : PJs X vs ts) : PJs X (v :: vs) (t :: ts)
theorem op_notinD (hu : X.A.units + 1 < cLine) : OpR X (compareOp .NotIn) (fun x y H Q => ∃ a o, y = .ref a ∧ DGet H a x o ∧ Q (.bl (!o.isSome)) H) := by
  intro pins s σ H x y u v Q I ru rv h
  obtain ⟨a, o, rfl, g, q⟩ := h
  cases (show v = Value.ref a from rv)
  exact d_notIn hu I g ru fun s' I' => ⟨.bl _, H, I', rfl, q⟩
end
end L2
namespace L2
open PySem PySem.Spec PyProof.Rows
def Ite (K : PySem.W.Frag) (a : Addr) : It :=
  ⟨fun i H => ∃ xs x, SqL K H a xs ∧ xs[i]? = some x,
   fun i H v H' => ∃ p, v = .ref p ∧ H p = none ∧ ∀ xs x, SqL K H a xs → xs[i]? = some x → H' = upd H p (.tup [.int (i : Int), x]),
   fun i H => ∃ xs, SqL K H a xs ∧ xs.length ≤ i⟩
theorem turn_enum {P : Program} {w : World} {K : PySem.W.Frag} {elts : List Expr} {kk : Nat} {pos : Pos} (a e it : Addr) (hne : e ≠ it) :
    Turn P w K (.Tuple elts kk pos) (Ite K a) [e, it] e (fun i h => (∃ old, IsEnum h e it (i : Int) old) ∧ h.IsListIter it a i) where
  mem := by simp
  obj := fun i h st c hc => by
    obtain ⟨⟨old, he⟩, ⟨o2, e2, c2, d2⟩⟩ := st
    have hc' : c = e ∨ c = it := by simpa using hc
    rcases hc' with rfl | rfl
    · exact ⟨_, he, fun v q => by have q' : Data.fields _ = Data.cell v := q; cases q'⟩
    · exact ⟨_, e2, fun v q => by rw [d2] at q; cases q⟩
  keep := fun i h h' st k => by
    obtain ⟨⟨old, he⟩, h2⟩ := st
    exact ⟨⟨old, k e (by simp) _ he⟩, h2.at fun o e' => k it (by simp) o e'⟩
  item := by
    intro X hP hw hK hc i pins s σ H E I hf st hg
    subst hP hw hK
    obtain ⟨xs, x, hq, hx⟩ := hg
    obtain ⟨its, rv, p1, hz1⟩ := I.list hq
    obtain ⟨u, hu, ru⟩ := rv.get hx
    obtain ⟨⟨old, he⟩, hit⟩ := st
    refine wpAny_pyNext_enum_item he hit p1.isList (x := u) (by simpa using hu) hne fun h' a1 a2 a3 a4 hk => ?_
    refine ⟨_, rfl, wpAny_letOwnedTupleGo_enum a1 fun h'' hz'' sb => ?_⟩
    have nz : s.heap.objs.size ≠ e := Nat.ne_of_gt (Heap.lt_size he)
    have hk2 : ∀ c o, c ∉ [e, it] → s.heap.get? c = some o → h''.get? c = some o := fun c o hc e' => by
      simp only [List.mem_cons, List.not_mem_nil, or_false, not_or] at hc
      exact sb.extBut c o hc.1 (hk c o hc.1 hc.2 e')
    refine ⟨.ref s.heap.objs.size, upd H s.heap.objs.size (.tup [.int (i : Int), x]), I.turnedLaid (t' := s.toks + 1) hk2 hf (Nat.le_refl _) ⟨two_le, [.int (i : Int) s.toks, u], .cons ⟨_, rfl⟩ (.cons ru .nil), ⟨_, sb.extBut _ _ nz a3, rfl, _, rfl⟩⟩, rfl,
      ⟨_, rfl, I.hok.fresh (Nat.le_refl _), fun xs' x' e1 e3 => ?_⟩, ⟨⟨_, hz''⟩, a2.extBut sb.extBut hne.symm⟩, fun c hc => ?_⟩
    · rw [I.list_inj e1 hq, hx] at e3
      cases e3
      rfl
    · obtain ⟨o, e', _⟩ : ∃ o, s.heap.get? c = some o ∧ True := by
        have hc' : c = e ∨ c = it := by simpa using hc
        obtain ⟨o2, e2, _⟩ := hit
        rcases hc' with rfl | rfl
        · exact ⟨_, he, trivial⟩
        · exact ⟨_, e2, trivial⟩
      rw [upd_ne (Nat.ne_of_lt (Heap.lt_size e'))]
      exact (hf c hc).1
  done := by
    intro X hP hw hK hc i pins s σ H E I hf st hg
    subst hP hw hK
    obtain ⟨xs, hq, hend⟩ := hg
    obtain ⟨its, rv, p1, hz1⟩ := I.list hq
    obtain ⟨⟨old, he⟩, hit⟩ := st
    have l1 := rv.length
    refine wpAny_pyNext_enum_end (I.ok.hd hc) he hit p1.isList (by simp; omega) fun h' hk => ⟨rfl, I.turnedAll (t' := s.toks) (ch := [e, it]) (fun c o hc e' => ?_) hf⟩
    simp only [List.mem_cons, List.not_mem_nil, or_false, not_or] at hc
    exact hk c o hc.2 e'
  self := fun _ _ _ _ _ st h => let ⟨_, he⟩ := st.1; wpAny_pyIter_enum he h
section
variable {X : Cx} {elts : List Expr} {kk : Nat} {tpos : Pos}
def iEnum (K : PySem.W.Frag) (ta : TA) : TI := fun σ H R => ta σ H fun vs H1 => ∃ a, vs = [.ref a] ∧ (∃ xs, SqL K H1 a xs) ∧ R (Ite K a) H1
theorem pi_enum {e1 : Expr} {ta : TA} {p pos : Pos} (hg : Gl X "enumerate") (hm : X.mg "enumerate" = none) (ha : PA X [e1] ta)
    (hs : starEach [e1] X.env = [(false, eval e1 X.env)] := by rfl) (hs2 : starEach [] X.env = [] := by rfl) : PI X (.Tuple elts kk tpos) (.Call (.Name "enumerate" p) [e1] [] pos) (iEnum X.K ta) := by
  intro pins s σ H R I h
  refine Call_ (ld_blt I hg hm Boot.«enumerate» (PyProof.Rows.callWith_type1 (thn (ha pos pins s σ H _ I h) fun us s1 ⟨vs, H1, I1, r1, q1⟩ => ?_) (by rw [hs, hs2]) (by rw [hs2]; rfl)))
  obtain ⟨a, e, ⟨xs, hx⟩, q⟩ := q1
  subst e
  obtain ⟨u, rfl, r⟩ := vals1 r1
  cases (show u = Value.ref a from r)
  obtain ⟨its, rv, p1, hz1⟩ := I1.list hx
  refine call_enumerate_list p1.isList fun h' he hit hsz hk => ?_
  refine wpAny_pyIter_enum he ?_
  refine ⟨s1.heap.objs.size + 1, [s1.heap.objs.size + 1, s1.heap.objs.size], _, _, H1, rfl, I1.kept (t' := s1.toks) hk, turn_enum a _ _ (Nat.succ_ne_self _), ⟨⟨_, he⟩, hit⟩, fun c hc => ?_, q⟩
  have hc' : s1.heap.objs.size ≤ c := by
    simp only [List.mem_cons, List.not_mem_nil, or_false] at hc
    rcases hc with e | e <;> rw [e] <;> first | exact Nat.le_refl _ | exact Nat.le_add_right _ _
  exact I1.fpOk hc' (I1.hok.fresh hc')
theorem for_enum {K : PySem.W.Frag} {a : Addr} {xs : List V} {g : TG} {tb : TS} {D : Ends} {σ : St} {H : Hp} (Pv : Nat → St → Hp → Prop) (h0 : Pv 0 σ H) (hl : ∀ i σ H, i ≤ xs.length → Pv i σ H → SqL K H a xs)
    (hs : ∀ i x σ H p, xs[i]? = some x → Pv i σ H → H p = none → g (.ref p) σ (upd H p (.tup [.int (i : Int), x])) fun σ2 H2 => tb { D with nx := Pv (i + 1), ct := Pv (i + 1), bk := D.nx } σ2 H2) (hd : ∀ σ H, Pv xs.length σ H → D.nx σ H) :
    ∃ W : Nat → Nat → St → Hp → Prop, (∃ m, W 0 m σ H) ∧ ∀ i m σ H, W i m σ H →
      ((Ite K a).stop i H ∧ D.nx σ H) ∨ ((Ite K a).go i H ∧ ∃ N : St → Hp → Prop, (∀ σ' H', N σ' H' → ∃ m', m' < m ∧ W (i + 1) m' σ' H') ∧ ∀ x H', (Ite K a).yld i H x H' → g x σ H' fun σ2 H2 => tb { D with nx := N, ct := N, bk := D.nx } σ2 H2) := by
  refine ⟨fun i m σ H => m = xs.length - i ∧ i ≤ xs.length ∧ Pv i σ H, ⟨xs.length, by simp, Nat.zero_le _, h0⟩, ?_⟩
  rintro i m σ H ⟨rfl, hi, p⟩
  have q := hl i σ H hi p
  by_cases hlt : i < xs.length
  · refine .inr ⟨⟨xs, xs[i], q, by simp [hlt]⟩, Pv (i + 1), fun σ' H' p' => ⟨xs.length - (i + 1), by omega, rfl, hlt, p'⟩, fun x H' y => ?_⟩
    obtain ⟨pp, rfl, hp, y⟩ := y
    rw [y xs xs[i] q (by simp [hlt])]
    exact hs i xs[i] σ H pp (by simp [hlt]) p hp
  · have e : i = xs.length := by omega
    subst e
    exact .inl ⟨⟨xs, q, Nat.le_refl _⟩, hd σ H p⟩
end
end L2
namespace L2
open PySem PySem.Spec PySem.W PyProof.Rows
def BtZ (Z : List Addr) (H H' : Hp) : Prop := ∀ b o, b ∉ Z → H b = some o → H' b = some o
def NTZ (H : Hp) (Z : List Addr) : Prop := ∀ a ∈ Z, NT H a
section
variable {K : Frag} {H H' H2 : Hp} {Z : List Addr} {a b : Addr}
theorem BtZ.refl : BtZ Z H H := fun _ _ _ h => h
theorem BtZ.of (e : Same H H') : BtZ Z H H' := fun b o _ h => e b o h
theorem BtZ.one (h : a ∈ Z) (e : BtA a H H') : BtZ Z H H' := fun b o n q => e b o (fun z => n (by rw [z]; exact h)) q
theorem BtZ.trans (e : BtZ Z H H') (f : BtZ Z H' H2) : BtZ Z H H2 := fun b o n h => f b o n (e b o n h)
theorem BtZ.mono {Z2 : List Addr} (e : BtZ Z H H') (h : ∀ x ∈ Z, x ∈ Z2) : BtZ Z2 H H' := fun b o n q => e b o (fun z => n (h b z)) q
theorem BtZ.same (e : BtZ Z H H') (h : ∀ x ∈ Z, H2 x = none) (s : Same H2 H) : Same H2 H' := fun b o q => e b o (fun z => by rw [h b z] at q; cases q) (s b o q)
theorem BtZ.tup {r : Addr} {vs : List V} (nt : NTZ H Z) (e : BtZ Z H H') (h : SqT K H r vs) : SqT K H' r vs := by
  rcases h with (h | ⟨o, h⟩) | h
  · exact .inl (.inl (e _ _ (fun z => (nt _ z _ h).1 _ rfl) h))
  · exact .inl (.inr ⟨o, e _ _ (fun z => (nt _ z _ h).2 _ _ rfl) h⟩)
  · exact .inr h
mutual
theorem DatAt.butZ (nt : NTZ H Z) (e : BtZ Z H H') : ∀ {v : V} {d : Dt}, DatAt K H v d → DatAt K H' v d
  | v, .non, h => by simpa [DatAt] using h
  | v, .int i, h => by simpa [DatAt] using h
  | v, .str i, h => by simpa [DatAt] using h
  | v, .tup ds, h => by
    obtain ⟨r, vs, rfl, h1, h2⟩ := h.un
    exact .tup (BtZ.tup nt e h1) (DatsAt.butZ nt e h2)
theorem DatsAt.butZ (nt : NTZ H Z) (e : BtZ Z H H') : ∀ {vs : List V} {ds : List Dt}, DatsAt K H vs ds → DatsAt K H' vs ds
  | vs, [], h => by
    rw [h.un0]
    exact .nil
  | vs, d :: ds, h => by
    obtain ⟨v, r, rfl, h1, h2⟩ := h.un
    exact .cons (DatAt.butZ nt e h1) (DatsAt.butZ nt e h2)
end
end
end L2
namespace K70
open PySem L2 FW PyProof.Rows
def top (i : Nat) : Stmt := PySem.Challenge.pw_flipwright_k70_bases_and_numbers.main.body.getD i (.Pass ⟨0, 0, 0, 0⟩)
abbrev s_NoName_init : Stmt := inClass (top 2) 0
abbrev s_Opened_init : Stmt := inClass (top 8) 0
abbrev s_Opener_init : Stmt := inClass (top 15) 0
abbrev s_Opener_count_term : Stmt := inClass (top 15) 1
abbrev s_Opener_new_slot : Stmt := inClass (top 15) 2
abbrev s_Opener_new_draw : Stmt := inClass (top 15) 3
abbrev s_Opener_open_term : Stmt := inClass (top 15) 4
abbrev s_Opener_open_call : Stmt := inClass (top 15) 5
abbrev s_Opener_open_let : Stmt := inClass (top 15) 6
abbrev s_Opener_open_row : Stmt := inClass (top 15) 7
abbrev s_Hand_init : Stmt := inClass (top 19) 0
abbrev s_Hand_index_at : Stmt := inClass (top 19) 1
abbrev s_Hand_take : Stmt := inClass (top 19) 2
abbrev s_Numbered_init : Stmt := inClass (top 31) 0
abbrev s_Numbered_index_at : Stmt := inClass (top 31) 1
abbrev s_parts_of : Stmt := top 9
abbrev s_check_term : Stmt := top 10
abbrev s_check_names : Stmt := top 11
abbrev s_check_defs : Stmt := top 12
abbrev s_draw_of : Stmt := top 13
abbrev s_with_parts : Stmt := top 14
abbrev s_opened : Stmt := top 16
abbrev s_counted : Stmt := top 20
abbrev s_figured_op : Stmt := top 21
abbrev s_field_of : Stmt := top 22
abbrev s_figured : Stmt := top 23
abbrev s_told : Stmt := top 24
abbrev s_run : Stmt := top 25
abbrev s_weights_of : Stmt := top 27
abbrev s_bases : Stmt := top 29
abbrev s_index_above : Stmt := top 30
abbrev s_law_mix : Stmt := top 33
abbrev s_law_pick : Stmt := top 34
abbrev s_law_term : Stmt := top 35
abbrev s_law_draws : Stmt := top 36
abbrev s_law_number : Stmt := top 37
abbrev s_law_alike : Stmt := top 38
abbrev s_law_list : Stmt := top 39
abbrev s_law_pairs : Stmt := top 40
abbrev s_law : Stmt := top 41
theorem sc_Opened_init : FnScope ["self", "steps", "draws", "slots"] ["self", "steps", "draws", "slots"] (defScope s_Opened_init) := ⟨rfl, rfl, rfl, by decide +kernel, rfl, by decide +kernel, by decide +kernel⟩
theorem sc_Opener_init : FnScope ["self"] ["self"] (defScope s_Opener_init) := ⟨rfl, rfl, rfl, by decide +kernel, rfl, by decide +kernel, by decide +kernel⟩
theorem sc_Opener_count_term : FnScope ["self"] ["self"] (defScope s_Opener_count_term) := ⟨rfl, rfl, rfl, by decide +kernel, rfl, by decide +kernel, by decide +kernel⟩
theorem sc_Opener_new_slot : FnScope ["self"] ["self"] (defScope s_Opener_new_slot) := ⟨rfl, rfl, rfl, by decide +kernel, rfl, by decide +kernel, by decide +kernel⟩
theorem sc_Opener_new_draw : FnScope ["self", "draw"] ["self", "draw"] (defScope s_Opener_new_draw) := ⟨rfl, rfl, rfl, by decide +kernel, rfl, by decide +kernel, by decide +kernel⟩
theorem sc_Opener_open_term : FnScope ["self", "term", "names", "kind", "parts", "part"] ["self", "term", "names"] (defScope s_Opener_open_term) := ⟨rfl, rfl, rfl, by decide +kernel, rfl, by decide +kernel, by decide +kernel⟩
theorem sc_Opener_open_let : FnScope ["self", "name", "term", "inner"] ["self", "name", "term"] (defScope s_Opener_open_let) := ⟨rfl, rfl, rfl, by decide +kernel, rfl, by decide +kernel, by decide +kernel⟩
theorem sc_Opener_open_row : FnScope ["self", "row", "kind", "turn", "inner"] ["self", "row"] (defScope s_Opener_open_row) := ⟨rfl, rfl, rfl, by decide +kernel, rfl, by decide +kernel, by decide +kernel⟩
theorem sc_Hand_init : FnScope ["self"] ["self"] (defScope s_Hand_init) := ⟨rfl, rfl, rfl, by decide +kernel, rfl, by decide +kernel, by decide +kernel⟩
theorem sc_Hand_take : FnScope ["self", "site", "draw", "index"] ["self", "site", "draw"] (defScope s_Hand_take) := ⟨rfl, rfl, rfl, by decide +kernel, rfl, by decide +kernel, by decide +kernel⟩
theorem sc_Numbered_init : FnScope ["self", "numbers"] ["self", "numbers"] (defScope s_Numbered_init) := ⟨rfl, rfl, rfl, by decide +kernel, rfl, by decide +kernel, by decide +kernel⟩
theorem sc_Numbered_index_at : FnScope ["self", "site", "draw"] ["self", "site", "draw"] (defScope s_Numbered_index_at) := ⟨rfl, rfl, rfl, by decide +kernel, rfl, by decide +kernel, by decide +kernel⟩
theorem sc_parts_of : FnScope ["term", "kind"] ["term"] (defScope s_parts_of) := ⟨rfl, rfl, rfl, by decide +kernel, rfl, by decide +kernel, by decide +kernel⟩
theorem sc_check_term : FnScope ["row", "term", "names", "helpers", "kind", "part"] ["row", "term", "names", "helpers"] (defScope s_check_term) := ⟨rfl, rfl, rfl, by decide +kernel, rfl, by decide +kernel, by decide +kernel⟩
theorem sc_check_names : FnScope ["program", "names", "helpers", "number", "row", "kind"] ["program"] (defScope s_check_names) := ⟨rfl, rfl, rfl, by decide +kernel, rfl, by decide +kernel, by decide +kernel⟩
theorem sc_check_defs : FnScope ["program"] ["program"] (defScope s_check_defs) := ⟨rfl, rfl, rfl, by decide +kernel, rfl, by decide +kernel, by decide +kernel⟩
theorem sc_draw_of : FnScope ["term"] ["term"] (defScope s_draw_of) := ⟨rfl, rfl, rfl, by decide +kernel, rfl, by decide +kernel, by decide +kernel⟩
theorem sc_with_parts : FnScope ["term", "parts", "kind"] ["term", "parts"] (defScope s_with_parts) := ⟨rfl, rfl, rfl, by decide +kernel, rfl, by decide +kernel, by decide +kernel⟩
theorem sc_opened : FnScope ["program", "opener", "row"] ["program"] (defScope s_opened) := ⟨rfl, rfl, rfl, by decide +kernel, rfl, by decide +kernel, by decide +kernel⟩
theorem sc_counted : FnScope ["outcome"] ["outcome"] (defScope s_counted) := ⟨rfl, rfl, rfl, by decide +kernel, rfl, by decide +kernel, by decide +kernel⟩
theorem sc_figured_op : FnScope ["sign", "one", "other", "first", "second"] ["sign", "one", "other"] (defScope s_figured_op) := ⟨rfl, rfl, rfl, by decide +kernel, rfl, by decide +kernel, by decide +kernel⟩
theorem sc_figured : FnScope ["term", "values", "kind"] ["term", "values"] (defScope s_figured) := ⟨rfl, rfl, rfl, by decide +kernel, rfl, by decide +kernel, by decide +kernel⟩
theorem sc_told : FnScope ["term", "held", "draws", "hand", "kind", "draw", "way", "inner_held", "values", "part"] ["term", "held", "draws", "hand"] (defScope s_told) := ⟨rfl, rfl, rfl, by decide +kernel, rfl, by decide +kernel, by decide +kernel⟩
theorem sc_run : FnScope ["one", "hand", "held", "value", "slot", "term"] ["one", "hand"] (defScope s_run) := ⟨rfl, rfl, rfl, by decide +kernel, rfl, by decide +kernel, by decide +kernel⟩
theorem sc_weights_of : FnScope ["draw"] ["draw"] (defScope s_weights_of) := ⟨rfl, rfl, rfl, by decide +kernel, rfl, by decide +kernel, by decide +kernel⟩
theorem sc_bases : FnScope ["one"] ["one"] (defScope s_bases) := ⟨rfl, rfl, rfl, by decide +kernel, rfl, by decide +kernel, by decide +kernel⟩
theorem sc_index_above : FnScope ["number", "counts", "whole", "index", "each"] ["number", "counts"] (defScope s_index_above) := ⟨rfl, rfl, rfl, by decide +kernel, rfl, by decide +kernel, by decide +kernel⟩
theorem sc_law_mix : FnScope ["_law_cell", "_law_k", "_law_some"] ["_law_cell", "_law_k"] (defScope s_law_mix) := ⟨rfl, rfl, rfl, by decide +kernel, rfl, by decide +kernel, by decide +kernel⟩
theorem sc_law_pick : FnScope ["_law_cell", "_law_pairs_here", "_law_k"] ["_law_cell"] (defScope s_law_pick) := ⟨rfl, rfl, rfl, by decide +kernel, rfl, by decide +kernel, by decide +kernel⟩
theorem sc_law_term : FnScope ["_law_cell"] ["_law_cell"] (defScope s_law_term) := ⟨rfl, rfl, rfl, by decide +kernel, rfl, by decide +kernel, by decide +kernel⟩
theorem sc_law_draws : FnScope ["_law_term_here"] ["_law_term_here"] (defScope s_law_draws) := ⟨rfl, rfl, rfl, by decide +kernel, rfl, by decide +kernel, by decide +kernel⟩
theorem sc_law_number : FnScope ["_law_draw", "_law_cell", "_law_index", "_law_ahead"] ["_law_draw", "_law_cell"] (defScope s_law_number) := ⟨rfl, rfl, rfl, by decide +kernel, rfl, by decide +kernel, by decide +kernel⟩
theorem sc_law_alike : FnScope ["_law_found", "_law_due"] ["_law_found", "_law_due"] (defScope s_law_alike) := ⟨rfl, rfl, rfl, by decide +kernel, rfl, by decide +kernel, by decide +kernel⟩
theorem sc_law_list : FnScope ["_law_found", "_law_due", "_law_k"] ["_law_found", "_law_due"] (defScope s_law_list) := ⟨rfl, rfl, rfl, by decide +kernel, rfl, by decide +kernel, by decide +kernel⟩
theorem sc_law_pairs : FnScope ["_law_found", "_law_due", "_law_k"] ["_law_found", "_law_due"] (defScope s_law_pairs) := ⟨rfl, rfl, rfl, by decide +kernel, rfl, by decide +kernel, by decide +kernel⟩
theorem sc_law : FnScope ["_law_script", "_law_cells", "_law_terms", "_law_one", "_law_draws_here", "_law_term_here", "_law_due", "_law_numbers", "_law_handed", "_law_hand", "_law_asked", "_law_step", "_law_k", "_law_site", "_law_values", "_law_last"] ["_law_script"] (defScope s_law) := ⟨rfl, rfl, rfl, by decide +kernel, rfl, by decide +kernel, by decide +kernel⟩
structure Txt (K : PySem.W.Frag) (mg : Str → Option Value) (C : Addr) (uS uD : Value) : Prop where
  cl : Cls K C
  n1 : NoAttr K C "helpers"
  n2 : NoAttr K C "names"
  n3 : NoAttr K C "steps"
  n4 : NoAttr K C "draws"
  n5 : NoAttr K C "slots"
  n6 : NoAttr K C "terms"
  MOST_SIZE : mg "MOST_SIZE" = some uS
  size : RelV (.int 600) uS
  MOST_DRAWS : mg "MOST_DRAWS" = some uD
  draws : RelV (.int 60) uD
  len_ : mg "len" = none
structure OpS where
  hp : Addr
  nm : Addr
  st : Addr
  dr : Addr
  slots : Int
  terms : Int
def OpS.fs (o : OpS) : List (Str × V) := [("helpers", .ref o.hp), ("names", .ref o.nm), ("steps", .ref o.st), ("draws", .ref o.dr), ("slots", .int o.slots), ("terms", .int o.terms)]
def sp_init (C : Addr) : Sp := fun vs H Q _ => ∃ p dx, vs = [.ref p] ∧ H p = some (.ins C dx []) ∧ ∀ (o : OpS) H', BtA p H H' → H' p = some (.ins C dx o.fs) → o.slots = 0 → o.terms = 0 → H' o.hp = some (.dK []) → H' o.nm = some (.dK []) → H' o.st = some (.lst []) → H' o.dr = some (.lst []) →
  (∀ a ∈ [o.hp, o.nm, o.st, o.dr], H a = none) → o.hp ≠ o.nm → o.st ≠ o.dr → Q .non H'
def sp_count (C : Addr) : Sp := fun vs H Q _ => ∃ p dx, ∃ o : OpS, vs = [.ref p] ∧ H p = some (.ins C dx o.fs) ∧ o.terms < 600 ∧ Q .non (upd H p (.ins C dx { o with terms := o.terms + 1 }.fs))
def sp_slot (C : Addr) : Sp := fun vs H Q _ => ∃ p dx, ∃ o : OpS, vs = [.ref p] ∧ H p = some (.ins C dx o.fs) ∧ Q (.int o.slots) (upd H p (.ins C dx { o with slots := o.slots + 1 }.fs))
def sp_draw (C : Addr) : Sp := fun vs H Q _ => ∃ p dx d xs, ∃ o : OpS, vs = [.ref p, d] ∧ H p = some (.ins C dx o.fs) ∧ H o.dr = some (.lst xs) ∧ xs.length < 60 ∧ Q (.int (xs.length : Nat)) (upd H o.dr (.lst (xs ++ [d])))
section
variable {P : Program} {w : World} {K : PySem.W.Frag} {mg : Str → Option Value} {base : Heap} {C : Addr} {uS uD : Value}
theorem ok_count {f : Addr} {fd : FuncData} (F : Fun K "count_term" "Opener.count_term" s_Opener_count_term f fd) (T : Txt K mg C uS uD) : FnOk P w K mg base CX0 1 f fd ["self"] (sp_count C) := by
  refine F.ok sc_Opener_count_term (fun vs H Q E h => ?_) (fun cdv Ar outer s H vs Q E hr h => ?_)
  · obtain ⟨p, dx, o, rfl, _⟩ := h
    rfl
  · obtain ⟨p, dx, o, rfl, hp, hl, k⟩ := h
    refine ⟨_, (pss_cons (ps_fldaug (pv 0) pe_int in_add)
      (pss_one (ps_if (pt_cmpR op_gt (pe_fld (pv 0) rfl) (pe_glob rfl T.MOST_SIZE (v := .int 600) T.size) (nomark _)) pss_no pss_nil))), ?_⟩
    refine ⟨_, rfl, p, C, dx, o.fs, .int o.terms, rfl, hp, T.cl, T.n6, rfl, _, _, rfl, rfl, dx, o.fs, hp, (by show 6 < 1000; decide), ?_⟩
    refine ⟨_, rfl, p, C, dx, _, .int (o.terms + 1), rfl, upd_same, T.cl, T.n6, rfl, _, _, rfl, rfl, _, rfl, iteBB (fun hc => ?_) (fun _ => k)⟩
    have := of_decide_eq_true hc
    omega
theorem ok_slot {f : Addr} {fd : FuncData} (F : Fun K "new_slot" "Opener.new_slot" s_Opener_new_slot f fd) (T : Txt K mg C uS uD) : FnOk P w K mg base CX0 1 f fd ["self"] (sp_slot C) := by
  refine F.ok sc_Opener_new_slot (fun vs H Q E h => ?_) (fun cdv Ar outer s H vs Q E hr h => ?_)
  · obtain ⟨p, dx, o, rfl, _⟩ := h
    rfl
  · obtain ⟨p, dx, o, rfl, hp, k⟩ := h
    refine ⟨_, (pss_cons (ps_fldaug (pv 0) pe_int in_add)
      (pss_one (ps_ret (pe_op op_sub (pe_fld (pv 0) rfl) pe_int)))), ?_⟩
    refine ⟨_, rfl, p, C, dx, o.fs, .int o.slots, rfl, hp, T.cl, T.n5, rfl, _, _, rfl, rfl, dx, o.fs, hp, (by show 6 < 1000; decide), ?_⟩
    refine ⟨_, rfl, p, C, dx, _, .int (o.slots + 1), rfl, upd_same, T.cl, T.n5, rfl, _, _, rfl, rfl, ?_⟩
    dsimp only
    rw [show o.slots + 1 - 1 = o.slots by omega]
    exact k
theorem ok_draw {f : Addr} {fd : FuncData} (F : Fun K "new_draw" "Opener.new_draw" s_Opener_new_draw f fd) (T : Txt K mg C uS uD) : FnOk P w K mg base CX0 1 f fd ["self", "draw"] (sp_draw C) := by
  refine F.ok sc_Opener_new_draw (fun vs H Q E h => ?_) (fun cdv Ar outer s H vs Q E hr h => ?_)
  · obtain ⟨p, dx, d, xs, o, rfl, _⟩ := h
    rfl
  · obtain ⟨p, dx, d, xs, o, rfl, hp, hd, hl, k⟩ := h
    refine ⟨_, (pss_cons (ps_expr (pe_bm PySem.F.plainAttrs_list PySem.F.slot_list_append PySem.F.type_list_append mt_append (pe_fld (pv 0) rfl) (pa_cons (pv 1) pa_nil)))
      (pss_cons (ps_if (pt_cmpR op_gt (pe_callB call_len_seq (by rfl) T.len_ Boot.«len» (pa_cons (pe_fld (pv 0) rfl) pa_nil)) (pe_glob rfl T.MOST_DRAWS (v := .int 60) T.draws) (nomark _)) pss_no pss_nil)
      (pss_one (ps_ret (pe_op op_sub (pe_callB call_len_seq (by rfl) T.len_ Boot.«len» (pa_cons (pe_fld (pv 0) rfl) pa_nil)) pe_int))))), ?_⟩
    have npd : p ≠ o.dr := by
      intro z
      rw [← z, hp] at hd
      cases hd
    refine ⟨_, rfl, p, C, dx, o.fs, .ref o.dr, rfl, hp, T.cl, T.n4, rfl, .inl ⟨rfl, _, SqL.of hd⟩, _, rfl, o.dr, xs, _, rfl, rfl, hd, Nat.lt_of_lt_of_le hl (by decide), ?_⟩
    have hp2 : (upd H o.dr (.lst (xs ++ [d]))) p = some (.ins C dx o.fs) := by rw [upd_ne npd]; exact hp
    refine ⟨_, rfl, p, C, dx, o.fs, .ref o.dr, rfl, hp2, T.cl, T.n4, rfl, o.dr, _, rfl, .inl (SqL.of upd_same), _, _, rfl, rfl, _, rfl, iteBB (fun hc => ?_) (fun _ => ?_)⟩
    · have := of_decide_eq_true hc
      rw [List.length_append] at this
      simp only [List.length_cons, List.length_nil] at this
      omega
    refine ⟨_, rfl, p, C, dx, o.fs, .ref o.dr, rfl, hp2, T.cl, T.n4, rfl, o.dr, _, rfl, .inl (SqL.of upd_same), _, _, rfl, rfl, ?_⟩
    dsimp only
    rw [show ((xs ++ [d]).length : Int) - 1 = (xs.length : Nat) by rw [List.length_append]; simp]
    exact k
end
end K70
namespace K70
open PySem L2 FW PyProof.Rows
structure Bl (mg : Str → Option Value) : Prop where
  list_ : mg "list" = none
  tuple_ : mg "tuple" = none
  zip_ : mg "zip" = none
abbrev pI (p : Int × Int) : Dt := .tup [.int p.1, .int p.2]
abbrev prS (f : Str × Dt) : Dt × Dt := (.str f.1, f.2)
inductive Pt : Dt → List Dt → Prop
  | num (x : Dt) : Pt (.tup [.str "num", x]) []
  | name (x : Dt) : Pt (.tup [.str "name", x]) []
  | slot (x : Dt) : Pt (.tup [.str "slot", x]) []
  | draw (x : Dt) : Pt (.tup [.str "draw", x]) []
  | pick (x : Dt) : Pt (.tup [.str "pick", x]) []
  | flip (x y : Dt) : Pt (.tup [.str "flip", x, y]) []
  | ite (a b c : Dt) : Pt (.tup [.str "if", a, b, c]) [a, b, c]
  | rest (d x : Dt) : Pt (.tup [.str "rest", d, x]) [d]
  | field (d x : Dt) : Pt (.tup [.str "field", d, x]) [d]
  | op (x a b : Dt) : Pt (.tup [.str "op", x, a, b]) [a, b]
  | bind (x a b : Dt) : Pt (.tup [.str "bind", x, a, b]) [a, b]
  | record (fs : List (Dt × Dt)) (h : fs.length ≤ 6) : Pt (.tup [.str "record", .tup (fs.map prD)]) (fs.map (·.2))
inductive Wp : Dt → List Dt → Dt → Prop
  | ite (a b c x y z : Dt) : Wp (.tup [.str "if", a, b, c]) [x, y, z] (.tup [.str "if", x, y, z])
  | op (s : Str) (a b x y : Dt) : Wp (.tup [.str "op", .str s, a, b]) [x, y] (.tup [.str "op", .str s, x, y])
  | rest (a n x : Dt) : Wp (.tup [.str "rest", a, n]) [x] (.tup [.str "rest", x, n])
  | field (a n x : Dt) : Wp (.tup [.str "field", a, n]) [x] (.tup [.str "field", x, n])
  | record (fs : List (Str × Dt)) (xs : List Dt) (hl : xs.length = fs.length) (h6 : fs.length ≤ 6) : Wp (.tup [.str "record", .tup ((fs.map prS).map prD)]) xs (.tup [.str "record", .tup ((((fs.map (·.1)).zip xs).map prS).map prD)])
def lstQ (K : PySem.W.Frag) (H : Hp) (Q : VK) (ds : List Dt) : Prop := ∀ D H', Same H H' → H D = none → LsM K H' D ds → Q (.ref D) H'
def datQ (K : PySem.W.Frag) (H : Hp) (Q : VK) (d : Dt) : Prop := ∀ v H', Same H H' → DatAt K H' v d → Q v H'
def sp_parts (K : PySem.W.Frag) : Sp := fun vs H Q _ => ∃ v d ds, vs = [v] ∧ DatAt K H v d ∧ Pt d ds ∧ lstQ K H Q ds
def sp_with (K : PySem.W.Frag) : Sp := fun vs H Q _ => ∃ v l t xs t', vs = [v, .ref l] ∧ DatAt K H v t ∧ LsM K H l xs ∧ Wp t xs t' ∧ datQ K H Q t'
inductive Dr : Dt → List (Int × Int) → Prop
  | flip (a b : Int) : Dr (.tup [.str "flip", .int a, .int b]) [(0, b - a), (1, a)]
  | pick (ps : List (Int × Int)) : Dr (.tup [.str "pick", .tup (ps.map pI)]) ps
def sp_draw_of (K : PySem.W.Frag) : Sp := fun vs H Q _ => ∃ v t ps, vs = [v] ∧ DatAt K H v t ∧ Dr t ps ∧ lstQ K H Q (ps.map pI)
section
variable {P : Program} {w : World} {K : PySem.W.Frag} {mg : Str → Option Value} {base : Heap}
theorem t3 : 3 ≤ sizeLine := by decide
theorem t4 : 4 ≤ sizeLine := by decide
theorem snoc_ok {H1 H6 : Hp} {D : Addr} {ys : List V} {ds : List Dt} {v : V} {d : Dt} (hD : H1 D = none) (S6 : Same H1 H6) (e6 : H6 D = some (.lst ys)) (hy : DatsAt K H6 ys ds) (hv : DatAt K H6 v d) :
    Same H1 (upd H6 D (.lst (ys ++ [v]))) ∧ (upd H6 D (.lst (ys ++ [v]))) D = some (.lst (ys ++ [v])) ∧ DatsAt K (upd H6 D (.lst (ys ++ [v]))) (ys ++ [v]) (ds ++ [d]) := by
  refine ⟨fun b o e => ?_, upd_same, (hy.append (.cons hv .nil)).updL e6⟩
  rw [upd_ne (ne_of_none e hD)]
  exact S6 _ _ e
theorem dats3 {H : Hp} {vs : List V} {d e f : Dt} (h : DatsAt K H vs [d, e, f]) : ∃ x y z, vs = [x, y, z] ∧ DatAt K H x d ∧ DatAt K H y e ∧ DatAt K H z f := by
  obtain ⟨x, r, rfl, h1, h⟩ := h.un
  obtain ⟨y, z, rfl, h2, h3⟩ := h.two
  exact ⟨x, y, z, rfl, h1, h2, h3⟩
theorem dats4 {H : Hp} {vs : List V} {d e f g : Dt} (h : DatsAt K H vs [d, e, f, g]) : ∃ x y z u, vs = [x, y, z, u] ∧ DatAt K H x d ∧ DatAt K H y e ∧ DatAt K H z f ∧ DatAt K H u g := by
  obtain ⟨x, r, rfl, h1, h⟩ := h.un
  obtain ⟨y, z, u, rfl, h2, h3, h4⟩ := dats3 h
  exact ⟨x, y, z, u, rfl, h1, h2, h3, h4⟩
theorem ok_parts_of {f : Addr} {fd : FuncData} (A : FnAt K mg "parts_of" s_parts_of ["term"] f fd) (T : Bl mg) : FnOk P w K mg base CX0 1 f fd ["term"] (sp_parts K) := by
  refine A.F.ok sc_parts_of (fun vs H Q E h => ?_) (fun cdv Ar outer s H vs Q E hr h => ?_)
  · obtain ⟨v, d, ds, rfl, _⟩ := h
    rfl
  · obtain ⟨v, d, ds, rfl, hv, hp, k⟩ := h
    refine ⟨_, (pss_cons (ps_set (i := 1) sc_parts_of.nd rfl (Or.inl rfl) (pe_ix ix_tup (pv 0) pe_int (fun _ _ => rfl)))
      (pss_cons (ps_if (pt_cmpR op_eq (pv 1) pe_str (nomark _)) (pss_one (ps_ret (pe_lst (pa_cons (pe_ix ix_tup (pv 0) pe_int (fun _ _ => rfl)) (pa_cons (pe_ix ix_tup (pv 0) pe_int (fun _ _ => rfl)) (pa_cons (pe_ix ix_tup (pv 0) pe_int (fun _ _ => rfl)) pa_nil)))))) pss_nil)
      (pss_cons (ps_if (pt_cmpR op_in_seq (pv 1) (pe_tup (pa_cons pe_str (pa_cons pe_str pa_nil))) (by rfl)) (pss_one (ps_ret (pe_lst (pa_cons (pe_ix ix_tup (pv 0) pe_int (fun _ _ => rfl)) (pa_cons (pe_ix ix_tup (pv 0) pe_int (fun _ _ => rfl)) pa_nil))))) pss_nil)
      (pss_cons (ps_if (pt_cmpR op_in_seq (pv 1) (pe_tup (pa_cons pe_str (pa_cons pe_str pa_nil))) (by rfl)) (pss_one (ps_ret (pe_lst (pa_cons (pe_ix ix_tup (pv 0) pe_int (fun _ _ => rfl)) pa_nil)))) pss_nil)
      (pss_cons (ps_if (pt_cmpR op_eq (pv 1) pe_str (nomark _)) (pss_one (ps_ret (pe_comp rfl (Nc := ["name", "part"]) (caps0 rfl (by decide +kernel) (by decide +kernel) (by decide +kernel)) (pi_tup (pe_ix ix_tup (pv 0) pe_int (fun _ _ => rfl))) (fun _ _ _ _ => by exact (pg_tupK (K := K) (n := 2) rfl rfl (pgs_cons (pg_name (i := 0) (show List.Nodup (["name", "part"] : List Str) by decide +kernel) rfl (Or.inl rfl)) (pgs_cons (pg_name (i := 1) (show List.Nodup (["name", "part"] : List Str) by decide +kernel) rfl (Or.inl rfl)) pgs_nil)))) (fun _ _ _ _ => pts_nil) (fun _ _ _ _ => (pv 1))))) pss_nil)
      (pss_cons (ps_if (pt_cmpR op_eq (pv 1) pe_str (nomark _)) (pss_one (ps_ret (pe_callTy call_list_of (by rfl) T.list_ Boot.«list» (pa_cons (pe_ix ix_tup (pv 0) pe_int (fun _ _ => rfl)) pa_nil)))) pss_nil)
      (pss_one (ps_ret (pe_lst pa_nil))))))))), ?_⟩
    cases hp with
    | num x =>
      obtain ⟨r, vs, rfl, sv, dv⟩ := hv.un
      obtain ⟨v0, v1, rfl, h0, h1⟩ := dv.two
      rw [h0.str_eq] at sv
      refine ⟨_, rfl, r, _, 0, .str "num", rfl, rfl, sv, rfl, ?_⟩
      refine ⟨_, rfl, rfl, _, rfl, iteBB (fun hc => absurd hc (by decide +kernel)) (fun _ => ?_)⟩
      refine ⟨_, rfl, two_le, fun t1 ht1 => ⟨t1, _, rfl, .inr (SqT.of upd_same), rfl, rfl, _, rfl, iteBB (fun hc => absurd hc (by decide +kernel)) (fun _ => ?_)⟩⟩
      refine ⟨_, rfl, two_le, fun t2 ht2 => ⟨t2, _, rfl, .inr (SqT.of upd_same), rfl, rfl, _, rfl, iteBB (fun hc => absurd hc (by decide +kernel)) (fun _ => ?_)⟩⟩
      refine ⟨_, rfl, rfl, _, rfl, iteBB (fun hc => absurd hc (by decide +kernel)) (fun _ => ?_)⟩
      refine ⟨_, rfl, rfl, _, rfl, iteBB (fun hc => absurd hc (by decide +kernel)) (fun _ => ?_)⟩
      have S2 := (Same.upd (o := .tup [.str "op", .str "bind"]) ht1).updR (o := .tup [.str "rest", .str "field"]) ht2
      exact ⟨Nat.zero_le _, fun l hl => k l _ (S2.updR hl) (S2.free hl) ⟨[], upd_same, .nil⟩⟩
    | name x =>
      obtain ⟨r, vs, rfl, sv, dv⟩ := hv.un
      obtain ⟨v0, v1, rfl, h0, h1⟩ := dv.two
      rw [h0.str_eq] at sv
      refine ⟨_, rfl, r, _, 0, .str "name", rfl, rfl, sv, rfl, ?_⟩
      refine ⟨_, rfl, rfl, _, rfl, iteBB (fun hc => absurd hc (by decide +kernel)) (fun _ => ?_)⟩
      refine ⟨_, rfl, two_le, fun t1 ht1 => ⟨t1, _, rfl, .inr (SqT.of upd_same), rfl, rfl, _, rfl, iteBB (fun hc => absurd hc (by decide +kernel)) (fun _ => ?_)⟩⟩
      refine ⟨_, rfl, two_le, fun t2 ht2 => ⟨t2, _, rfl, .inr (SqT.of upd_same), rfl, rfl, _, rfl, iteBB (fun hc => absurd hc (by decide +kernel)) (fun _ => ?_)⟩⟩
      refine ⟨_, rfl, rfl, _, rfl, iteBB (fun hc => absurd hc (by decide +kernel)) (fun _ => ?_)⟩
      refine ⟨_, rfl, rfl, _, rfl, iteBB (fun hc => absurd hc (by decide +kernel)) (fun _ => ?_)⟩
      have S2 := (Same.upd (o := .tup [.str "op", .str "bind"]) ht1).updR (o := .tup [.str "rest", .str "field"]) ht2
      exact ⟨Nat.zero_le _, fun l hl => k l _ (S2.updR hl) (S2.free hl) ⟨[], upd_same, .nil⟩⟩
    | slot x =>
      obtain ⟨r, vs, rfl, sv, dv⟩ := hv.un
      obtain ⟨v0, v1, rfl, h0, h1⟩ := dv.two
      rw [h0.str_eq] at sv
      refine ⟨_, rfl, r, _, 0, .str "slot", rfl, rfl, sv, rfl, ?_⟩
      refine ⟨_, rfl, rfl, _, rfl, iteBB (fun hc => absurd hc (by decide +kernel)) (fun _ => ?_)⟩
      refine ⟨_, rfl, two_le, fun t1 ht1 => ⟨t1, _, rfl, .inr (SqT.of upd_same), rfl, rfl, _, rfl, iteBB (fun hc => absurd hc (by decide +kernel)) (fun _ => ?_)⟩⟩
      refine ⟨_, rfl, two_le, fun t2 ht2 => ⟨t2, _, rfl, .inr (SqT.of upd_same), rfl, rfl, _, rfl, iteBB (fun hc => absurd hc (by decide +kernel)) (fun _ => ?_)⟩⟩
      refine ⟨_, rfl, rfl, _, rfl, iteBB (fun hc => absurd hc (by decide +kernel)) (fun _ => ?_)⟩
      refine ⟨_, rfl, rfl, _, rfl, iteBB (fun hc => absurd hc (by decide +kernel)) (fun _ => ?_)⟩
      have S2 := (Same.upd (o := .tup [.str "op", .str "bind"]) ht1).updR (o := .tup [.str "rest", .str "field"]) ht2
      exact ⟨Nat.zero_le _, fun l hl => k l _ (S2.updR hl) (S2.free hl) ⟨[], upd_same, .nil⟩⟩
    | draw x =>
      obtain ⟨r, vs, rfl, sv, dv⟩ := hv.un
      obtain ⟨v0, v1, rfl, h0, h1⟩ := dv.two
      rw [h0.str_eq] at sv
      refine ⟨_, rfl, r, _, 0, .str "draw", rfl, rfl, sv, rfl, ?_⟩
      refine ⟨_, rfl, rfl, _, rfl, iteBB (fun hc => absurd hc (by decide +kernel)) (fun _ => ?_)⟩
      refine ⟨_, rfl, two_le, fun t1 ht1 => ⟨t1, _, rfl, .inr (SqT.of upd_same), rfl, rfl, _, rfl, iteBB (fun hc => absurd hc (by decide +kernel)) (fun _ => ?_)⟩⟩
      refine ⟨_, rfl, two_le, fun t2 ht2 => ⟨t2, _, rfl, .inr (SqT.of upd_same), rfl, rfl, _, rfl, iteBB (fun hc => absurd hc (by decide +kernel)) (fun _ => ?_)⟩⟩
      refine ⟨_, rfl, rfl, _, rfl, iteBB (fun hc => absurd hc (by decide +kernel)) (fun _ => ?_)⟩
      refine ⟨_, rfl, rfl, _, rfl, iteBB (fun hc => absurd hc (by decide +kernel)) (fun _ => ?_)⟩
      have S2 := (Same.upd (o := .tup [.str "op", .str "bind"]) ht1).updR (o := .tup [.str "rest", .str "field"]) ht2
      exact ⟨Nat.zero_le _, fun l hl => k l _ (S2.updR hl) (S2.free hl) ⟨[], upd_same, .nil⟩⟩
    | pick x =>
      obtain ⟨r, vs, rfl, sv, dv⟩ := hv.un
      obtain ⟨v0, v1, rfl, h0, h1⟩ := dv.two
      rw [h0.str_eq] at sv
      refine ⟨_, rfl, r, _, 0, .str "pick", rfl, rfl, sv, rfl, ?_⟩
      refine ⟨_, rfl, rfl, _, rfl, iteBB (fun hc => absurd hc (by decide +kernel)) (fun _ => ?_)⟩
      refine ⟨_, rfl, two_le, fun t1 ht1 => ⟨t1, _, rfl, .inr (SqT.of upd_same), rfl, rfl, _, rfl, iteBB (fun hc => absurd hc (by decide +kernel)) (fun _ => ?_)⟩⟩
      refine ⟨_, rfl, two_le, fun t2 ht2 => ⟨t2, _, rfl, .inr (SqT.of upd_same), rfl, rfl, _, rfl, iteBB (fun hc => absurd hc (by decide +kernel)) (fun _ => ?_)⟩⟩
      refine ⟨_, rfl, rfl, _, rfl, iteBB (fun hc => absurd hc (by decide +kernel)) (fun _ => ?_)⟩
      refine ⟨_, rfl, rfl, _, rfl, iteBB (fun hc => absurd hc (by decide +kernel)) (fun _ => ?_)⟩
      have S2 := (Same.upd (o := .tup [.str "op", .str "bind"]) ht1).updR (o := .tup [.str "rest", .str "field"]) ht2
      exact ⟨Nat.zero_le _, fun l hl => k l _ (S2.updR hl) (S2.free hl) ⟨[], upd_same, .nil⟩⟩
    | flip x y =>
      obtain ⟨r, vs, rfl, sv, dv⟩ := hv.un
      obtain ⟨v0, v1, v2, rfl, h0, h1, h2⟩ := dats3 dv
      rw [h0.str_eq] at sv
      refine ⟨_, rfl, r, _, 0, .str "flip", rfl, rfl, sv, rfl, ?_⟩
      refine ⟨_, rfl, rfl, _, rfl, iteBB (fun hc => absurd hc (by decide +kernel)) (fun _ => ?_)⟩
      refine ⟨_, rfl, two_le, fun t1 ht1 => ⟨t1, _, rfl, .inr (SqT.of upd_same), rfl, rfl, _, rfl, iteBB (fun hc => absurd hc (by decide +kernel)) (fun _ => ?_)⟩⟩
      refine ⟨_, rfl, two_le, fun t2 ht2 => ⟨t2, _, rfl, .inr (SqT.of upd_same), rfl, rfl, _, rfl, iteBB (fun hc => absurd hc (by decide +kernel)) (fun _ => ?_)⟩⟩
      refine ⟨_, rfl, rfl, _, rfl, iteBB (fun hc => absurd hc (by decide +kernel)) (fun _ => ?_)⟩
      refine ⟨_, rfl, rfl, _, rfl, iteBB (fun hc => absurd hc (by decide +kernel)) (fun _ => ?_)⟩
      have S2 := (Same.upd (o := .tup [.str "op", .str "bind"]) ht1).updR (o := .tup [.str "rest", .str "field"]) ht2
      exact ⟨Nat.zero_le _, fun l hl => k l _ (S2.updR hl) (S2.free hl) ⟨[], upd_same, .nil⟩⟩
    | ite a b c =>
      obtain ⟨r, vs, rfl, sv, dv⟩ := hv.un
      obtain ⟨v0, v1, v2, v3, rfl, h0, h1, h2, h3⟩ := dats4 dv
      rw [h0.str_eq] at sv
      refine ⟨_, rfl, r, _, 0, .str "if", rfl, rfl, sv, rfl, ?_⟩
      refine ⟨_, rfl, rfl, _, rfl, iteBB (fun _ => ?_) (fun hc => absurd hc (by decide +kernel))⟩
      refine ⟨_, rfl, r, _, 1, v1, rfl, rfl, sv, rfl, _, rfl, r, _, 2, v2, rfl, rfl, sv, rfl, _, rfl, r, _, 3, v3, rfl, rfl, sv, rfl, t3, fun l hl => ?_⟩
      exact k l _ (.upd hl) hl ⟨[v1, v2, v3], upd_same, .cons (h1.same (.upd hl)) (.cons (h2.same (.upd hl)) (.cons (h3.same (.upd hl)) .nil))⟩
    | rest d x =>
      obtain ⟨r, vs, rfl, sv, dv⟩ := hv.un
      obtain ⟨v0, v1, v2, rfl, h0, h1, h2⟩ := dats3 dv
      rw [h0.str_eq] at sv
      refine ⟨_, rfl, r, _, 0, .str "rest", rfl, rfl, sv, rfl, ?_⟩
      refine ⟨_, rfl, rfl, _, rfl, iteBB (fun hc => absurd hc (by decide +kernel)) (fun _ => ?_)⟩
      refine ⟨_, rfl, two_le, fun t1 ht1 => ⟨t1, _, rfl, .inr (SqT.of upd_same), rfl, rfl, _, rfl, iteBB (fun hc => absurd hc (by decide +kernel)) (fun _ => ?_)⟩⟩
      refine ⟨_, rfl, two_le, fun t2 ht2 => ⟨t2, _, rfl, .inr (SqT.of upd_same), rfl, rfl, _, rfl, iteBB (fun _ => ?_) (fun hc => absurd hc (by decide +kernel))⟩⟩
      have S2 := (Same.upd (o := .tup [.str "op", .str "bind"]) ht1).updR (o := .tup [.str "rest", .str "field"]) ht2
      refine ⟨_, rfl, r, _, 1, v1, rfl, rfl, S2.tup sv, rfl, (by show 1 ≤ sizeLine; decide), fun l hl => ?_⟩
      exact k l _ (S2.updR hl) (S2.free hl) ⟨[v1], upd_same, .cons (h1.same (S2.updR hl)) .nil⟩
    | field d x =>
      obtain ⟨r, vs, rfl, sv, dv⟩ := hv.un
      obtain ⟨v0, v1, v2, rfl, h0, h1, h2⟩ := dats3 dv
      rw [h0.str_eq] at sv
      refine ⟨_, rfl, r, _, 0, .str "field", rfl, rfl, sv, rfl, ?_⟩
      refine ⟨_, rfl, rfl, _, rfl, iteBB (fun hc => absurd hc (by decide +kernel)) (fun _ => ?_)⟩
      refine ⟨_, rfl, two_le, fun t1 ht1 => ⟨t1, _, rfl, .inr (SqT.of upd_same), rfl, rfl, _, rfl, iteBB (fun hc => absurd hc (by decide +kernel)) (fun _ => ?_)⟩⟩
      refine ⟨_, rfl, two_le, fun t2 ht2 => ⟨t2, _, rfl, .inr (SqT.of upd_same), rfl, rfl, _, rfl, iteBB (fun _ => ?_) (fun hc => absurd hc (by decide +kernel))⟩⟩
      have S2 := (Same.upd (o := .tup [.str "op", .str "bind"]) ht1).updR (o := .tup [.str "rest", .str "field"]) ht2
      refine ⟨_, rfl, r, _, 1, v1, rfl, rfl, S2.tup sv, rfl, (by show 1 ≤ sizeLine; decide), fun l hl => ?_⟩
      exact k l _ (S2.updR hl) (S2.free hl) ⟨[v1], upd_same, .cons (h1.same (S2.updR hl)) .nil⟩
    | op x a b =>
      obtain ⟨r, vs, rfl, sv, dv⟩ := hv.un
      obtain ⟨v0, v1, v2, v3, rfl, h0, h1, h2, h3⟩ := dats4 dv
      rw [h0.str_eq] at sv
      refine ⟨_, rfl, r, _, 0, .str "op", rfl, rfl, sv, rfl, ?_⟩
      refine ⟨_, rfl, rfl, _, rfl, iteBB (fun hc => absurd hc (by decide +kernel)) (fun _ => ?_)⟩
      refine ⟨_, rfl, two_le, fun t1 ht1 => ⟨t1, _, rfl, .inr (SqT.of upd_same), rfl, rfl, _, rfl, iteBB (fun _ => ?_) (fun hc => absurd hc (by decide +kernel))⟩⟩
      have S2 := Same.upd (o := .tup [.str "op", .str "bind"]) ht1
      refine ⟨_, rfl, r, _, 2, v2, rfl, rfl, S2.tup sv, rfl, _, rfl, r, _, 3, v3, rfl, rfl, S2.tup sv, rfl, two_le, fun l hl => ?_⟩
      exact k l _ (S2.updR hl) (S2.free hl) ⟨[v2, v3], upd_same, .cons (h2.same (S2.updR hl)) (.cons (h3.same (S2.updR hl)) .nil)⟩
    | bind x a b =>
      obtain ⟨r, vs, rfl, sv, dv⟩ := hv.un
      obtain ⟨v0, v1, v2, v3, rfl, h0, h1, h2, h3⟩ := dats4 dv
      rw [h0.str_eq] at sv
      refine ⟨_, rfl, r, _, 0, .str "bind", rfl, rfl, sv, rfl, ?_⟩
      refine ⟨_, rfl, rfl, _, rfl, iteBB (fun hc => absurd hc (by decide +kernel)) (fun _ => ?_)⟩
      refine ⟨_, rfl, two_le, fun t1 ht1 => ⟨t1, _, rfl, .inr (SqT.of upd_same), rfl, rfl, _, rfl, iteBB (fun _ => ?_) (fun hc => absurd hc (by decide +kernel))⟩⟩
      have S2 := Same.upd (o := .tup [.str "op", .str "bind"]) ht1
      refine ⟨_, rfl, r, _, 2, v2, rfl, rfl, S2.tup sv, rfl, _, rfl, r, _, 3, v3, rfl, rfl, S2.tup sv, rfl, two_le, fun l hl => ?_⟩
      exact k l _ (S2.updR hl) (S2.free hl) ⟨[v2, v3], upd_same, .cons (h2.same (S2.updR hl)) (.cons (h3.same (S2.updR hl)) .nil)⟩
    | record fs hfs =>
      obtain ⟨r, vs, rfl, sv, dv⟩ := hv.un
      obtain ⟨v0, v1, rfl, h0, h1⟩ := dv.two
      rw [h0.str_eq] at sv
      refine ⟨_, rfl, r, _, 0, .str "record", rfl, rfl, sv, rfl, ?_⟩
      refine ⟨_, rfl, rfl, _, rfl, iteBB (fun hc => absurd hc (by decide +kernel)) (fun _ => ?_)⟩
      refine ⟨_, rfl, two_le, fun t1 ht1 => ⟨t1, _, rfl, .inr (SqT.of upd_same), rfl, rfl, _, rfl, iteBB (fun hc => absurd hc (by decide +kernel)) (fun _ => ?_)⟩⟩
      refine ⟨_, rfl, two_le, fun t2 ht2 => ⟨t2, _, rfl, .inr (SqT.of upd_same), rfl, rfl, _, rfl, iteBB (fun hc => absurd hc (by decide +kernel)) (fun _ => ?_)⟩⟩
      refine ⟨_, rfl, rfl, _, rfl, iteBB (fun _ => ?_) (fun hc => absurd hc (by decide +kernel))⟩
      have S2 := (Same.upd (o := .tup [.str "op", .str "bind"]) ht1).updR (o := .tup [.str "rest", .str "field"]) ht2
      obtain ⟨q, ws, rfl, sq, dq⟩ := h1.un
      have lq := dq.length
      rw [List.length_map] at lq
      generalize upd (upd H t1 (.tup [.str "op", .str "bind"])) t2 (.tup [.str "rest", .str "field"]) = H2 at S2
      refine ⟨_, rfl, r, _, 1, .ref q, rfl, rfl, S2.tup sv, rfl, q, rfl, ⟨_, S2.tup sq⟩, fun D hD => ?_⟩
      refine comp_tup (K := K) (a := q) (D := D) (xs := ws) (fun i σ ys H' => (∃ o1 o2, σ = [o1, o2]) ∧ Same H2 H' ∧ H' D = some (.lst ys) ∧ DatsAt K H' ys ((fs.take i).map (·.2)))
        ⟨⟨none, none, rfl⟩, .upd hD, upd_same, .nil⟩ ?_ ?_ ?_
      · rintro i σ ys H' hi ⟨_, S3, eD, hy⟩
        have := hy.length
        rw [List.length_map, List.length_take] at this
        exact ⟨(S2.trans S3).tup sq, eD, Nat.lt_of_le_of_lt (show ys.length ≤ 6 by omega) (by decide)⟩
      · rintro i x σ ys H' hx ⟨⟨o1, o2, rfl⟩, S3, eD, hy⟩ N hN
        obtain ⟨d, ed, hxd⟩ := (dq.same (S2.trans S3)).get' hx
        obtain ⟨p, ep, rfl⟩ := map_get ed
        obtain ⟨q1, va, vb, rfl, g1, g2, g3⟩ := DatAt.pr hxd
        refine ⟨q1, _, rfl, g1, rfl, _, _, rfl, _, _, rfl, rfl, ?_⟩
        refine iteT (B := True) ?_
        refine ⟨_, rfl, eD, hN _ _ _ ?_⟩
        obtain ⟨w1, w2, w3⟩ := snoc_ok (v := vb) (d := p.2) hD S3 eD hy g3
        refine ⟨⟨_, _, rfl⟩, w1, w2, ?_⟩
        rw [take_snoc' ep, List.map_append]
        exact w3
      · rintro σ ys H' ⟨_, S3, eD, hy⟩
        rw [List.take_of_length_le (by omega)] at hy
        exact k D H' (S2.trans S3) (S2.free hD) ⟨ys, eD, hy⟩
theorem ok_draw_of {f : Addr} {fd : FuncData} (A : FnAt K mg "draw_of" s_draw_of ["term"] f fd) (T : Bl mg) : FnOk P w K mg base CX0 1 f fd ["term"] (sp_draw_of K) := by
  refine A.F.ok sc_draw_of (fun vs H Q E h => ?_) (fun cdv Ar outer s H vs Q E hr h => ?_)
  · obtain ⟨v, t, ps, rfl, _⟩ := h
    rfl
  · obtain ⟨v, t, ps, rfl, hv, hd, k⟩ := h
    refine ⟨_, (pss_cons (ps_if (pt_cmpR op_eq (pe_ix ix_tup (pv 0) pe_int (fun _ _ => rfl)) pe_str (nomark _)) (pss_one (ps_ret (pe_lst (pa_cons (pe_tup (pa_cons pe_int (pa_cons (pe_op op_sub (pe_ix ix_tup (pv 0) pe_int (fun _ _ => rfl)) (pe_ix ix_tup (pv 0) pe_int (fun _ _ => rfl))) pa_nil))) (pa_cons (pe_tup (pa_cons pe_int (pa_cons (pe_ix ix_tup (pv 0) pe_int (fun _ _ => rfl)) pa_nil))) pa_nil))))) pss_nil)
      (pss_one (ps_ret (pe_callTy call_list_of (by rfl) T.list_ Boot.«list» (pa_cons (pe_ix ix_tup (pv 0) pe_int (fun _ _ => rfl)) pa_nil))))), ?_⟩
    cases hd with
    | flip a b =>
      obtain ⟨r, vs, rfl, sv, dv⟩ := hv.un
      obtain ⟨v0, v1, v2, rfl, h0, h1, h2⟩ := dats3 dv
      rw [h0.str_eq, h1.int_eq, h2.int_eq] at sv
      refine ⟨_, rfl, r, _, 0, .str "flip", rfl, rfl, sv, rfl, ?_⟩
      refine ⟨rfl, _, rfl, iteBB (fun _ => ?_) (fun hc => absurd hc (by decide +kernel))⟩
      refine ⟨_, rfl, r, _, 2, .int b, rfl, rfl, sv, rfl, _, rfl, r, _, 1, .int a, rfl, rfl, sv, rfl, _, _, rfl, rfl, two_le, fun ta hta => ?_⟩
      have S1 := Same.upd (o := .tup [.int 0, .int (b - a)]) hta
      have da : DatAt K (upd H ta (.tup [.int 0, .int (b - a)])) (.ref ta) (pI (0, b - a)) := .tup (SqT.of upd_same) (.cons (.int _) (.cons (.int _) .nil))
      generalize upd H ta (.tup [.int 0, .int (b - a)]) = H1 at S1 da
      refine ⟨_, rfl, r, _, 1, .int a, rfl, rfl, S1.tup sv, rfl, two_le, fun tb htb => ?_⟩
      have S2 := Same.upd (o := .tup [.int 1, .int a]) htb
      have db : DatAt K (upd H1 tb (.tup [.int 1, .int a])) (.ref tb) (pI (1, a)) := .tup (SqT.of upd_same) (.cons (.int _) (.cons (.int _) .nil))
      generalize upd H1 tb (.tup [.int 1, .int a]) = H2 at S2 db
      refine ⟨two_le, fun l hl => ?_⟩
      have S3 := Same.upd (o := .lst [.ref ta, .ref tb]) hl
      exact k l _ (S1.trans (S2.trans S3)) ((S1.trans S2).free hl) ⟨_, upd_same, .cons (da.same (S2.trans S3)) (.cons (db.same S3) .nil)⟩
    | pick ps =>
      obtain ⟨r, vs, rfl, sv, dv⟩ := hv.un
      obtain ⟨v0, v1, rfl, h0, h1⟩ := dv.two
      rw [h0.str_eq] at sv
      obtain ⟨q, ws, rfl, sq, dq⟩ := h1.un
      refine ⟨_, rfl, r, _, 0, .str "pick", rfl, rfl, sv, rfl, ?_⟩
      refine ⟨rfl, _, rfl, iteBB (fun hc => absurd hc (by decide +kernel)) (fun _ => ?_)⟩
      refine ⟨_, rfl, r, _, 1, .ref q, rfl, rfl, sv, rfl, q, ws, rfl, .inr sq, fun l hl => ?_⟩
      exact k l _ (.upd hl) hl ⟨_, upd_same, dq.same (.upd hl)⟩
end
end K70
namespace K70
open PySem L2 FW PyProof.Rows
section
variable {P : Program} {w : World} {K : PySem.W.Frag} {mg : Str → Option Value} {base : Heap}
theorem ok_with_parts {f : Addr} {fd : FuncData} (A : FnAt K mg "with_parts" s_with_parts ["term", "parts"] f fd) (T : Bl mg) : FnOk P w K mg base CX0 1 f fd ["term", "parts"] (sp_with K) := by
  refine A.F.ok sc_with_parts (fun vs H Q E h => ?_) (fun cdv Ar outer s H vs Q E hr h => ?_)
  · obtain ⟨v, l, t, xs, t', rfl, _⟩ := h
    rfl
  · obtain ⟨v, l, t, xs, t', rfl, hv, ⟨us, el, du⟩, hw, k⟩ := h
    refine ⟨_, (pss_cons (ps_set (i := 2) sc_with_parts.nd rfl (Or.inl rfl) (pe_ix ix_tup (pv 0) pe_int (fun _ _ => rfl)))
      (pss_cons (ps_if (pt_cmpR op_eq (pv 2) pe_str (nomark _)) (pss_one (ps_ret (pe_tup (pa_cons pe_str (pa_cons (pe_ix ix_list (pv 1) pe_int (fun _ _ => rfl)) (pa_cons (pe_ix ix_list (pv 1) pe_int (fun _ _ => rfl)) (pa_cons (pe_ix ix_list (pv 1) pe_int (fun _ _ => rfl)) pa_nil))))))) pss_nil)
      (pss_cons (ps_if (pt_cmpR op_eq (pv 2) pe_str (nomark _)) (pss_one (ps_ret (pe_tup (pa_cons pe_str (pa_cons (pe_ix ix_tup (pv 0) pe_int (fun _ _ => rfl)) (pa_cons (pe_ix ix_list (pv 1) pe_int (fun _ _ => rfl)) (pa_cons (pe_ix ix_list (pv 1) pe_int (fun _ _ => rfl)) pa_nil))))))) pss_nil)
      (pss_cons (ps_if (pt_cmpR op_eq (pv 2) pe_str (nomark _)) (pss_one (ps_ret (pe_tup (pa_cons pe_str (pa_cons (pe_callTy call_tuple_of (by rfl) T.tuple_ Boot.«tuple» (pa_cons (pe_comp rfl (Nc := ["field", "part"]) (caps0 rfl (by decide +kernel) (by decide +kernel) (by decide +kernel)) (pi_zipM rfl T.zip_ (pa_cons (pe_ix ix_tup (pv 0) pe_int (fun _ _ => rfl)) (pa_cons (pv 1) pa_nil))) (fun _ _ _ _ => by exact (pg_tupK (K := K) (n := 2) rfl rfl (pgs_cons (pg_name (i := 0) (show List.Nodup (["field", "part"] : List Str) by decide +kernel) rfl (Or.inl rfl)) (pgs_cons (pg_name (i := 1) (show List.Nodup (["field", "part"] : List Str) by decide +kernel) rfl (Or.inl rfl)) pgs_nil)))) (fun _ _ _ _ => pts_nil) (fun _ _ _ _ => by exact (pe_tup (pa_cons (pe_ix (ix_tupK (K := K) rfl) (pv 0) pe_int (fun _ _ => rfl)) (pa_cons (pv 1) pa_nil))))) pa_nil)) pa_nil))))) pss_nil)
      (pss_one (ps_ret (pe_tup (pa_cons (pv 2) (pa_cons (pe_ix ix_list (pv 1) pe_int (fun _ _ => rfl)) (pa_cons (pe_ix ix_tup (pv 0) pe_int (fun _ _ => rfl)) pa_nil)))))))))), ?_⟩
    cases hw with
    | ite a b c x y z =>
      obtain ⟨r, vs, rfl, sv, dv⟩ := hv.un
      obtain ⟨v0, v1, v2, v3, rfl, h0, h1, h2, h3⟩ := dats4 dv
      rw [h0.str_eq] at sv
      obtain ⟨u0, u1, u2, rfl, g0, g1, g2⟩ := dats3 du
      refine ⟨_, rfl, r, _, 0, .str "if", rfl, rfl, sv, rfl, ?_⟩
      refine ⟨_, rfl, rfl, _, rfl, iteBB (fun _ => ?_) (fun hc => absurd hc (by decide +kernel))⟩
      exact ⟨_, rfl, l, _, 0, u0, rfl, rfl, SqL.of el, rfl, _, rfl, l, _, 1, u1, rfl, rfl, SqL.of el, rfl, _, rfl, l, _, 2, u2, rfl, rfl, SqL.of el, rfl, t4, fun q hq => k _ _ (.upd hq) (.tup (SqT.of upd_same) (.cons (.str _) (.cons (g0.same (.upd hq)) (.cons (g1.same (.upd hq)) (.cons (g2.same (.upd hq)) .nil)))))⟩
    | op sg a b x y =>
      obtain ⟨r, vs, rfl, sv, dv⟩ := hv.un
      obtain ⟨v0, v1, v2, v3, rfl, h0, h1, h2, h3⟩ := dats4 dv
      rw [h0.str_eq, h1.str_eq] at sv
      obtain ⟨u0, u1, rfl, g0, g1⟩ := du.two
      refine ⟨_, rfl, r, _, 0, .str "op", rfl, rfl, sv, rfl, ?_⟩
      refine ⟨_, rfl, rfl, _, rfl, iteBB (fun hc => absurd hc (by decide +kernel)) (fun _ => ?_)⟩
      refine ⟨_, rfl, rfl, _, rfl, iteBB (fun _ => ?_) (fun hc => absurd hc (by decide +kernel))⟩
      exact ⟨_, rfl, r, _, 1, .str sg, rfl, rfl, sv, rfl, _, rfl, l, _, 0, u0, rfl, rfl, SqL.of el, rfl, _, rfl, l, _, 1, u1, rfl, rfl, SqL.of el, rfl, t4, fun q hq => k _ _ (.upd hq) (.tup (SqT.of upd_same) (.cons (.str _) (.cons (.str _) (.cons (g0.same (.upd hq)) (.cons (g1.same (.upd hq)) .nil)))))⟩
    | rest a n x =>
      obtain ⟨r, vs, rfl, sv, dv⟩ := hv.un
      obtain ⟨v0, v1, v2, rfl, h0, h1, h2⟩ := dats3 dv
      rw [h0.str_eq] at sv
      obtain ⟨u0, ur, rfl, g0, hn0⟩ := du.un
      have := hn0.un0
      subst this
      refine ⟨_, rfl, r, _, 0, .str "rest", rfl, rfl, sv, rfl, ?_⟩
      refine ⟨_, rfl, rfl, _, rfl, iteBB (fun hc => absurd hc (by decide +kernel)) (fun _ => ?_)⟩
      refine ⟨_, rfl, rfl, _, rfl, iteBB (fun hc => absurd hc (by decide +kernel)) (fun _ => ?_)⟩
      refine ⟨_, rfl, rfl, _, rfl, iteBB (fun hc => absurd hc (by decide +kernel)) (fun _ => ?_)⟩
      exact ⟨_, rfl, _, rfl, l, _, 0, u0, rfl, rfl, SqL.of el, rfl, _, rfl, r, _, 2, v2, rfl, rfl, sv, rfl, t3, fun q hq => k _ _ (.upd hq) (.tup (SqT.of upd_same) (.cons (.str _) (.cons (g0.same (.upd hq)) (.cons (h2.same (.upd hq)) .nil))))⟩
    | field a n x =>
      obtain ⟨r, vs, rfl, sv, dv⟩ := hv.un
      obtain ⟨v0, v1, v2, rfl, h0, h1, h2⟩ := dats3 dv
      rw [h0.str_eq] at sv
      obtain ⟨u0, ur, rfl, g0, hn0⟩ := du.un
      have := hn0.un0
      subst this
      refine ⟨_, rfl, r, _, 0, .str "field", rfl, rfl, sv, rfl, ?_⟩
      refine ⟨_, rfl, rfl, _, rfl, iteBB (fun hc => absurd hc (by decide +kernel)) (fun _ => ?_)⟩
      refine ⟨_, rfl, rfl, _, rfl, iteBB (fun hc => absurd hc (by decide +kernel)) (fun _ => ?_)⟩
      refine ⟨_, rfl, rfl, _, rfl, iteBB (fun hc => absurd hc (by decide +kernel)) (fun _ => ?_)⟩
      exact ⟨_, rfl, _, rfl, l, _, 0, u0, rfl, rfl, SqL.of el, rfl, _, rfl, r, _, 2, v2, rfl, rfl, sv, rfl, t3, fun q hq => k _ _ (.upd hq) (.tup (SqT.of upd_same) (.cons (.str _) (.cons (g0.same (.upd hq)) (.cons (h2.same (.upd hq)) .nil))))⟩
    | record fs _ hl h6 =>
      obtain ⟨r, vs, rfl, sv, dv⟩ := hv.un
      obtain ⟨v0, v1, rfl, h0, h1⟩ := dv.two
      rw [h0.str_eq] at sv
      obtain ⟨q, ws, rfl, sq, dq⟩ := h1.un
      have lw := dq.length
      rw [List.length_map, List.length_map] at lw
      have lu := du.length
      refine ⟨_, rfl, r, _, 0, .str "record", rfl, rfl, sv, rfl, ?_⟩
      refine ⟨_, rfl, rfl, _, rfl, iteBB (fun hc => absurd hc (by decide +kernel)) (fun _ => ?_)⟩
      refine ⟨_, rfl, rfl, _, rfl, iteBB (fun hc => absurd hc (by decide +kernel)) (fun _ => ?_)⟩
      refine ⟨_, rfl, rfl, _, rfl, iteBB (fun _ => ?_) (fun hc => absurd hc (by decide +kernel))⟩
      have lp : ((fs.map (·.1)).zip xs).length = fs.length := by rw [List.length_zip, List.length_map]; omega
      refine ⟨_, rfl, r, _, 1, .ref q, rfl, rfl, sv, rfl, _, rfl, q, l, rfl, ⟨_, sq⟩, ⟨_, SqL.of el⟩, fun D hD => ?_⟩
      refine comp_zipM (K := K) (a := q) (b := l) (D := D) (xs := ws) (ys := us) (fun i σ zs H' => (∃ o1 o2, σ = [o1, o2]) ∧ Same H H' ∧ H' D = some (.lst zs) ∧ DatsAt K H' zs (((((fs.map (·.1)).zip xs).take i).map prS).map prD))
        ⟨⟨none, none, rfl⟩, .upd hD, upd_same, .nil⟩ ?_ ?_ ?_
      · rintro i σ zs H' hi ⟨_, S2, eD, hz⟩
        have := hz.length
        rw [List.length_map, List.length_map, List.length_take] at this
        exact ⟨S2.tup sq, SqL.of (S2 _ _ el), eD, Nat.lt_of_le_of_lt (show zs.length ≤ 6 by omega) (by decide)⟩
      · rintro i x y σ zs H' pt hx hy ⟨⟨o1, o2, rfl⟩, S2, eD, hz⟩ hpt N hN
        have S3 := Same.upd (o := .tup [x, y]) hpt
        have e3 : (upd H' pt (.tup [x, y])) pt = some (.tup [x, y]) := upd_same
        generalize upd H' pt (.tup [x, y]) = H3 at S3 e3
        have S23 := S2.trans S3
        obtain ⟨d1, ed1, hx1⟩ := (dq.same S23).get' hx
        obtain ⟨p1, ep1, rfl⟩ := map_get ed1
        obtain ⟨f1, ef1, rfl⟩ := map_get ep1
        obtain ⟨d2, ed2, hy2⟩ := (du.same S23).get' hy
        obtain ⟨rf, vn, vt, rfl, sf, hn1, ht1⟩ := DatAt.pr hx1
        have hn1' : vn = .str f1.1 := DatAt.str_eq hn1
        subst hn1'
        refine ⟨pt, _, rfl, SqT.of e3, rfl, _, _, rfl, _, _, rfl, rfl, ?_⟩
        refine iteT (B := True) ?_
        refine ⟨_, rfl, rf, _, 0, .str f1.1, rfl, rfl, sf, rfl, _, rfl, two_le, fun t ht => ?_⟩
        have S4 := Same.upd (o := .tup [.str f1.1, y]) ht
        have e4 : (upd H3 t (.tup [.str f1.1, y])) t = some (.tup [.str f1.1, y]) := upd_same
        have eD4 := (S3.trans S4) _ _ eD
        refine ⟨eD4, hN _ _ _ ?_⟩
        obtain ⟨w1, w2, w3⟩ := snoc_ok (v := .ref t) (d := prD (prS (f1.1, d2))) hD (S23.trans S4) eD4 (hz.same (S3.trans S4)) (.tup (SqT.of e4) (.cons (.str _) (.cons (hy2.same S4) .nil)))
        refine ⟨⟨_, _, rfl⟩, w1, w2, ?_⟩
        have ez : ((fs.map (·.1)).zip xs)[i]? = some (f1.1, d2) := by
          rw [List.getElem?_zip_eq_some]
          exact ⟨by rw [List.getElem?_map, ef1]; rfl, ed2⟩
        rw [take_snoc' ez, List.map_append, List.map_append]
        exact w3
      · rintro σ zs H' ⟨_, S2, eD, hz⟩
        rw [List.take_of_length_le (by omega)] at hz
        refine ⟨D, zs, rfl, .inl ⟨SqL.of eD, fun t ht => ?_⟩⟩
        have S3 := Same.upd (o := .tup zs) ht
        have e3 : (upd H' t (.tup zs)) t = some (.tup zs) := upd_same
        generalize upd H' t (.tup zs) = H3 at S3 e3
        refine ⟨two_le, fun t2 ht2 => ?_⟩
        exact k _ _ (S2.trans (S3.updR ht2)) (.tup (SqT.of upd_same) (.cons (.str _) (.cons (.tup (SqT.of (Same.upd ht2 _ _ e3)) (hz.same (S3.updR ht2))) .nil)))
end
end K70
namespace K70
open PySem L2 FW PyProof.Rows
mutual
inductive Ot (e : List (Key × V)) : Nat → Dt → Nat → Dt → List (List (Int × Int)) → Nat → Prop
  | num {h : Nat} (x : Dt) (k : Nat) : Ot e (h + 1) (.tup [.str "num", x]) k (.tup [.str "num", x]) [] 1
  | name {h : Nat} (nm : Str) (s : Int) (k : Nat) (hv : valV e (Sum.inr nm) = some (.int s)) : Ot e (h + 1) (.tup [.str "name", .str nm]) k (.tup [.str "slot", .int s]) [] 1
  | draw {h : Nat} (t : Dt) (ps : List (Int × Int)) (k : Nat) (hd : Dr t ps) : Ot e (h + 1) t k (.tup [.str "draw", .int (k : Int)]) [ps] 1
  | node {h : Nat} (t : Dt) (ds : List Dt) (t' : Dt) (ds' : List Dt) (k : Nat) (ws : List (List (Int × Int))) (c : Nat) (hp : Pt t ds) (hs : Ots e h ds k ds' ws c) (hw : Wp t ds' t') : Ot e (h + 1) t k t' ws (c + 1)
inductive Ots (e : List (Key × V)) : Nat → List Dt → Nat → List Dt → List (List (Int × Int)) → Nat → Prop
  | nil {h : Nat} (k : Nat) : Ots e h [] k [] [] 0
  | cons {h : Nat} (d d' : Dt) (ds ds' : List Dt) (k : Nat) (w1 w2 : List (List (Int × Int))) (c1 c2 : Nat) (hd : Ot e h d k d' w1 c1) (hs : Ots e h ds (k + w1.length) ds' w2 c2) : Ots e h (d :: ds) k (d' :: ds') (w1 ++ w2) (c1 + c2)
end
theorem Wp.kind {t t' : Dt} {xs : List Dt} (h : Wp t xs t') : ∃ (k : Str) (r : List Dt), t = .tup (.str k :: r) ∧ k ≠ "call" ∧ k ≠ "num" ∧ k ≠ "name" ∧ k ≠ "flip" ∧ k ≠ "pick" := by
  cases h <;> exact ⟨_, _, rfl, by decide +kernel, by decide +kernel, by decide +kernel, by decide +kernel, by decide +kernel⟩
theorem Wp.few {t t' : Dt} {xs : List Dt} (h : Wp t xs t') : xs.length ≤ 6 := by
  cases h <;> first | simp | (rename_i hl h6; omega)
theorem Ots.len {e : List (Key × V)} {h : Nat} : ∀ {ds : List Dt} {k : Nat} {ds' : List Dt} {ws : List (List (Int × Int))} {c : Nat}, Ots e h ds k ds' ws c → ds'.length = ds.length
  | _, _, _, _, _, .nil _ => rfl
  | _, _, _, _, _, .cons _ _ _ _ _ _ _ _ _ _ hs => by rw [List.length_cons, List.length_cons, hs.len]
theorem Ots.un {e : List (Key × V)} {h k c : Nat} {d : Dt} {ds xs : List Dt} {ws : List (List (Int × Int))} (s : Ots e h (d :: ds) k xs ws c) : ∃ d' xs' w1 w2 c1 c2, xs = d' :: xs' ∧ ws = w1 ++ w2 ∧ c = c1 + c2 ∧ Ot e h d k d' w1 c1 ∧ Ots e h ds (k + w1.length) xs' w2 c2 := by
  cases s with
  | cons _ d' _ ds' _ w1 w2 c1 c2 hd hs => exact ⟨d', ds', w1, w2, c1, c2, rfl, rfl, rfl, hd, hs⟩
theorem Ots.un0 {e : List (Key × V)} {h k c : Nat} {xs : List Dt} {ws : List (List (Int × Int))} (s : Ots e h [] k xs ws c) : xs = [] ∧ ws = [] ∧ c = 0 := by
  cases s
  exact ⟨rfl, rfl, rfl⟩
theorem drop_cons {α : Type} {l r : List α} {i : Nat} {a : α} (h : l.drop i = a :: r) : l[i]? = some a ∧ l.drop (i + 1) = r := by
  constructor
  · have := congrArg (fun l => l[0]?) h
    simpa [List.getElem?_drop] using this
  · have := congrArg List.tail h
    simpa [List.tail_drop] using this
theorem ne_dl' {H : Hp} {q b : Addr} {e : List (Key × V)} {us : List V} (hq : H q = some (.dK e)) (hb : H b = some (.lst us)) : q ≠ b := by
  intro z
  subst z
  rw [hq] at hb
  cases hb
def sp_open (K : PySem.W.Frag) (C : Addr) (h : Nat) : Sp := fun vs H Q _ => ∃ (p dx nm : Addr) (v : V) (o : OpS) (t t' : Dt) (e : List (Key × V)) (ps : List (Addr × List Dt)) (ws : List (List (Int × Int))) (c : Nat),
  vs = [.ref p, v, .ref nm] ∧ H p = some (.ins C dx o.fs) ∧ DatAt K H v t ∧ H nm = some (.dK e) ∧ LLM K H o.dr ps ∧ Ot e h t ps.length t' ws c ∧ o.terms + c ≤ 600 ∧ ps.length + ws.length ≤ 60 ∧
  ∀ v' H' ps', BtZ [p, o.dr] H H' → H' p = some (.ins C dx { o with terms := o.terms + c }.fs) → LLM K H' o.dr (ps ++ ps') → ps'.map (·.2) = ws.map (fun d => d.map pI) → (∀ q ∈ ps', H q.1 = none) → DatAt K H' v' t' → Q v' H'
section
variable {P : Program} {w : World} {K : PySem.W.Frag} {mg : Str → Option Value} {base : Heap} {C : Addr} {uS uD : Value}
theorem ntz {H : Hp} {p dr dx : Addr} {fs : List (Str × V)} {xs : List V} (h1 : H p = some (.ins C dx fs)) (h2 : H dr = some (.lst xs)) : NTZ H [p, dr] := fun a ha => by
  rcases List.mem_cons.mp ha with z | z
  · rw [z]; exact .ins h1
  · cases List.mem_singleton.mp z; exact .lst h2
theorem nin2 {a p q : Addr} (h1 : a ≠ p) (h2 : a ≠ q) : a ∉ [p, q] := by simp [h1, h2]
set_option maxHeartbeats 4000000 in
theorem ok_open {f f1 f2 fD fP fW : Addr} {fd d1 d2 dD dP dW : FuncData} (F : Fun K "open_term" "Opener.open_term" s_Opener_open_term f fd) (b_Opener_open_term : Binds K fd ["self", "term", "names"] []) (M_Opener_open_term : Meth K C "open_term" f)
    (M_Opener_count_term : Meth K C "count_term" f1) (F1 : Fun K "count_term" "Opener.count_term" s_Opener_count_term f1 d1) (b_Opener_count_term : Binds K d1 ["self"] []) (M_Opener_new_draw : Meth K C "new_draw" f2) (F2 : Fun K "new_draw" "Opener.new_draw" s_Opener_new_draw f2 d2) (b_Opener_new_draw : Binds K d2 ["self", "draw"] [])
    (A_draw_of : FnAt K mg "draw_of" s_draw_of ["term"] fD dD) (A_parts_of : FnAt K mg "parts_of" s_parts_of ["term"] fP dP) (A_with_parts : FnAt K mg "with_parts" s_with_parts ["term", "parts"] fW dW) (T : Txt K mg C uS uD) (B : Bl mg) :
    ∀ h : Nat, FnOk P w K mg base CX0 (h + 2) f fd ["self", "term", "names"] (sp_open K C h)
  | 0 => by
    refine FnOk.imp (FnOk.no) (fun vs H Q E h => ?_)
    obtain ⟨p, dx, nm, v, o, t, t', e, ps, ws, c, rfl, _, _, _, _, b, _⟩ := h
    cases b
  | N + 1 => by
    have G_Opener_open_term : FnOk P w K mg base CX0 (N + 2) f fd ["self", "term", "names"] (sp_open K C N) := ok_open F b_Opener_open_term M_Opener_open_term M_Opener_count_term F1 b_Opener_count_term M_Opener_new_draw F2 b_Opener_new_draw A_draw_of A_parts_of A_with_parts T B N
    have G_Opener_count_term : FnOk P w K mg base CX0 1 f1 d1 ["self"] (sp_count C) := ok_count F1 T
    have G_Opener_new_draw : FnOk P w K mg base CX0 1 f2 d2 ["self", "draw"] (sp_draw C) := ok_draw F2 T
    have G_draw_of : FnOk P w K mg base CX0 1 fD dD _ (sp_draw_of K) := ok_draw_of A_draw_of B
    have G_parts_of : FnOk P w K mg base CX0 1 fP dP _ (sp_parts K) := ok_parts_of A_parts_of B
    have G_with_parts : FnOk P w K mg base CX0 1 fW dW _ (sp_with K) := ok_with_parts A_with_parts B
    refine F.ok (k := N + 2) sc_Opener_open_term (fun vs H Q E h => ?_) (fun cdv Ar outer s H vs Q E hr h => ?_)
    · obtain ⟨p, dx, nm, v, o, t, t', e, ps, ws, c, rfl, _⟩ := h
      rfl
    · obtain ⟨p, dx, nm, v, o, t, t', e, ps, ws, c, rfl, hp, hv, hn, ll, b, hc6, hd6, k⟩ := h
      refine ⟨_, (pss_cons (ps_set (i := 3) sc_Opener_open_term.nd rfl (Or.inl rfl) (pe_ix ix_tup (pv 1) pe_int (fun _ _ => rfl)))
        (pss_cons (ps_if (pt_cmpR op_eq (pv 3) pe_str (nomark _)) pss_no pss_nil)
        (pss_cons (ps_expr (pe_meth0 (pv 0) T.cl M_Opener_count_term G_Opener_count_term (hr.mono (by omega)) b_Opener_count_term .nil pass0))
        (pss_cons (ps_if (pt_cmpR op_eq (pv 3) pe_str (nomark _)) (pss_one (ps_ret (pv 1))) pss_nil)
        (pss_cons (ps_if (pt_cmpR op_eq (pv 3) pe_str (nomark _)) (pss_one (ps_ret (pe_tup (pa_cons pe_str (pa_cons (pe_dget (hu_of hr) (pv 2) (pe_ix ix_tup (pv 1) pe_int (fun _ _ => rfl)) (fun _ _ => rfl)) pa_nil))))) pss_nil)
        (pss_cons (ps_if (pt_cmpR op_in_seq (pv 3) (pe_tup (pa_cons pe_str (pa_cons pe_str pa_nil))) (by rfl)) (pss_one (ps_ret (pe_tup (pa_cons pe_str (pa_cons (pe_meth (pv 0) T.cl M_Opener_new_draw G_Opener_new_draw (hr.mono (by omega)) b_Opener_new_draw .nil pass0 (pa_cons (pe_call G_draw_of (hr.mono (by omega)) rfl A_draw_of.m A_draw_of.F.kp A_draw_of.b .nil pass0 (pa_cons (pv 1) pa_nil)) pa_nil)) pa_nil))))) pss_nil)
        (pss_cons (ps_set (i := 4) sc_Opener_open_term.nd rfl (Or.inl rfl) (pe_lst pa_nil))
        (pss_cons (ps_for PassesOwn.never rfl (pi_list (pe_call G_parts_of (hr.mono (by omega)) rfl A_parts_of.m A_parts_of.F.kp A_parts_of.b .nil pass0 (pa_cons (pv 1) pa_nil))) (pg_name (i := 5) sc_Opener_open_term.nd rfl (Or.inl rfl)) (pss_one (ps_expr (pe_bm PySem.F.plainAttrs_list PySem.F.slot_list_append PySem.F.type_list_append mt_append (pv 4) (pa_cons (pe_meth (pv 0) T.cl M_Opener_open_term G_Opener_open_term hr b_Opener_open_term .nil pass0 (pa_cons (pv 5) (pa_cons (pv 2) pa_nil))) pa_nil)))))
        (pss_one (ps_ret (pe_call G_with_parts (hr.mono (by omega)) rfl A_with_parts.m A_with_parts.F.kp A_with_parts.b .nil pass0 (pa_cons (pv 1) (pa_cons (pv 4) pa_nil))))))))))))), ?_⟩
      have npd : p ≠ o.dr := by
        intro z
        have := ll.at_
        rw [← z, hp] at this
        cases this
      have nnp : nm ≠ p := by
        intro z
        rw [z, hp] at hn
        cases hn
      have nnd : nm ≠ o.dr := by
        intro z
        have := ll.at_
        rw [← z, hn] at this
        cases this
      have cnt : ∀ {H1 : Hp}, H1 = upd H p (.ins C dx { o with terms := o.terms + 1 }.fs) → BtA p H H1 ∧ H1 p = some (.ins C dx { o with terms := o.terms + 1 }.fs) ∧ LLM K H1 o.dr ps ∧ H1 nm = some (.dK e) ∧ DatAt K H1 v t := fun {H1} e1 => by
        subst e1
        have B1 : BtA p H (upd H p (.ins C dx { o with terms := o.terms + 1 }.fs)) := .upd
        refine ⟨B1, upd_same, ll.but (.ins hp) B1 npd.symm (fun q hq z => ?_), B1 _ _ nnp hn, hv.but (.ins hp) B1⟩
        obtain ⟨_, e2, _⟩ := ll.it q hq
        rw [z, hp] at e2
        cases e2
      cases b with
      | num x =>
        obtain ⟨r, vs, rfl, sv, dv⟩ := hv.un
        obtain ⟨v0, v1, rfl, h0, h1⟩ := dv.two
        rw [h0.str_eq] at sv
        refine ⟨_, rfl, r, _, 0, .str "num", rfl, rfl, sv, rfl, ?_⟩
        refine ⟨_, rfl, rfl, _, rfl, iteBB (fun hc => absurd hc (by decide +kernel)) (fun _ => ?_)⟩
        refine ⟨_, rfl, p, dx, o.fs, rfl, hp, rfl, p, dx, o, rfl, hp, by omega, ?_⟩
        obtain ⟨B1, hp1, ll1, hn1, hv1⟩ := cnt rfl
        generalize upd H p (.ins C dx { o with terms := o.terms + 1 }.fs) = H1 at B1 hp1 ll1 hn1 hv1
        refine ⟨_, rfl, rfl, _, rfl, iteBB (fun _ => ?_) (fun hc => absurd hc (by decide +kernel))⟩
        exact ⟨_, rfl, k _ H1 [] (.one (by simp) B1) hp1 (by rw [List.append_nil]; exact ll1) rfl (fun _ h => nomatch h) hv1⟩
      | name nm' sl _ hval =>
        obtain ⟨r, vs, rfl, sv, dv⟩ := hv.un
        obtain ⟨v0, v1, rfl, h0, h1⟩ := dv.two
        rw [h0.str_eq, h1.str_eq] at sv
        refine ⟨_, rfl, r, _, 0, .str "name", rfl, rfl, sv, rfl, ?_⟩
        refine ⟨_, rfl, rfl, _, rfl, iteBB (fun hc => absurd hc (by decide +kernel)) (fun _ => ?_)⟩
        refine ⟨_, rfl, p, dx, o.fs, rfl, hp, rfl, p, dx, o, rfl, hp, by omega, ?_⟩
        obtain ⟨B1, hp1, ll1, hn1, hv1⟩ := cnt rfl
        have sv1 := sqT_but (.ins hp) B1 sv
        generalize upd H p (.ins C dx { o with terms := o.terms + 1 }.fs) = H1 at B1 hp1 ll1 hn1 hv1 sv1
        refine ⟨_, rfl, rfl, _, rfl, iteBB (fun hc => absurd hc (by decide +kernel)) (fun _ => ?_)⟩
        refine ⟨_, rfl, rfl, _, rfl, iteBB (fun _ => ?_) (fun hc => absurd hc (by decide +kernel))⟩
        refine ⟨_, rfl, _, rfl, r, _, 1, .str nm', rfl, rfl, sv1, rfl, nm, .int sl, rfl, by rw [← hval]; exact DGet.k (k := Sum.inr nm') hn1, two_le, fun q hq => ?_⟩
        have S2 := Same.upd (o := .tup [.str "slot", .int sl]) hq
        exact k _ _ [] ((BtZ.one (by simp) B1).trans (.of S2)) (S2 _ _ hp1) (by rw [List.append_nil]; exact ll1.same S2) rfl (fun _ h => nomatch h) (.tup (SqT.of upd_same) (.cons (.str _) (.cons (.int _) .nil)))
      | draw _ pr _ hdr =>
        have hk : ∃ (kd : Str) (rr : List Dt), t = .tup (.str kd :: rr) ∧ (kd = "flip" ∨ kd = "pick") := by
          cases hdr
          · exact ⟨_, _, rfl, .inl rfl⟩
          · exact ⟨_, _, rfl, .inr rfl⟩
        obtain ⟨kd, rr, rfl, hkd⟩ := hk
        obtain ⟨r, vs, rfl, sv, dv⟩ := hv.un
        obtain ⟨v0, vr, rfl, g0, g1⟩ := dv.un
        rw [g0.str_eq] at sv
        refine ⟨_, rfl, r, _, 0, .str kd, rfl, rfl, sv, atI_nat (j := 0) rfl, ?_⟩
        have n0 : kd ≠ "call" := by rcases hkd with z | z <;> rw [z] <;> decide +kernel
        have n1 : kd ≠ "num" := by rcases hkd with z | z <;> rw [z] <;> decide +kernel
        have n2 : kd ≠ "name" := by rcases hkd with z | z <;> rw [z] <;> decide +kernel
        refine ⟨_, rfl, rfl, _, rfl, iteBB (fun hc => absurd (show kd = "call" by simpa using hc) n0) (fun _ => ?_)⟩
        refine ⟨_, rfl, p, dx, o.fs, rfl, hp, rfl, p, dx, o, rfl, hp, by omega, ?_⟩
        obtain ⟨B1, hp1, ll1, hn1, hv1⟩ := cnt rfl
        generalize upd H p (.ins C dx { o with terms := o.terms + 1 }.fs) = H1 at B1 hp1 ll1 hn1 hv1
        refine ⟨_, rfl, rfl, _, rfl, iteBB (fun hc => absurd (show kd = "num" by simpa using hc) n1) (fun _ => ?_)⟩
        refine ⟨_, rfl, rfl, _, rfl, iteBB (fun hc => absurd (show kd = "name" by simpa using hc) n2) (fun _ => ?_)⟩
        refine ⟨_, rfl, two_le, fun q1 hq1 => ⟨q1, _, rfl, .inr (SqT.of upd_same), rfl, rfl, _, rfl, iteBB (fun _ => ?_) (fun hc => absurd hc (by rcases hkd with z | z <;> rw [z] <;> decide +kernel))⟩⟩
        have S2 := Same.upd (o := .tup [.str "flip", .str "pick"]) hq1
        generalize upd H1 q1 (.tup [.str "flip", .str "pick"]) = H2 at S2
        refine ⟨_, rfl, p, dx, _, rfl, S2 _ _ hp1, rfl, _, rfl, .ref r, _, pr, rfl, hv1.same S2, hdr, fun D H3 S3 hD lsD => ?_⟩
        have S23 := S2.trans S3
        have ll3 := ll1.same S23
        refine ⟨p, dx, .ref D, _, { o with terms := o.terms + 1 }, rfl, S23 _ _ hp1, ll3.at_, by rw [List.length_map]; simp at hd6; omega, ?_⟩
        have nDd : D ≠ o.dr := (ne_of_none (S2 _ _ ll1.at_) hD).symm
        have lln := LLM.snoc ll3 lsD nDd
        have B4 : BtA o.dr H3 (upd H3 o.dr (.lst (ps.map (fun p => V.ref p.1) ++ [.ref D]))) := .upd
        have hp4 : (upd H3 o.dr (.lst (ps.map (fun p => V.ref p.1) ++ [.ref D]))) p = some (.ins C dx { o with terms := o.terms + 1 }.fs) := B4 _ _ npd (S23 _ _ hp1)
        have fD : H D = none := by
          have f2 := S2.free hD
          by_cases z : D = p
          · rw [z, hp1] at f2; cases f2
          · cases hH : H D with
            | none => rfl
            | some x => rw [B1 _ _ z hH] at f2; cases f2
        refine ⟨two_le, fun q hq => ?_⟩
        have S5 := Same.upd (o := .tup [.str "draw", .int ((ps.map fun p => V.ref p.1).length : Nat)]) hq
        refine k _ _ [(D, pr.map pI)] ((BtZ.one (by simp) B1).trans ((BtZ.of S23).trans ((BtZ.one (by simp) B4).trans (.of S5)))) (S5 _ _ hp4) (lln.same S5) rfl (fun x hx => by cases List.mem_singleton.mp hx; exact fD) ?_
        refine .tup (SqT.of upd_same) (.cons (.str _) (.cons ?_ .nil))
        rw [List.length_map]
        exact .int _
      | node _ ds _ ds' _ _ c hpt hs hw =>
        obtain ⟨kd, rr, rfl, n0, n1, n2, n3, n4⟩ := hw.kind
        have few := hw.few
        have ld := hs.len
        have hvt := hv
        obtain ⟨r, vs, rfl, sv, dv⟩ := hv.un
        obtain ⟨v0, vr, rfl, g0, g1⟩ := dv.un
        rw [g0.str_eq] at sv
        refine ⟨_, rfl, r, _, 0, .str kd, rfl, rfl, sv, atI_nat (j := 0) rfl, ?_⟩
        refine ⟨_, rfl, rfl, _, rfl, iteBB (fun hc => absurd (show kd = "call" by simpa using hc) n0) (fun _ => ?_)⟩
        refine ⟨_, rfl, p, dx, o.fs, rfl, hp, rfl, p, dx, o, rfl, hp, by omega, ?_⟩
        obtain ⟨B1, hp1, ll1, hn1, hv1⟩ := cnt rfl
        generalize upd H p (.ins C dx { o with terms := o.terms + 1 }.fs) = H1 at B1 hp1 ll1 hn1 hv1
        refine ⟨_, rfl, rfl, _, rfl, iteBB (fun hc => absurd (show kd = "num" by simpa using hc) n1) (fun _ => ?_)⟩
        refine ⟨_, rfl, rfl, _, rfl, iteBB (fun hc => absurd (show kd = "name" by simpa using hc) n2) (fun _ => ?_)⟩
        refine ⟨_, rfl, two_le, fun q1 hq1 => ⟨q1, _, rfl, .inr (SqT.of upd_same), rfl, rfl, _, rfl, iteBB (fun hc => absurd hc (by simp [inV, eqV, n3, n4, Ne.symm n3, Ne.symm n4])) (fun _ => ?_)⟩⟩
        have S2 := Same.upd (o := .tup [.str "flip", .str "pick"]) hq1
        generalize upd H1 q1 (.tup [.str "flip", .str "pick"]) = H2 at S2
        refine ⟨Nat.zero_le _, fun D hD => ?_⟩
        have S3 := Same.upd (o := .lst []) hD
        have eD : (upd H2 D (.lst [])) D = some (.lst []) := upd_same
        have nDp : D ≠ p := (ne_of_none (S2 _ _ hp1) hD).symm
        have nDd : D ≠ o.dr := (ne_of_none (S2 _ _ ll1.at_) hD).symm
        have fr1 : ∀ {a : Addr}, H1 a = none → H a = none := fun {a} f2 => by
          by_cases z : a = p
          · rw [z, hp1] at f2; cases f2
          · cases hH : H a with
            | none => rfl
            | some x => rw [B1 _ _ z hH] at f2; cases f2
        have fD : H D = none := fr1 (S2.free hD)
        generalize upd H2 D (.lst []) = H3 at S3 eD
        have S23 := S2.trans S3
        refine ⟨_, rfl, .ref r, _, ds, rfl, hv1.same S23, hpt, fun P1 H4 S4 hP1 lsP => ?_⟩
        obtain ⟨us, eP, du⟩ := lsP
        have lu := du.length
        have S24 := S23.trans S4
        have nPD : P1 ≠ D := (ne_of_none eD hP1).symm
        have nPp : P1 ≠ p := (ne_of_none (S23 _ _ hp1) hP1).symm
        have nPd : P1 ≠ o.dr := (ne_of_none (S23 _ _ ll1.at_) hP1).symm
        refine ⟨P1, rfl, ⟨_, SqL.of eP⟩, for_list (K := K) (a := P1) (xs := us) (fun i σ H' => BtZ [p, o.dr] H H' ∧ H' P1 = some (.lst us) ∧ DatsAt K H' us ds ∧ DatAt K H' (.ref r) (.tup (.str kd :: rr)) ∧ H' nm = some (.dK e) ∧ ∃ (zs : List V) (psn : List (Addr × List Dt)) (wsn wr : List (List (Int × Int))) (ci cr : Nat) (o5 : Option V),
            H' D = some (.lst zs) ∧ DatsAt K H' zs (ds'.take i) ∧ H' p = some (.ins C dx { o with terms := o.terms + 1 + (ci : Int) }.fs) ∧ LLM K H' o.dr (ps ++ psn) ∧ psn.map (·.2) = wsn.map (fun d => d.map pI) ∧ (∀ q ∈ psn, H q.1 = none ∧ q.1 ≠ D) ∧ Ots e N (ds.drop i) (ps ++ psn).length (ds'.drop i) wr cr ∧ ws = wsn ++ wr ∧ c = ci + cr ∧
            σ = [some (.ref p), some (.ref r), some (.ref nm), some (.str kd), some (.ref D), o5])
          ⟨(BtZ.one (by simp) B1).trans (.of S24), eP, du, hv1.same S24, S24 _ _ hn1, [], [], [], ws, 0, c, none, S4 _ _ eD, .nil, by rw [show o.terms + 1 + ((0 : Nat) : Int) = o.terms + 1 by omega]; exact S24 _ _ hp1, by rw [List.append_nil]; exact ll1.same S24, rfl, (fun _ h => nomatch h), by rw [List.append_nil]; exact hs, rfl, by omega, rfl⟩ (fun i σ H' _ z => SqL.of z.2.1) ?_ ?_⟩
        · rintro i x σ H' hx ⟨BZ, eP', du', hv', hn', zs, psn, wsn, wr, ci, cr, o5, eD', hz, hp', ll', eps, fps, ots, rfl, rfl, rfl⟩
          obtain ⟨d, ed, hxd⟩ := du'.get' hx
          have hi := (List.getElem?_eq_some_iff.mp ed).1
          rw [List.drop_eq_getElem_cons hi, (List.getElem?_eq_some_iff.mp ed).2] at ots
          obtain ⟨d', xs', w1, w2, c1, c2, e1, rfl, rfl, od, os⟩ := ots.un
          obtain ⟨e2, e3⟩ := drop_cons e1
          have lpn : psn.length = wsn.length := by
            have := congrArg List.length eps
            rwa [List.length_map, List.length_map] at this
          have lz := hz.length
          rw [List.length_take] at lz
          simp only [List.length_append] at hd6
          refine ⟨_, rfl, .inl ⟨rfl, _, SqL.of eD'⟩, _, rfl, p, dx, _, rfl, hp', rfl, _, rfl, _, rfl, p, dx, nm, x, { o with terms := o.terms + 1 + (ci : Int) }, d, d', e, ps ++ psn, w1, c1, rfl, hp', hxd, hn', ll', od, (by show o.terms + 1 + (ci : Int) + (c1 : Int) ≤ 600; omega), (by rw [List.length_append]; omega), fun v' H5 ps' BZ5 hp5 ll5 eps5 fr5 hv5 => ?_⟩
          have nz := ntz hp' ll'.at_
          have eD5 := BZ5 _ _ (nin2 nDp nDd) eD'
          refine ⟨D, zs, _, rfl, rfl, eD5, Nat.lt_of_le_of_lt (show zs.length ≤ 6 by omega) (by decide), ?_⟩
          have BD : BtA D H5 (upd H5 D (.lst (zs ++ [v']))) := .upd
          have frz : ∀ q ∈ ps', H q.1 = none ∧ q.1 ≠ D := fun q hq => by
            have f := fr5 q hq
            refine ⟨?_, (ne_of_none eD' f).symm⟩
            cases hH : H q.1 with
            | none => rfl
            | some y =>
              by_cases z : q.1 ∈ [p, o.dr]
              · rcases List.mem_cons.mp z with z | z
                · rw [z, hp'] at f; cases f
                · rw [List.mem_singleton.mp z, ll'.at_] at f; cases f
              · rw [BZ _ _ z hH] at f; cases f
          refine ⟨fun b y nb hb => ?_, BD _ _ nPD (BZ5 _ _ (nin2 nPp nPd) eP'), (du'.butZ nz BZ5).but (.lst eD5) BD, (hv'.butZ nz BZ5).but (.lst eD5) BD, BD _ _ (ne_dl' hn' eD') (BZ5 _ _ (nin2 nnp nnd) hn'), zs ++ [v'], psn ++ ps', wsn ++ w1, w2, ci + c1, c2, _, upd_same, ?_, ?_, ?_, ?_, ?_, ?_, ?_, ?_, rfl⟩
          · rw [upd_ne (ne_of_none hb fD)]
            exact BZ5 _ _ nb (BZ _ _ nb hb)
          · rw [take_snoc' e2]
            exact ((hz.butZ nz BZ5).append (.cons hv5 .nil)).but (.lst eD5) BD
          · rw [show o.terms + 1 + ((ci + c1 : Nat) : Int) = o.terms + 1 + (ci : Int) + (c1 : Int) by omega]
            exact BD _ _ nDp.symm hp5
          · rw [← List.append_assoc]
            refine ll5.but (.lst eD5) BD nDd.symm (fun q hq => ?_)
            rcases List.mem_append.mp hq with hq | hq
            · rcases List.mem_append.mp hq with hq | hq
              · obtain ⟨_, ey, _⟩ := ll.it q hq
                exact ne_of_none ey fD
              · exact (fps q hq).2
            · exact (frz q hq).2
          · rw [List.map_append, List.map_append, eps, eps5]
          · intro q hq
            rcases List.mem_append.mp hq with hq | hq
            · exact fps q hq
            · exact frz q hq
          · rw [e3]
            have l5 : ps'.length = w1.length := by
              have := congrArg List.length eps5
              rwa [List.length_map, List.length_map] at this
            rw [show (ps ++ (psn ++ ps')).length = (ps ++ psn).length + w1.length by simp only [List.length_append]; omega]
            exact os
          · rw [List.append_assoc]
          · omega
        · rintro σ H' ⟨BZ, eP', du', hv', hn', zs, psn, wsn, wr, ci, cr, o5, eD', hz, hp', ll', eps, fps, ots, rfl, rfl, rfl⟩
          rw [List.drop_of_length_le (by omega)] at ots
          obtain ⟨_, rfl, rfl⟩ := ots.un0
          rw [List.take_of_length_le (by omega)] at hz
          refine ⟨_, rfl, _, rfl, .ref r, D, _, ds', t', rfl, hv', ⟨zs, eD', hz⟩, hw, fun v' H7 S7 hv7 => ?_⟩
          refine k v' H7 psn (BZ.trans (.of S7)) ?_ (ll'.same S7) (by rw [List.append_nil]; exact eps) (fun q hq => (fps q hq).1) hv7
          rw [show o.terms + ((ci + 0 + 1 : Nat) : Int) = o.terms + 1 + (ci : Int) by omega]
          exact S7 _ _ hp'
end
end K70
namespace K70
open PySem L2 FW PyProof.Rows
theorem valV_putK {κ : Type} [DecidableEq κ] (kvs : List (κ × V)) (k : κ) (v : V) : valV (putK kvs k v) k = some v := by
  unfold putK
  split
  · rename_i h
    induction kvs with
    | nil => simp at h
    | cons p r ih =>
      by_cases e : p.1 = k
      · rw [List.map_cons, if_pos e]
        exact valV_pos e
      · rw [List.map_cons, if_neg e, valV_neg e]
        refine ih ?_
        simpa [e] using h
  · rename_i h
    induction kvs with
    | nil => exact valV_pos rfl
    | cons p r ih =>
      have e : ¬ p.1 = k := fun z => h (by simp [z])
      show valV (p :: (r ++ [(k, v)])) k = some v
      rw [valV_neg e]
      exact ih fun z => h (by simp [e] at z ⊢; exact z)
structure OpI (K : PySem.W.Frag) (H : Hp) (C p dx : Addr) (o : OpS) (e : List (Key × V)) (ps : List (Addr × List Dt)) (sts : List Dt) : Prop where
  hp : H p = some (.ins C dx o.fs)
  hn : H o.nm = some (.dK e)
  ll : LLM K H o.dr ps
  st : LsM K H o.st sts
  sd : o.st ≠ o.dr
  si : ∀ q ∈ ps, q.1 ≠ o.st
def sp_let (K : PySem.W.Frag) (C : Addr) (h : Nat) : Sp := fun vs H Q _ => ∃ (p dx : Addr) (nm : Str) (v : V) (o : OpS) (t t' : Dt) (e : List (Key × V)) (ps : List (Addr × List Dt)) (sts : List Dt) (ws : List (List (Int × Int))) (c : Nat),
  vs = [.ref p, .str nm, v] ∧ OpI K H C p dx o e ps sts ∧ DatAt K H v t ∧ Ot e h t ps.length t' ws c ∧ o.terms + c ≤ 600 ∧ ps.length + ws.length ≤ 60 ∧ e.length < 1000 ∧ sts.length < 1000 ∧
  ∀ H' ps', BtZ [p, o.dr, o.nm, o.st] H H' → OpI K H' C p dx { o with terms := o.terms + c, slots := o.slots + 1 } (putK e (Sum.inr nm) (.int o.slots)) (ps ++ ps') (sts ++ [.tup [.int o.slots, t']]) → ps'.map (·.2) = ws.map (fun d => d.map pI) → (∀ q ∈ ps', H q.1 = none) → Q .non H'
section
variable {P : Program} {w : World} {K : PySem.W.Frag} {mg : Str → Option Value} {base : Heap} {C : Addr} {uS uD : Value}
set_option maxHeartbeats 2000000 in
theorem ok_let {h : Nat} {f fO f3 : Addr} {fd dO d3 : FuncData} (F : Fun K "open_let" "Opener.open_let" s_Opener_open_let f fd) (M_Opener_open_term : Meth K C "open_term" fO) (G_Opener_open_term : FnOk P w K mg base CX0 (h + 2) fO dO ["self", "term", "names"] (sp_open K C h)) (b_Opener_open_term : Binds K dO ["self", "term", "names"] [])
    (M_Opener_new_slot : Meth K C "new_slot" f3) (F3 : Fun K "new_slot" "Opener.new_slot" s_Opener_new_slot f3 d3) (b_Opener_new_slot : Binds K d3 ["self"] []) (T : Txt K mg C uS uD) : FnOk P w K mg base CX0 (h + 3) f fd ["self", "name", "term"] (sp_let K C h) := by
  have G_Opener_new_slot : FnOk P w K mg base CX0 1 f3 d3 ["self"] (sp_slot C) := ok_slot F3 T
  refine F.ok (k := h + 2) sc_Opener_open_let (fun vs H Q E h => ?_) (fun cdv Ar outer s H vs Q E hr h => ?_)
  · obtain ⟨p, dx, nm, v, o, t, t', e, ps, sts, ws, c, rfl, _⟩ := h
    rfl
  · obtain ⟨p, dx, nm, v, o, t, t', e, ps, sts, ws, c, rfl, I, hv, ot, b1, b2, le, ls, k⟩ := h
    refine ⟨_, (pss_cons (ps_set (i := 3) sc_Opener_open_let.nd rfl (Or.inl rfl) (pe_meth (pv 0) T.cl M_Opener_open_term G_Opener_open_term hr b_Opener_open_term .nil pass0 (pa_cons (pv 2) (pa_cons (pe_fld (pv 0) rfl) pa_nil))))
      (pss_cons (ps_dput (hu_of hr) (pe_fld (pv 0) rfl) (pv 1) (pe_meth0 (pv 0) T.cl M_Opener_new_slot G_Opener_new_slot (hr.mono (by omega)) b_Opener_new_slot .nil pass0) rfl)
      (pss_one (ps_expr (pe_bm PySem.F.plainAttrs_list PySem.F.slot_list_append PySem.F.type_list_append mt_append (pe_fld (pv 0) rfl) (pa_cons (pe_tup (pa_cons (pe_dget (hu_of hr) (pe_fld (pv 0) rfl) (pv 1) (fun _ _ => rfl)) (pa_cons (pv 3) pa_nil))) pa_nil)))))), ?_⟩
    obtain ⟨hp, hn, ll, ⟨us, es, du⟩, sd, si⟩ := I
    have npd : p ≠ o.dr := fun z => by have := ll.at_; rw [← z, hp] at this; cases this
    have nps : p ≠ o.st := fun z => by rw [← z, hp] at es; cases es
    have npn : p ≠ o.nm := fun z => by rw [← z, hp] at hn; cases hn
    have nnd : o.nm ≠ o.dr := fun z => by have := ll.at_; rw [← z, hn] at this; cases this
    have nns : o.nm ≠ o.st := fun z => by rw [← z, hn] at es; cases es
    refine ⟨_, rfl, p, dx, _, rfl, hp, rfl, _, rfl, _, rfl, p, C, dx, o.fs, .ref o.nm, rfl, hp, T.cl, T.n2, rfl, p, dx, o.nm, v, o, t, t', e, ps, ws, c, rfl, hp, hv, hn, ll, ot, b1, b2, fun v' H1 ps' BZ hp1 ll1 eps fr hv1 => ?_⟩
    have nz := ntz hp ll.at_
    have hn1 := BZ _ _ (nin2 npn.symm nnd) hn
    have es1 := BZ _ _ (nin2 nps.symm sd) es
    have du1 := du.butZ nz BZ
    refine ⟨_, rfl, p, dx, _, rfl, hp1, rfl, p, dx, _, rfl, hp1, ?_⟩
    have B2 : BtA p H1 (upd H1 p (.ins C dx { o with terms := o.terms + c, slots := o.slots + 1 }.fs)) := .upd
    have hp2 : (upd H1 p (.ins C dx { o with terms := o.terms + c, slots := o.slots + 1 }.fs)) p = some (.ins C dx { o with terms := o.terms + c, slots := o.slots + 1 }.fs) := upd_same
    have in1 : ∀ q ∈ ps ++ ps', q.1 ≠ p := fun q hq z => by
      obtain ⟨_, e2, _⟩ := ll1.it q hq
      rw [z, hp1] at e2
      cases e2
    have ll2 := ll1.but (.ins hp1) B2 npd.symm in1
    have hn2 := B2 _ _ npn.symm hn1
    have es2 := B2 _ _ nps.symm es1
    have du2 := du1.but (.ins hp1) B2
    have hv2 := hv1.but (.ins hp1) B2
    generalize upd H1 p (.ins C dx { o with terms := o.terms + c, slots := o.slots + 1 }.fs) = H2 at B2 hp2 ll2 hn2 es2 du2 hv2
    refine ⟨_, rfl, p, C, dx, _, .ref o.nm, rfl, hp2, T.cl, T.n2, rfl, _, rfl, o.nm, _, rfl, DPut.k (k := Sum.inr nm) hn2 (Nat.lt_of_lt_of_le le (by decide)), ?_⟩
    have B3 : BtA o.nm H2 (upd H2 o.nm (.dK (putK e (Sum.inr nm) (.int o.slots)))) := .upd
    have hn3 : (upd H2 o.nm (.dK (putK e (Sum.inr nm) (.int o.slots)))) o.nm = some (.dK (putK e (Sum.inr nm) (.int o.slots))) := upd_same
    have ntn : NT H2 o.nm := fun x ex => by
      rw [hn2] at ex
      cases ex
      exact ⟨(fun _ z => nomatch z), (fun _ _ z => nomatch z)⟩
    have ll3 := ll2.but ntn B3 nnd.symm fun q hq z => by
      obtain ⟨_, e2, _⟩ := ll2.it q hq
      rw [z, hn2] at e2
      cases e2
    have hp3 := B3 _ _ npn hp2
    have es3 := B3 _ _ nns.symm es2
    have du3 := du2.but ntn B3
    have hv3 := hv2.but ntn B3
    generalize upd H2 o.nm (.dK (putK e (Sum.inr nm) (.int o.slots))) = H3 at B3 hn3 ll3 hp3 es3 du3 hv3
    refine ⟨_, rfl, p, C, dx, _, .ref o.st, rfl, hp3, T.cl, T.n3, rfl, .inl ⟨rfl, _, SqL.of es3⟩, _, rfl, p, C, dx, _, .ref o.nm, rfl, hp3, T.cl, T.n2, rfl, _, rfl, o.nm, .int o.slots, rfl, by rw [← valV_putK e (Sum.inr nm) (.int o.slots)]; exact DGet.k (k := Sum.inr nm) hn3, _, rfl, two_le, fun q hq => ?_⟩
    have S4 := Same.upd (o := .tup [.int o.slots, v']) hq
    have lu := du.length
    refine ⟨o.st, us, _, rfl, rfl, S4 _ _ es3, Nat.lt_of_lt_of_le (show us.length < 1000 by omega) (by decide), ?_⟩
    have B5 : BtA o.st (upd H3 q (.tup [.int o.slots, v'])) (upd (upd H3 q (.tup [.int o.slots, v'])) o.st (.lst (us ++ [.ref q]))) := .upd
    have si5 : ∀ x ∈ ps ++ ps', x.1 ≠ o.st := fun x hx => by
      rcases List.mem_append.mp hx with z | z
      · exact si x z
      · exact (ne_of_none es (fr x z)).symm
    refine k _ ps' ?_ ⟨B5 _ _ nps (S4 _ _ hp3), B5 _ _ nns (S4 _ _ hn3), (ll3.same S4).but (.lst (S4 _ _ es3)) B5 sd.symm si5, ⟨_, upd_same, ((du3.same S4).append (.cons (.tup (SqT.of upd_same) (.cons (.int _) (.cons (hv3.same S4) .nil))) .nil)).but (.lst (S4 _ _ es3)) B5⟩, sd, si5⟩ eps fr
    exact ((BZ.mono (by simp)).trans (.one (by simp) B2)).trans ((BtZ.one (by simp) B3).trans ((BtZ.of S4).trans (.one (by simp) B5)))
end
end K70
namespace K70
open PySem L2 FW PyProof.Rows
abbrev stD (s : Int) (t : Dt) : Dt := .tup [.int s, t]
inductive Oag (h : Nat) (nm : Str) (t : Dt) : Nat → List (Key × V) → Nat → Int → List (Key × V) → List (List (Int × Int)) → List Dt → Nat → Prop
  | zero (e : List (Key × V)) (k : Nat) (s : Int) : Oag h nm t 0 e k s e [] [] 0
  | succ (n : Nat) (e e' : List (Key × V)) (k : Nat) (s : Int) (t' : Dt) (w1 w2 : List (List (Int × Int))) (c1 c2 : Nat) (st : List Dt) (hl : e.length < 1000) (ho : Ot e h t k t' w1 c1) (hr : Oag h nm t n (putK e (Sum.inr nm) (.int s)) (k + w1.length) (s + 1) e' w2 st c2) : Oag h nm t (n + 1) e k s e' (w1 ++ w2) (stD s t' :: st) (c1 + c2)
inductive Orow (h : Nat) : Dt → List (Key × V) → Nat → Int → List (Key × V) → List (List (Int × Int)) → List Dt → Int → Nat → Prop
  | lett (nm : Str) (t : Dt) (e e' : List (Key × V)) (k : Nat) (s : Int) (ws : List (List (Int × Int))) (st : List Dt) (c : Nat) (hg : Oag h nm t 1 e k s e' ws st c) : Orow h (.tup [.str "let", .str nm, t]) e k s e' ws st (s + 1) c
  | again (n : Nat) (nm : Str) (t : Dt) (e e' : List (Key × V)) (k : Nat) (s : Int) (ws : List (List (Int × Int))) (st : List Dt) (c : Nat) (hn : n ≤ 30) (hg : Oag h nm t n e k s e' ws st c) : Orow h (.tup [.str "again", .int (n : Int), .str nm, t]) e k s e' ws st (s + n) c
  | see (t t' : Dt) (e : List (Key × V)) (k : Nat) (s : Int) (ws : List (List (Int × Int))) (c : Nat) (ho : Ot e h t k t' ws c) : Orow h (.tup [.str "see", t]) e k s e ws [stD (-1) t'] s c
  | ask (t t' : Dt) (e : List (Key × V)) (k : Nat) (s : Int) (ws : List (List (Int × Int))) (c : Nat) (ho : Ot e h t k t' ws c) : Orow h (.tup [.str "ask", t]) e k s e ws [stD s t'] (s + 1) c
def sp_row (K : PySem.W.Frag) (C : Addr) (h : Nat) : Sp := fun vs H Q _ => ∃ (p dx : Addr) (v : V) (o : OpS) (row : Dt) (e e' : List (Key × V)) (ps : List (Addr × List Dt)) (sts st : List Dt) (ws : List (List (Int × Int))) (s' : Int) (c : Nat),
  vs = [.ref p, v] ∧ OpI K H C p dx o e ps sts ∧ DatAt K H v row ∧ Orow h row e ps.length o.slots e' ws st s' c ∧ o.terms + c ≤ 600 ∧ ps.length + ws.length ≤ 60 ∧ sts.length + 40 < 1000 ∧
  ∀ H' ps', BtZ [p, o.dr, o.nm, o.st] H H' → OpI K H' C p dx { o with terms := o.terms + c, slots := s' } e' (ps ++ ps') (sts ++ st) → ps'.map (·.2) = ws.map (fun d => d.map pI) → (∀ q ∈ ps', H q.1 = none) → Q .non H'
section
variable {P : Program} {w : World} {K : PySem.W.Frag} {mg : Str → Option Value} {base : Heap} {C : Addr} {uS uD : Value}
theorem OpI.ntz {H : Hp} {p dx : Addr} {o : OpS} {e : List (Key × V)} {ps : List (Addr × List Dt)} {sts : List Dt} (I : OpI K H C p dx o e ps sts) : NTZ H [p, o.dr, o.nm, o.st] := fun a ha => by
  obtain ⟨us, es, _⟩ := I.st
  simp only [List.mem_cons, List.not_mem_nil, or_false] at ha
  rcases ha with z | z | z | z <;> rw [z]
  · exact .ins I.hp
  · exact .lst I.ll.at_
  · exact fun x ex => by
      rw [I.hn] at ex
      cases ex
      exact ⟨(fun _ z => nomatch z), (fun _ _ z => nomatch z)⟩
  · exact .lst es
theorem OpI.free {H H' : Hp} {p dx : Addr} {o : OpS} {e : List (Key × V)} {ps : List (Addr × List Dt)} {sts : List Dt} (I : OpI K H' C p dx o e ps sts) (B : BtZ [p, o.dr, o.nm, o.st] H H') {a : Addr} (h : H' a = none) : H a = none := by
  cases hH : H a with
  | none => rfl
  | some y =>
    obtain ⟨us, es, _⟩ := I.st
    by_cases z : a ∈ [p, o.dr, o.nm, o.st]
    · simp only [List.mem_cons, List.not_mem_nil, or_false] at z
      rcases z with z | z | z | z
      · rw [z, I.hp] at h; cases h
      · rw [z, I.ll.at_] at h; cases h
      · rw [z, I.hn] at h; cases h
      · rw [z, es] at h; cases h
    · rw [B _ _ z hH] at h; cases h
theorem Oag.un {h n k c : Nat} {nm : Str} {t : Dt} {e e' : List (Key × V)} {s : Int} {ws : List (List (Int × Int))} {st : List Dt} (g : Oag h nm t (n + 1) e k s e' ws st c) : ∃ t' w1 w2 c1 c2 st2, ws = w1 ++ w2 ∧ st = stD s t' :: st2 ∧ c = c1 + c2 ∧ e.length < 1000 ∧ Ot e h t k t' w1 c1 ∧ Oag h nm t n (putK e (Sum.inr nm) (.int s)) (k + w1.length) (s + 1) e' w2 st2 c2 := by
  cases g with
  | succ _ _ _ _ _ t' w1 w2 c1 c2 st2 hl ho hr => exact ⟨t', w1, w2, c1, c2, st2, rfl, rfl, rfl, hl, ho, hr⟩
theorem Oag.un0 {h k c : Nat} {nm : Str} {t : Dt} {e e' : List (Key × V)} {s : Int} {ws : List (List (Int × Int))} {st : List Dt} (g : Oag h nm t 0 e k s e' ws st c) : e' = e ∧ ws = [] ∧ st = [] ∧ c = 0 := by
  cases g
  exact ⟨rfl, rfl, rfl, rfl⟩
end
end K70
namespace K70
open PySem L2 FW PyProof.Rows
section
variable {P : Program} {w : World} {K : PySem.W.Frag} {mg : Str → Option Value} {base : Heap} {C : Addr} {uS uD : Value}
set_option maxHeartbeats 4000000 in
theorem ok_row {h : Nat} {f fL fO f3 : Addr} {fd dL dO d3 : FuncData} (F : Fun K "open_row" "Opener.open_row" s_Opener_open_row f fd) (M_Opener_open_let : Meth K C "open_let" fL) (G_Opener_open_let : FnOk P w K mg base CX0 (h + 3) fL dL ["self", "name", "term"] (sp_let K C h)) (b_Opener_open_let : Binds K dL ["self", "name", "term"] [])
    (M_Opener_open_term : Meth K C "open_term" fO) (G_Opener_open_term : FnOk P w K mg base CX0 (h + 2) fO dO ["self", "term", "names"] (sp_open K C h)) (b_Opener_open_term : Binds K dO ["self", "term", "names"] [])
    (M_Opener_new_slot : Meth K C "new_slot" f3) (F3 : Fun K "new_slot" "Opener.new_slot" s_Opener_new_slot f3 d3) (b_Opener_new_slot : Binds K d3 ["self"] []) (T : Txt K mg C uS uD) (range_ : mg "range" = none) : FnOk P w K mg base CX0 (h + 4) f fd ["self", "row"] (sp_row K C h) := by
  have G_Opener_new_slot : FnOk P w K mg base CX0 1 f3 d3 ["self"] (sp_slot C) := ok_slot F3 T
  refine F.ok (k := h + 3) sc_Opener_open_row (fun vs H Q E h => ?_) (fun cdv Ar outer s H vs Q E hr h => ?_)
  · obtain ⟨p, dx, v, o, row, e, e', ps, sts, st, ws, s', c, rfl, _⟩ := h
    rfl
  · obtain ⟨p, dx, v, o, row, e, e', ps, sts, st, ws, s', c, rfl, I, hv, ow, b1, b2, ls, k⟩ := h
    refine ⟨_, (pss_cons (ps_set (i := 2) sc_Opener_open_row.nd rfl (Or.inl rfl) (pe_ix ix_tup (pv 1) pe_int (fun _ _ => rfl)))
      (pss_one (ps_if (pt_cmpR op_eq (pv 2) pe_str (nomark _)) pss_no (pss_one (ps_if (pt_cmpR op_eq (pv 2) pe_str (nomark _)) (pss_one (ps_expr (pe_meth (pv 0) T.cl M_Opener_open_let G_Opener_open_let (hr.mono (by omega)) b_Opener_open_let .nil pass0 (pa_cons (pe_ix ix_tup (pv 1) pe_int (fun _ _ => rfl)) (pa_cons (pe_ix ix_tup (pv 1) pe_int (fun _ _ => rfl)) pa_nil))))) (pss_one (ps_if (pt_cmpR op_eq (pv 2) pe_str (nomark _)) (pss_one (ps_for PassesOwn.never rfl (pi_range1 rfl range_ (pa_cons (pe_ix ix_tup (pv 1) pe_int (fun _ _ => rfl)) pa_nil)) (pg_name (i := 3) sc_Opener_open_row.nd rfl (Or.inl rfl)) (pss_one (ps_expr (pe_meth (pv 0) T.cl M_Opener_open_let G_Opener_open_let (hr.mono (by omega)) b_Opener_open_let .nil pass0 (pa_cons (pe_ix ix_tup (pv 1) pe_int (fun _ _ => rfl)) (pa_cons (pe_ix ix_tup (pv 1) pe_int (fun _ _ => rfl)) pa_nil))))))) (pss_one (ps_if (pt_cmpR op_eq (pv 2) pe_str (nomark _)) (pss_one (ps_expr (pe_bm PySem.F.plainAttrs_list PySem.F.slot_list_append PySem.F.type_list_append mt_append (pe_fld (pv 0) rfl) (pa_cons (pe_tup (pa_cons (pe_un un_neg pe_int) (pa_cons (pe_meth (pv 0) T.cl M_Opener_open_term G_Opener_open_term (hr.mono (by omega)) b_Opener_open_term .nil pass0 (pa_cons (pe_ix ix_tup (pv 1) pe_int (fun _ _ => rfl)) (pa_cons (pe_fld (pv 0) rfl) pa_nil))) pa_nil))) pa_nil)))) (pss_cons (ps_set (i := 4) sc_Opener_open_row.nd rfl (Or.inl rfl) (pe_meth (pv 0) T.cl M_Opener_open_term G_Opener_open_term (hr.mono (by omega)) b_Opener_open_term .nil pass0 (pa_cons (pe_ix ix_tup (pv 1) pe_int (fun _ _ => rfl)) (pa_cons (pe_fld (pv 0) rfl) pa_nil))))
      (pss_one (ps_expr (pe_bm PySem.F.plainAttrs_list PySem.F.slot_list_append PySem.F.type_list_append mt_append (pe_fld (pv 0) rfl) (pa_cons (pe_tup (pa_cons (pe_meth0 (pv 0) T.cl M_Opener_new_slot G_Opener_new_slot (hr.mono (by omega)) b_Opener_new_slot .nil pass0) (pa_cons (pv 4) pa_nil))) pa_nil)))))))))))))), ?_⟩
    cases ow with
    | lett nm t _ _ _ _ _ _ _ hg =>
      obtain ⟨r, vs, rfl, sv, dv⟩ := hv.un
      obtain ⟨v0, v1, v2, rfl, h0, h1, h2⟩ := dats3 dv
      rw [h0.str_eq, h1.str_eq] at sv
      obtain ⟨t', w1, w2, c1, c2, st2, rfl, rfl, rfl, hl, ho, hg⟩ := hg.un
      obtain ⟨rfl, rfl, rfl, rfl⟩ := hg.un0
      refine ⟨_, rfl, r, _, 0, .str "let", rfl, rfl, sv, rfl, ?_⟩
      refine ⟨_, rfl, rfl, _, rfl, iteBB (fun hc => absurd hc (by decide +kernel)) (fun _ => ?_)⟩
      refine ⟨_, rfl, rfl, _, rfl, iteBB (fun _ => ?_) (fun hc => absurd hc (by decide +kernel))⟩
      rw [List.append_nil] at b2
      refine ⟨_, rfl, p, dx, _, rfl, I.hp, rfl, _, rfl, r, _, 1, .str nm, rfl, rfl, sv, rfl, _, rfl, r, _, 2, v2, rfl, rfl, sv, rfl, p, dx, nm, v2, o, t, t', e, ps, sts, w1, c1, rfl, I, h2, ho, by omega, b2, hl, by omega, fun H' ps' B I' eps fr => k H' ps' B I' (by rw [List.append_nil]; exact eps) fr⟩
    | again n nm t _ _ _ _ _ _ _ hn hg =>
      obtain ⟨r, vs, rfl, sv, dv⟩ := hv.un
      obtain ⟨v0, v1, v2, v3, rfl, h0, h1, h2, h3⟩ := dats4 dv
      rw [h0.str_eq, h1.int_eq, h2.str_eq] at sv
      refine ⟨_, rfl, r, _, 0, .str "again", rfl, rfl, sv, rfl, ?_⟩
      refine ⟨_, rfl, rfl, _, rfl, iteBB (fun hc => absurd hc (by decide +kernel)) (fun _ => ?_)⟩
      refine ⟨_, rfl, rfl, _, rfl, iteBB (fun hc => absurd hc (by decide +kernel)) (fun _ => ?_)⟩
      refine ⟨_, rfl, rfl, _, rfl, iteBB (fun _ => ?_) (fun hc => absurd hc (by decide +kernel))⟩
      refine ⟨_, rfl, r, _, 1, .int (n : Int), rfl, rfl, sv, rfl, (n : Int), rfl, by omega, by omega, for_range (lo := 0) (n := n) (fun i σ H' => BtZ [p, o.dr, o.nm, o.st] H H' ∧ SqT K H' r [.str "again", .int (n : Int), .str nm, v3] ∧ DatAt K H' v3 t ∧ ∃ (e1 : List (Key × V)) (psn : List (Addr × List Dt)) (wsn wr : List (List (Int × Int))) (sti str : List Dt) (ci cr : Nat) (o3 : Option V),
          OpI K H' C p dx { o with terms := o.terms + (ci : Int), slots := o.slots + (i : Int) } e1 (ps ++ psn) (sts ++ sti) ∧ psn.map (·.2) = wsn.map (fun d => d.map pI) ∧ (∀ q ∈ psn, H q.1 = none) ∧ sti.length = i ∧ Oag h nm t (n - i) e1 (ps ++ psn).length (o.slots + (i : Int)) e' wr str cr ∧ ws = wsn ++ wr ∧ st = sti ++ str ∧ c = ci + cr ∧
          σ = [some (.ref p), some (.ref r), some (.str "again"), o3, none])
        ⟨.refl, sv, h3, e, [], [], ws, [], st, 0, c, none, by rw [List.append_nil, List.append_nil, show o.terms + ((0 : Nat) : Int) = o.terms by omega, show o.slots + ((0 : Nat) : Int) = o.slots by omega]; exact I, rfl, (fun _ h => nomatch h), rfl, by rw [List.append_nil, show o.slots + ((0 : Nat) : Int) = o.slots by omega]; exact hg, rfl, rfl, by omega, rfl⟩ ?_ ?_⟩
      · rintro i σ H' hi ⟨B, sv', h3', e1, psn, wsn, wr, sti, str, ci, cr, o3, I', eps, fr, lsi, ag, rfl, rfl, rfl, rfl⟩
        rw [show n - i = (n - (i + 1)) + 1 by omega] at ag
        obtain ⟨t', w1, w2, c1, c2, st2, rfl, rfl, rfl, hl, ho, ag⟩ := ag.un
        have lpn : psn.length = wsn.length := by
          have := congrArg List.length eps
          rwa [List.length_map, List.length_map] at this
        simp only [List.length_append] at b2
        refine ⟨_, rfl, p, dx, _, rfl, I'.hp, rfl, _, rfl, r, _, 2, .str nm, rfl, rfl, sv', rfl, _, rfl, r, _, 3, v3, rfl, rfl, sv', rfl, p, dx, nm, v3, _, t, t', e1, ps ++ psn, sts ++ sti, w1, c1, rfl, I', h3', ho, (by show o.terms + (ci : Int) + (c1 : Int) ≤ 600; omega), (by rw [List.length_append]; omega), hl, (by rw [List.length_append]; omega), fun H5 ps5 B5 I5 eps5 fr5 => ?_⟩
        have nz := I'.ntz
        have l5 : ps5.length = w1.length := by
          have := congrArg List.length eps5
          rwa [List.length_map, List.length_map] at this
        refine ⟨B.trans B5, BtZ.tup nz B5 sv', h3'.butZ nz B5, putK e1 (Sum.inr nm) (.int (o.slots + (i : Int))), psn ++ ps5, wsn ++ w1, w2, sti ++ [stD (o.slots + (i : Int)) t'], st2, ci + c1, c2, _, ?_, ?_, ?_, by rw [List.length_append, lsi]; rfl, ?_, by rw [List.append_assoc], by rw [List.append_assoc]; rfl, by omega, rfl⟩
        · rw [← List.append_assoc, ← List.append_assoc, show o.terms + ((ci + c1 : Nat) : Int) = o.terms + (ci : Int) + (c1 : Int) by omega, show o.slots + ((i + 1 : Nat) : Int) = o.slots + (i : Int) + 1 by omega]
          exact I5
        · rw [List.map_append, List.map_append, eps, eps5]
        · intro q hq
          rcases List.mem_append.mp hq with z | z
          · exact fr q z
          · exact OpI.free I' B (fr5 q z)
        · rw [show (ps ++ (psn ++ ps5)).length = (ps ++ psn).length + w1.length by simp only [List.length_append]; omega, show o.slots + ((i + 1 : Nat) : Int) = o.slots + (i : Int) + 1 by omega]
          exact ag
      · rintro σ H' ⟨B, sv', h3', e1, psn, wsn, wr, sti, str, ci, cr, o3, I', eps, fr, lsi, ag, rfl, rfl, rfl, rfl⟩
        rw [show n - n = 0 by omega] at ag
        obtain ⟨rfl, rfl, rfl, rfl⟩ := ag.un0
        refine k H' psn B ?_ (by rw [List.append_nil]; exact eps) fr
        rw [List.append_nil]
        exact I'
    | see t t' _ _ _ _ _ ho =>
      obtain ⟨r, vs, rfl, sv, dv⟩ := hv.un
      obtain ⟨v0, v1, rfl, h0, h1⟩ := dv.two
      rw [h0.str_eq] at sv
      obtain ⟨hp, hn, ll, ⟨us, es, du⟩, sd, si⟩ := I
      have npd : p ≠ o.dr := fun z => by have := ll.at_; rw [← z, hp] at this; cases this
      have nps : p ≠ o.st := fun z => by rw [← z, hp] at es; cases es
      have npn : p ≠ o.nm := fun z => by rw [← z, hp] at hn; cases hn
      have nnd : o.nm ≠ o.dr := fun z => by have := ll.at_; rw [← z, hn] at this; cases this
      have nns : o.nm ≠ o.st := fun z => by rw [← z, hn] at es; cases es
      have nz := ntz hp ll.at_
      have lu := du.length
      refine ⟨_, rfl, r, _, 0, .str "see", rfl, rfl, sv, rfl, ?_⟩
      refine ⟨_, rfl, rfl, _, rfl, iteBB (fun hc => absurd hc (by decide +kernel)) (fun _ => ?_)⟩
      refine ⟨_, rfl, rfl, _, rfl, iteBB (fun hc => absurd hc (by decide +kernel)) (fun _ => ?_)⟩
      refine ⟨_, rfl, rfl, _, rfl, iteBB (fun hc => absurd hc (by decide +kernel)) (fun _ => ?_)⟩
      refine ⟨_, rfl, rfl, _, rfl, iteBB (fun _ => ?_) (fun hc => absurd hc (by decide +kernel))⟩
      refine ⟨_, rfl, p, C, dx, _, .ref o.st, rfl, hp, T.cl, T.n3, rfl, .inl ⟨rfl, _, SqL.of es⟩, _, rfl, _, rfl, p, dx, _, rfl, hp, rfl, _, rfl, r, _, 1, v1, rfl, rfl, sv, rfl, _, rfl, p, C, dx, o.fs, .ref o.nm, rfl, hp, T.cl, T.n2, rfl, p, dx, o.nm, v1, o, t, t', e, ps, ws, c, rfl, hp, h1, hn, ll, ho, b1, b2, fun v' H2 ps' BZ hp2 ll2 eps fr hv2 => ⟨two_le, fun q hq => ?_⟩⟩
      have hn2 := BZ _ _ (nin2 npn.symm nnd) hn
      have es2 := BZ _ _ (nin2 nps.symm sd) es
      have du2 := du.butZ nz BZ
      have BP : BtZ [p, o.dr, o.nm, o.st] H2 H2 := .refl
      have S4 := Same.upd (o := .tup [.int (-1), v']) hq
      refine ⟨o.st, us, _, rfl, rfl, S4 _ _ es2, Nat.lt_of_lt_of_le (show us.length < 1000 by omega) (by decide), ?_⟩
      have B5 : BtA o.st (upd H2 q (.tup [.int (-1), v'])) (upd (upd H2 q (.tup [.int (-1), v'])) o.st (.lst (us ++ [.ref q]))) := .upd
      have si5 : ∀ x ∈ ps ++ ps', x.1 ≠ o.st := fun x hx => by
        rcases List.mem_append.mp hx with z | z
        · exact si x z
        · exact (ne_of_none es (fr x z)).symm
      refine k _ ps' ?_ ⟨B5 _ _ nps (S4 _ _ hp2), B5 _ _ nns (S4 _ _ hn2), (ll2.same S4).but (.lst (S4 _ _ es2)) B5 sd.symm si5, ⟨_, upd_same, ((du2.same S4).append (.cons (.tup (SqT.of upd_same) (.cons (.int _) (.cons (hv2.same S4) .nil))) .nil)).but (.lst (S4 _ _ es2)) B5⟩, sd, si5⟩ eps fr
      exact ((BZ.mono (by simp)).trans BP).trans ((BtZ.of S4).trans (.one (by simp) B5))
    | ask t t' _ _ _ _ _ ho =>
      obtain ⟨r, vs, rfl, sv, dv⟩ := hv.un
      obtain ⟨v0, v1, rfl, h0, h1⟩ := dv.two
      rw [h0.str_eq] at sv
      obtain ⟨hp, hn, ll, ⟨us, es, du⟩, sd, si⟩ := I
      have npd : p ≠ o.dr := fun z => by have := ll.at_; rw [← z, hp] at this; cases this
      have nps : p ≠ o.st := fun z => by rw [← z, hp] at es; cases es
      have npn : p ≠ o.nm := fun z => by rw [← z, hp] at hn; cases hn
      have nnd : o.nm ≠ o.dr := fun z => by have := ll.at_; rw [← z, hn] at this; cases this
      have nns : o.nm ≠ o.st := fun z => by rw [← z, hn] at es; cases es
      have nz := ntz hp ll.at_
      have lu := du.length
      refine ⟨_, rfl, r, _, 0, .str "ask", rfl, rfl, sv, rfl, ?_⟩
      refine ⟨_, rfl, rfl, _, rfl, iteBB (fun hc => absurd hc (by decide +kernel)) (fun _ => ?_)⟩
      refine ⟨_, rfl, rfl, _, rfl, iteBB (fun hc => absurd hc (by decide +kernel)) (fun _ => ?_)⟩
      refine ⟨_, rfl, rfl, _, rfl, iteBB (fun hc => absurd hc (by decide +kernel)) (fun _ => ?_)⟩
      refine ⟨_, rfl, rfl, _, rfl, iteBB (fun hc => absurd hc (by decide +kernel)) (fun _ => ?_)⟩
      refine ⟨_, rfl, p, dx, _, rfl, hp, rfl, _, rfl, r, _, 1, v1, rfl, rfl, sv, rfl, _, rfl, p, C, dx, o.fs, .ref o.nm, rfl, hp, T.cl, T.n2, rfl, p, dx, o.nm, v1, o, t, t', e, ps, ws, c, rfl, hp, h1, hn, ll, ho, b1, b2, fun v' H1 ps' BZ hp1 ll1 eps fr hv1 => ?_⟩
      have hn1 := BZ _ _ (nin2 npn.symm nnd) hn
      have es1 := BZ _ _ (nin2 nps.symm sd) es
      have du1 := du.butZ nz BZ
      refine ⟨_, rfl, p, C, dx, _, .ref o.st, rfl, hp1, T.cl, T.n3, rfl, .inl ⟨rfl, _, SqL.of es1⟩, _, rfl, p, dx, _, rfl, hp1, rfl, p, dx, _, rfl, hp1, _, rfl, two_le, fun q hq => ?_⟩
      have B2 : BtA p H1 (upd H1 p (.ins C dx { o with terms := o.terms + c, slots := o.slots + 1 }.fs)) := .upd
      have hp2 : (upd H1 p (.ins C dx { o with terms := o.terms + c, slots := o.slots + 1 }.fs)) p = some (.ins C dx { o with terms := o.terms + c, slots := o.slots + 1 }.fs) := upd_same
      have in1 : ∀ x ∈ ps ++ ps', x.1 ≠ p := fun x hx z => by
        obtain ⟨_, e2, _⟩ := ll1.it x hx
        rw [z, hp1] at e2
        cases e2
      have ll2 := ll1.but (.ins hp1) B2 npd.symm in1
      have hn2 := B2 _ _ npn.symm hn1
      have es2 := B2 _ _ nps.symm es1
      have du2 := du1.but (.ins hp1) B2
      have hv2 := hv1.but (.ins hp1) B2
      have BP : BtZ [p, o.dr, o.nm, o.st] H1 (upd H1 p (.ins C dx { o with terms := o.terms + c, slots := o.slots + 1 }.fs)) := .one (by simp) B2
      generalize upd H1 p (.ins C dx { o with terms := o.terms + c, slots := o.slots + 1 }.fs) = H2 at hq B2 hp2 ll2 hn2 es2 du2 hv2 BP
      have S4 := Same.upd (o := .tup [.int o.slots, v']) hq
      refine ⟨o.st, us, _, rfl, rfl, S4 _ _ es2, Nat.lt_of_lt_of_le (show us.length < 1000 by omega) (by decide), ?_⟩
      have B5 : BtA o.st (upd H2 q (.tup [.int o.slots, v'])) (upd (upd H2 q (.tup [.int o.slots, v'])) o.st (.lst (us ++ [.ref q]))) := .upd
      have si5 : ∀ x ∈ ps ++ ps', x.1 ≠ o.st := fun x hx => by
        rcases List.mem_append.mp hx with z | z
        · exact si x z
        · exact (ne_of_none es (fr x z)).symm
      refine k _ ps' ?_ ⟨B5 _ _ nps (S4 _ _ hp2), B5 _ _ nns (S4 _ _ hn2), (ll2.same S4).but (.lst (S4 _ _ es2)) B5 sd.symm si5, ⟨_, upd_same, ((du2.same S4).append (.cons (.tup (SqT.of upd_same) (.cons (.int _) (.cons (hv2.same S4) .nil))) .nil)).but (.lst (S4 _ _ es2)) B5⟩, sd, si5⟩ eps fr
      exact ((BZ.mono (by simp)).trans BP).trans ((BtZ.of S4).trans (.one (by simp) B5))
end
end K70
namespace K70
open PySem L2 FW PyProof.Rows
section
variable {P : Program} {w : World} {K : PySem.W.Frag} {mg : Str → Option Value} {base : Heap} {C : Addr} {uS uD : Value}
theorem fld_new {H J : Hp} {p a dx : Addr} {fs fs' : List (Str × V)} {x : HO} (hp : J p = some (.ins C dx fs)) (B : BtA p H J) (ha : J a = none) :
    (upd J a x) p = some (.ins C dx fs) ∧ (upd (upd J a x) p (.ins C dx fs')) p = some (.ins C dx fs') ∧ (upd (upd J a x) p (.ins C dx fs')) a = some x ∧ BtA p H (upd (upd J a x) p (.ins C dx fs')) ∧ BtA p J (upd (upd J a x) p (.ins C dx fs')) ∧ H a = none ∧ a ≠ p := by
  have n : p ≠ a := ne_of_none hp ha
  have B2 : BtA p J (upd (upd J a x) p (.ins C dx fs')) := (BtA.updF ha).trans .upd
  refine ⟨by rw [upd_ne n]; exact hp, upd_same, by rw [upd_ne n.symm, upd_same], B.trans B2, B2, ?_, n.symm⟩
  cases hH : H a with
  | none => rfl
  | some y => rw [B _ _ n.symm hH] at ha; cases ha
theorem ok_init {f : Addr} {fd : FuncData} (F : Fun K "__init__" "Opener.__init__" s_Opener_init f fd) (T : Txt K mg C uS uD) : FnOk P w K mg base CX0 1 f fd ["self"] (sp_init C) := by
  refine F.ok sc_Opener_init (fun vs H Q E h => ?_) (fun cdv Ar outer s H vs Q E hr h => ?_)
  · obtain ⟨p, dx, rfl, _⟩ := h
    rfl
  · obtain ⟨p, dx, rfl, hp, k⟩ := h
    refine ⟨_, (pss_cons (ps_fld (pv 0) pe_dnewK rfl)
      (pss_cons (ps_fld (pv 0) pe_dnewK rfl)
      (pss_cons (ps_fld (pv 0) (pe_lst pa_nil) rfl)
      (pss_cons (ps_fld (pv 0) (pe_lst pa_nil) rfl)
      (pss_cons (ps_fld (pv 0) pe_int rfl)
      (pss_one (ps_fld (pv 0) pe_int rfl))))))), ?_⟩
    refine fun a1 h1 => ?_
    obtain ⟨q1, q2, q3, q4, q5, q6, q7⟩ := fld_new (fs' := [("helpers", .ref a1)]) (x := .dK []) hp (BtA.refl (a := p)) h1
    refine ⟨_, rfl, p, C, dx, [], rfl, q1, T.cl, T.n1, (by show 0 < 1000; decide), ?_⟩
    refine fun a2 h2 => ?_
    obtain ⟨r1, r2, r3, r4, r5, r6, r7⟩ := fld_new (fs' := [("helpers", .ref a1), ("names", .ref a2)]) (x := .dK []) q2 q4 h2
    refine ⟨_, rfl, p, C, dx, _, rfl, r1, T.cl, T.n2, (by show 1 < 1000; decide), ?_⟩
    refine ⟨Nat.zero_le _, fun a3 h3 => ?_⟩
    obtain ⟨s1, s2, s3, s4, s5, s6, s7⟩ := fld_new (fs' := [("helpers", .ref a1), ("names", .ref a2), ("steps", .ref a3)]) (x := .lst []) r2 r4 h3
    refine ⟨_, rfl, p, C, dx, _, rfl, s1, T.cl, T.n3, (by show 2 < 1000; decide), ?_⟩
    refine ⟨Nat.zero_le _, fun a4 h4 => ?_⟩
    obtain ⟨t1, t2, t3, t4, t5, t6, t7⟩ := fld_new (fs' := [("helpers", .ref a1), ("names", .ref a2), ("steps", .ref a3), ("draws", .ref a4)]) (x := .lst []) s2 s4 h4
    refine ⟨_, rfl, p, C, dx, _, rfl, t1, T.cl, T.n4, (by show 3 < 1000; decide), ?_⟩
    refine ⟨_, rfl, p, C, dx, _, rfl, t2, T.cl, T.n5, (by show 4 < 1000; decide), ?_⟩
    refine ⟨_, rfl, p, C, dx, _, rfl, upd_same, T.cl, T.n6, (by show 5 < 1000; decide), ?_⟩
    have n12 : a1 ≠ a2 := ne_of_none q3 h2
    have n34 : a3 ≠ a4 := ne_of_none s3 h4
    have e1 := t5 _ _ q7 (s5 _ _ q7 (r5 _ _ q7 q3))
    have e2 := t5 _ _ r7 (s5 _ _ r7 r3)
    have e3 := t5 _ _ s7 s3
    refine k ⟨a1, a2, a3, a4, 0, 0⟩ _ ((t4.trans .upd).trans .upd) upd_same rfl rfl ?_ ?_ ?_ ?_ (fun a ha => ?_) n12 n34
    · rw [upd_ne q7, upd_ne q7]; exact e1
    · rw [upd_ne r7, upd_ne r7]; exact e2
    · rw [upd_ne s7, upd_ne s7]; exact e3
    · rw [upd_ne t7, upd_ne t7]; exact t3
    · simp only [List.mem_cons, List.not_mem_nil, or_false] at ha
      rcases ha with z | z | z | z <;> rw [z]
      · exact q6
      · exact r6
      · exact s6
      · exact t6
end
end K70
namespace K70
open PySem L2 FW PyProof.Rows
inductive Kn (e : List (Key × V)) : Nat → Dt → Prop
  | name {h : Nat} (nm : Str) (hv : (valV e (Sum.inr nm)).isSome = true) : Kn e (h + 1) (.tup [.str "name", .str nm])
  | node {h : Nat} (kd : Str) (rr ds : List Dt) (n1 : kd ≠ "name") (n2 : kd ≠ "call") (hp : Pt (.tup (.str kd :: rr)) ds) (hs : ∀ d ∈ ds, Kn e h d) : Kn e (h + 1) (.tup (.str kd :: rr))
def sp_check (K : PySem.W.Frag) (h : Nat) : Sp := fun vs H Q _ => ∃ (rw_ v hl : V) (nm : Addr) (t : Dt) (e : List (Key × V)), vs = [rw_, v, .ref nm, hl] ∧ DatAt K H v t ∧ H nm = some (.dK e) ∧ Kn e h t ∧ ∀ H', Same H H' → Q .non H'
section
variable {P : Program} {w : World} {K : PySem.W.Frag} {mg : Str → Option Value} {base : Heap}
theorem ok_check {f fP : Addr} {fd dP : FuncData} (A : FnAt K mg "check_term" s_check_term ["row", "term", "names", "helpers"] f fd) (A_parts_of : FnAt K mg "parts_of" s_parts_of ["term"] fP dP) (B : Bl mg) (len_ : mg "len" = none) : ∀ h : Nat, FnOk P w K mg base CX0 (h + 1) f fd ["row", "term", "names", "helpers"] (sp_check K h)
  | 0 => by
    refine FnOk.imp (FnOk.no) (fun vs H Q E h => ?_)
    obtain ⟨rw_, v, hl, nm, t, e, rfl, _, _, b, _⟩ := h
    cases b
  | N + 1 => by
    have G_check_term : FnOk P w K mg base CX0 (N + 1) f fd _ (sp_check K N) := ok_check A A_parts_of B len_ N
    have G_parts_of : FnOk P w K mg base CX0 1 fP dP _ (sp_parts K) := ok_parts_of A_parts_of B
    refine A.F.ok (k := N + 1) sc_check_term (fun vs H Q E h => ?_) (fun cdv Ar outer s H vs Q E hr h => ?_)
    · obtain ⟨rw_, v, hl, nm, t, e, rfl, _⟩ := h
      rfl
    · obtain ⟨rw_, v, hl, nm, t, e, rfl, hv, hn, b, k⟩ := h
      refine ⟨_, (pss_cons (ps_set (i := 4) sc_check_term.nd rfl (Or.inl rfl) (pe_ix ix_tup (pv 1) pe_int (fun _ _ => rfl)))
        (pss_cons (ps_if (PW.pt (pw_and (pt_cmpR op_eq (pv 4) pe_str (nomark _)) (pw_and1 (pt_cmpR (op_notinD (hu_of hr)) (pe_ix ix_tup (pv 1) pe_int (fun _ _ => rfl)) (pv 2) (by rfl))))) pss_no pss_nil)
        (pss_cons (ps_if (PW.pt (pw_and (pt_cmpR op_eq (pv 4) pe_str (nomark _)) (pw_and1 (pt_cmpR op_ne pe_no (pe_callB call_len_seq (by rfl) len_ Boot.«len» (pa_cons (pe_ix ix_tup (pv 1) pe_int (fun _ _ => rfl)) pa_nil)) (nomark _))))) pss_no pss_nil)
        (pss_one (ps_for PassesOwn.never rfl (pi_list (pe_call G_parts_of (hr.mono (by omega)) rfl A_parts_of.m A_parts_of.F.kp A_parts_of.b .nil pass0 (pa_cons (pv 1) pa_nil))) (pg_name (i := 5) sc_check_term.nd rfl (Or.inl rfl)) (pss_one (ps_expr (pe_call G_check_term hr rfl A.m A.F.kp A.b .nil pass0 (pa_cons (pv 0) (pa_cons (pv 5) (pa_cons (pv 2) (pa_cons (pv 3) pa_nil)))))))))))), ?_⟩
      cases b with
      | name nm' hval =>
        obtain ⟨r, vs, rfl, sv, dv⟩ := hv.un
        obtain ⟨v0, v1, rfl, h0, h1⟩ := dv.two
        rw [h0.str_eq, h1.str_eq] at sv
        refine ⟨_, rfl, r, _, 0, .str "name", rfl, rfl, sv, rfl, ?_⟩
        refine ⟨_, rfl, rfl, _, rfl, iteBB (fun _ => ?_) (fun hc => absurd hc (by decide +kernel))⟩
        refine ⟨_, rfl, r, _, 1, .str nm', rfl, rfl, sv, rfl, _, rfl, nm, _, rfl, DGet.k (k := Sum.inr nm') hn, _, rfl, ?_⟩
        rw [hval]
        refine iteF ?_
        refine ⟨_, rfl, rfl, _, rfl, iteBB (fun hc => absurd hc (by decide +kernel)) (fun _ => ?_)⟩
        refine iteF ?_
        refine ⟨_, rfl, .ref r, _, [], rfl, hv, .name _, fun P1 H1 S1 hP1 lsP => ?_⟩
        obtain ⟨us, eP, du⟩ := lsP
        have := du.un0
        subst this
        exact ⟨P1, rfl, ⟨_, SqL.of eP⟩, for_list (K := K) (a := P1) (xs := []) (fun i σ H' => H' = H1) rfl (fun i σ H' _ z => by rw [z]; exact SqL.of eP) (fun i x σ H' hx _ => by simp at hx) (fun σ H' z => by rw [z]; exact k H1 S1)⟩
      | node kd rr ds n1 n2 hpt hs =>
        obtain ⟨r, vs, rfl, sv, dv⟩ := hv.un
        obtain ⟨v0, vr, rfl, g0, g1⟩ := dv.un
        rw [g0.str_eq] at sv
        refine ⟨_, rfl, r, _, 0, .str kd, rfl, rfl, sv, atI_nat (j := 0) rfl, ?_⟩
        refine ⟨_, rfl, rfl, _, rfl, iteBB (fun hc => absurd (show kd = "name" by simpa using hc) n1) (fun _ => ?_)⟩
        refine iteF ?_
        refine ⟨_, rfl, rfl, _, rfl, iteBB (fun hc => absurd (show kd = "call" by simpa using hc) n2) (fun _ => ?_)⟩
        refine iteF ?_
        refine ⟨_, rfl, .ref r, _, ds, rfl, hv, hpt, fun P1 H1 S1 hP1 lsP => ?_⟩
        obtain ⟨us, eP, du⟩ := lsP
        refine ⟨P1, rfl, ⟨_, SqL.of eP⟩, for_list (K := K) (a := P1) (xs := us) (fun i σ H' => Same H1 H' ∧ ∃ o5, σ = [some rw_, some (.ref r), some (.ref nm), some hl, some (.str kd), o5]) ⟨.refl _, none, rfl⟩ (fun i σ H' _ z => SqL.of (z.1 _ _ eP)) ?_ (fun σ H' z => k H' (S1.trans z.1))⟩
        rintro i x σ H' hx ⟨S2, o5, rfl⟩
        obtain ⟨d, ed, hxd⟩ := (du.same S2).get' hx
        exact ⟨_, rfl, _, rfl, _, rfl, _, rfl, rw_, x, hl, nm, d, e, rfl, hxd, (S1.trans S2) _ _ hn, hs d (List.mem_of_getElem? ed), fun H3 S3 => ⟨S2.trans S3, _, rfl⟩⟩
end
end K70
namespace K70
open PySem L2 FW PyProof.Rows
inductive Orows (h : Nat) : List Dt → List (Key × V) → Nat → Int → List (Key × V) → List (List (Int × Int)) → List Dt → Int → Nat → Prop
  | nil (e : List (Key × V)) (k : Nat) (s : Int) : Orows h [] e k s e [] [] s 0
  | cons (r : Dt) (rs : List Dt) (e e1 e2 : List (Key × V)) (k : Nat) (s s1 s2 : Int) (w1 w2 : List (List (Int × Int))) (st1 st2 : List Dt) (c1 c2 : Nat) (hr : Orow h r e k s e1 w1 st1 s1 c1) (hs : Orows h rs e1 (k + w1.length) s1 e2 w2 st2 s2 c2) : Orows h (r :: rs) e k s e2 (w1 ++ w2) (st1 ++ st2) s2 (c1 + c2)
theorem Orows.un {h k c : Nat} {r : Dt} {rs st : List Dt} {e e2 : List (Key × V)} {s s2 : Int} {ws : List (List (Int × Int))} (o : Orows h (r :: rs) e k s e2 ws st s2 c) :
    ∃ e1 w1 w2 st1 st2 s1 c1 c2, ws = w1 ++ w2 ∧ st = st1 ++ st2 ∧ c = c1 + c2 ∧ Orow h r e k s e1 w1 st1 s1 c1 ∧ Orows h rs e1 (k + w1.length) s1 e2 w2 st2 s2 c2 := by
  cases o with
  | cons _ _ _ e1 _ _ _ s1 _ w1 w2 st1 st2 c1 c2 hr hs => exact ⟨e1, w1, w2, st1, st2, s1, c1, c2, rfl, rfl, rfl, hr, hs⟩
theorem Orows.un0 {h k c : Nat} {st : List Dt} {e e2 : List (Key × V)} {s s2 : Int} {ws : List (List (Int × Int))} (o : Orows h [] e k s e2 ws st s2 c) : e2 = e ∧ ws = [] ∧ st = [] ∧ s2 = s ∧ c = 0 := by
  cases o
  exact ⟨rfl, rfl, rfl, rfl, rfl⟩
inductive Ck1 (h : Nat) : Dt → List (Key × V) → List (Key × V) → Prop
  | see (t : Dt) (e : List (Key × V)) (k : Kn e h t) : Ck1 h (.tup [.str "see", t]) e e
  | ask (t : Dt) (e : List (Key × V)) (k : Kn e h t) : Ck1 h (.tup [.str "ask", t]) e e
  | again (n : Int) (nm : Str) (t : Dt) (e : List (Key × V)) (hv : (valV e (Sum.inr nm)).isSome = true) (k : Kn e h t) : Ck1 h (.tup [.str "again", .int n, .str nm, t]) e e
  | lett (nm : Str) (t : Dt) (e : List (Key × V)) (k : Kn e h t) (hl : e.length < 1000) : Ck1 h (.tup [.str "let", .str nm, t]) e (putK e (Sum.inr nm) (.bl true))
inductive Cks (h : Nat) : List Dt → List (Key × V) → List (Key × V) → Prop
  | nil (e : List (Key × V)) : Cks h [] e e
  | cons (r : Dt) (rs : List Dt) (e e1 e2 : List (Key × V)) (hr : Ck1 h r e e1) (hs : Cks h rs e1 e2) : Cks h (r :: rs) e e2
theorem Cks.un {h : Nat} {r : Dt} {rs : List Dt} {e e2 : List (Key × V)} (o : Cks h (r :: rs) e e2) : ∃ e1, Ck1 h r e e1 ∧ Cks h rs e1 e2 := by
  cases o with
  | cons _ _ _ e1 _ hr hs => exact ⟨e1, hr, hs⟩
end K70
namespace K70
open PySem L2 FW PyProof.Rows
def flds (s a : Addr) (n : Int) : List (Str × V) := putF "slots" (.int n) (putF "draws" (.ref a) (putF "steps" (.ref s) []))
theorem flds_steps (s a : Addr) (n : Int) : (flds s a n).lookup ("steps" : Str) = some (.ref s) := by
  unfold flds
  rw [lookup_putF, if_neg (by decide +kernel), lookup_putF, if_neg (by decide +kernel), lookup_putF, if_pos rfl]
theorem flds_draws (s a : Addr) (n : Int) : (flds s a n).lookup ("draws" : Str) = some (.ref a) := by
  unfold flds
  rw [lookup_putF, if_neg (by decide +kernel), lookup_putF, if_pos rfl]
structure OneAt (K : PySem.W.Frag) (C : Addr) (H : Hp) (p s a : Addr) (n : Int) (sts : List Dt) (ps : List (Addr × List Dt)) : Prop where
  ob : ∃ dx, H p = some (.ins C dx (flds s a n))
  st : LsM K H s sts
  dr : LLM K H a ps
theorem OneAt.same {K : PySem.W.Frag} {C : Addr} {H H' : Hp} {p s a : Addr} {n : Int} {sts : List Dt} {ps : List (Addr × List Dt)} (h : OneAt K C H p s a n sts ps) (e : Same H H') : OneAt K C H' p s a n sts ps := by
  obtain ⟨⟨dx, h1⟩, h2, h3⟩ := h
  exact ⟨⟨dx, e _ _ h1⟩, h2.same e, h3.same e⟩
structure Tx2 (K : PySem.W.Frag) (mg : Str → Option Value) (C : Addr) (uF : Value) : Prop where
  cl : Cls K C
  nS : NoAttr K C "steps"
  nD : NoAttr K C "draws"
  nN : NoAttr K C "slots"
  list_ : mg "list" = none
  len_ : mg "len" = none
  enumerate_ : mg "enumerate" = none
  MOST_DEFS : mg "MOST_DEFS" = some uF
  defs : RelV (.int 3) uF
def sp_oinit (K : PySem.W.Frag) (C : Addr) : Sp := fun vs H Q _ => ∃ p dx s a n sts ps, vs = [.ref p, .ref s, .ref a, .int n] ∧ H p = some (.ins C dx []) ∧ LsM K H s sts ∧ LLM K H a ps ∧ ps.length ≤ 60 ∧
  ∀ s' a' ps' H', BtA p H H' → OneAt K C H' p s' a' n sts ps' → ps'.map (·.2) = ps.map (·.2) → H s' = none → H a' = none → (∀ q ∈ ps', H q.1 = none) → Q .non H'
def sp_cnames (K : PySem.W.Frag) (h : Nat) : Sp := fun vs H Q _ => ∃ a rows e', vs = [.ref a] ∧ LsM K H a rows ∧ Cks h rows [] e' ∧ ∀ H', Same H H' → Q .non H'
def sp_cdefs (K : PySem.W.Frag) (h : Nat) : Sp := fun vs H Q _ => ∃ a rows e e', vs = [.ref a] ∧ LsM K H a rows ∧ Cks h rows e e' ∧ ∀ H', Same H H' → Q .non H'
theorem ne_of {H : Hp} {a b : Addr} {x y : HO} (h1 : H a = some x) (h2 : H b = some y) (n : x ≠ y) : a ≠ b := fun z => by
  rw [z, h2] at h1
  cases h1
  exact n rfl
theorem Ck1.kind {h : Nat} {r : Dt} {e e' : List (Key × V)} (c : Ck1 h r e e') : ∃ kd rr, r = .tup (.str kd :: rr) ∧ kd ≠ "def" := by
  cases c <;> exact ⟨_, _, rfl, by decide +kernel⟩
theorem Cks.kind {h : Nat} : ∀ {rs : List Dt} {e e' : List (Key × V)}, Cks h rs e e' → ∀ r ∈ rs, ∃ kd rr, r = .tup (.str kd :: rr) ∧ kd ≠ "def"
  | [], e, e', _ => fun _ h => nomatch h
  | r :: rs, e, e', c => fun x hx => by
    obtain ⟨e1, h1, h2⟩ := c.un
    rcases List.mem_cons.mp hx with rfl | hx
    · exact h1.kind
    · exact h2.kind x hx
section
variable {P : Program} {w : World} {K : PySem.W.Frag} {mg : Str → Option Value} {base : Heap} {C : Addr} {uF : Value}
set_option maxHeartbeats 2000000 in
theorem ok_oinit {f : Addr} {fd : FuncData} (F : Fun K "__init__" "Opened.__init__" s_Opened_init f fd) (T : Tx2 K mg C uF) : FnOk P w K mg base CX0 1 f fd ["self", "steps", "draws", "slots"] (sp_oinit K C) := by
  refine F.ok sc_Opened_init (fun vs H Q E h => ?_) (fun cdv Ar outer s H vs Q E hr h => ?_)
  · obtain ⟨p, dx, s, a, n, sts, ps, rfl, _⟩ := h
    rfl
  · obtain ⟨p, dx, s1, a, n, sts, ps, rfl, hp, hs, ll, few, k⟩ := h
    refine ⟨_, (pss_cons (ps_fld (pv 0) (pe_callTy call_list_of (by rfl) T.list_ Boot.«list» (pa_cons (pv 1) pa_nil)) rfl)
      (pss_cons (ps_fld (pv 0) (pe_comp rfl (Nc := ["draw"]) (caps0 rfl (by decide +kernel) (by decide +kernel) (by decide +kernel)) (pi_list (pv 2)) (fun _ _ _ _ => (pg_name (i := 0) (show List.Nodup (["draw"] : List Str) by decide +kernel) rfl (Or.inl rfl))) (fun _ _ _ _ => pts_nil) (fun _ _ _ _ => by exact (pe_callTy (call_list_ofK (K := K) rfl) (by rfl) T.list_ Boot.«list» (pa_cons (pv 0) pa_nil)))) rfl)
      (pss_one (ps_fld (pv 0) (pv 3) rfl)))), ?_⟩
    obtain ⟨us, es, ds⟩ := hs
    have nsp : s1 ≠ p := ne_of es hp (by intro z; cases z)
    have nap : a ≠ p := ne_of ll.at_ hp (by intro z; cases z)
    have nip : ∀ q ∈ ps, q.1 ≠ p := fun q hq => by
      obtain ⟨_, e, _⟩ := ll.it q hq
      exact ne_of e hp (by intro z; cases z)
    refine ⟨_, rfl, s1, us, rfl, .inl (SqL.of es), fun l hl => ?_⟩
    have npl : p ≠ l := ne_of_none hp hl
    refine ⟨_, rfl, p, C, dx, [], rfl, (by rw [upd_ne npl]; exact hp), T.cl, T.nS, (by show 0 < 1000; decide), ?_⟩
    have B1 : BtA p H (upd (upd H l (.lst us)) p (.ins C dx (putF "steps" (.ref l) []))) := (BtA.updF hl).trans .upd
    have hp1 : (upd (upd H l (.lst us)) p (.ins C dx (putF "steps" (.ref l) []))) p = some (.ins C dx (putF "steps" (.ref l) [])) := upd_same
    have el : (upd (upd H l (.lst us)) p (.ins C dx (putF "steps" (.ref l) []))) l = some (.lst us) := by rw [upd_ne npl.symm, upd_same]
    have fr1 : ∀ b, (upd (upd H l (.lst us)) p (.ins C dx (putF "steps" (.ref l) []))) b = none → H b = none := fun b e => by
      by_cases hb : b = p
      · subst hb
        rw [upd_same] at e
        cases e
      · rw [upd_ne hb] at e
        exact (Same.upd hl).free e
    generalize upd (upd H l (.lst us)) p (.ins C dx (putF "steps" (.ref l) [])) = H1 at B1 hp1 el fr1
    have nt0 : NT H p := .ins hp
    have ll1 := ll.but nt0 B1 nap nip
    have ds1 := ds.but nt0 B1
    refine ⟨_, rfl, a, rfl, ⟨_, SqL.of ll1.at_⟩, fun D hD => ?_⟩
    refine comp_list (K := K) (a := a) (D := D) (xs := ps.map fun q => V.ref q.1) (fun i σ ys H' => (∃ o1, σ = [o1]) ∧ Same H1 H' ∧ H' D = some (.lst ys) ∧ ∃ qs : List (Addr × List Dt), ys = qs.map (fun q => V.ref q.1) ∧ qs.map (·.2) = (ps.take i).map (·.2) ∧ ∀ q ∈ qs, LsM K H' q.1 q.2 ∧ H1 q.1 = none ∧ q.1 ≠ D)
      ⟨⟨none, rfl⟩, .upd hD, upd_same, [], rfl, rfl, (fun _ h => nomatch h)⟩ ?_ ?_ ?_
    · rintro i σ ys H' hi ⟨_, S2, eD, qs, rfl, eq, _⟩
      have := congrArg List.length eq
      rw [List.length_map, List.length_map, List.length_take] at this
      exact ⟨SqL.of (S2 _ _ ll1.at_), eD, Nat.lt_of_le_of_lt (show (qs.map fun q => V.ref q.1).length ≤ 60 by rw [List.length_map]; omega) (by decide)⟩
    · rintro i x σ ys H' hx ⟨⟨o1, rfl⟩, S2, eD, qs, rfl, eq, hq⟩ N hN
      obtain ⟨p0, e0, rfl⟩ := map_get hx
      obtain ⟨ws, ew, dw⟩ := (ll1.it p0 (List.mem_of_getElem? e0)).same S2
      refine iteT (B := True) ?_
      refine ⟨_, rfl, p0.1, ws, rfl, .inl (SqL.of ew), fun c hc => ?_⟩
      have S3 : Same H' (upd H' c (.lst ws)) := .upd hc
      have e5 := S3 _ _ eD
      have ncD : c ≠ D := (ne_of_none eD hc).symm
      refine ⟨e5, hN _ _ _ ⟨⟨_, rfl⟩, fun b o e => ?_, upd_same, qs ++ [(c, p0.2)], by rw [List.map_append]; rfl, ?_, fun q z => ?_⟩⟩
      · rw [upd_ne (ne_of_none e hD)]
        exact S3 _ _ (S2 _ _ e)
      · rw [List.map_append, take_snoc' e0, List.map_append, eq]
        rfl
      · rcases List.mem_append.mp z with z | z
        · exact ⟨((hq q z).1.same S3).but (.lst e5) .upd (hq q z).2.2, (hq q z).2⟩
        · cases List.mem_singleton.mp z
          exact ⟨LsM.but (a := D) ⟨ws, upd_same, dw.same S3⟩ (.lst e5) .upd ncD, S2.free hc, ncD⟩
    · rintro σ ys H2 ⟨_, S2, eD, qs, rfl, eq, hq⟩
      rw [List.take_of_length_le (by rw [List.length_map]; exact Nat.le_refl _)] at eq
      have hp2 := S2 _ _ hp1
      have nDp : D ≠ p := (ne_of_none hp1 hD).symm
      refine ⟨_, rfl, p, C, dx, _, rfl, hp2, T.cl, T.nD, (by show 1 < 1000; decide), ?_⟩
      refine ⟨_, rfl, _, rfl, p, C, dx, _, rfl, upd_same, T.cl, T.nN, (by show 2 < 1000; decide), ?_⟩
      have B2 : ∀ o o' : HO, BtA p H2 (upd (upd H2 p o) p o') := fun o o' => BtA.upd.trans .upd
      have nt2 : NT H2 p := .ins hp2
      refine k l D qs _ ((B1.trans (.of S2)).trans (B2 _ _)) ⟨⟨dx, upd_same⟩, LsM.but (H := H2) ⟨us, S2 _ _ el, ds1.same S2⟩ nt2 (B2 _ _) npl.symm, LLM.but (H := H2) ⟨eD, fun q z => (hq q z).1, fun q z => (hq q z).2.2⟩ nt2 (B2 _ _) nDp (fun q z => (ne_of_none hp1 (hq q z).2.1).symm)⟩ eq hl (fr1 _ hD) (fun q z => fr1 _ (hq q z).2.1)
set_option maxHeartbeats 2000000 in
theorem ok_check_names {h : Nat} {f fC fP : Addr} {fd dC dP : FuncData} (A : FnAt K mg "check_names" s_check_names ["program"] f fd) (A_check_term : FnAt K mg "check_term" s_check_term ["row", "term", "names", "helpers"] fC dC) (A_parts_of : FnAt K mg "parts_of" s_parts_of ["term"] fP dP) (B : Bl mg) (T : Tx2 K mg C uF) :
    FnOk P w K mg base CX0 (h + 2) f fd ["program"] (sp_cnames K h) := by
  have G_check_term : FnOk P w K mg base CX0 (h + 1) fC dC _ (sp_check K h) := ok_check A_check_term A_parts_of B T.len_ h
  refine A.F.ok (k := h + 1) sc_check_names (fun vs H Q E h => ?_) (fun cdv Ar outer s H vs Q E hr h => ?_)
  · obtain ⟨a, rows, e', rfl, _⟩ := h
    rfl
  · obtain ⟨a, rows, e', rfl, ⟨us, ea, du⟩, ck, k⟩ := h
    refine ⟨_, (pss_cons (ps_set (i := 1) sc_check_names.nd rfl (Or.inl rfl) pe_dnewK)
      (pss_cons (ps_set (i := 2) sc_check_names.nd rfl (Or.inl rfl) pe_dnewK)
      (pss_one (ps_for PassesOwn.never rfl (pi_enum rfl T.enumerate_ (pa_cons (pv 0) pa_nil)) (pg_tup rfl (pgs_cons (pg_name (i := 3) sc_check_names.nd rfl (Or.inl rfl)) (pgs_cons (pg_name (i := 4) sc_check_names.nd rfl (Or.inl rfl)) pgs_nil))) (pss_cons (ps_set (i := 5) sc_check_names.nd rfl (Or.inl rfl) (pe_ix ix_tup (pv 4) pe_int (fun _ _ => rfl)))
      (pss_one (ps_if (pt_cmpR op_eq (pv 5) pe_str (nomark _)) pss_no (pss_cons (ps_if (PW.pt (pw_and (pt_cmpR op_eq (pv 5) pe_str (nomark _)) (pw_and1 (pt_cmpR (op_notinD (hu_of hr)) (pe_ix ix_tup (pv 4) pe_int (fun _ _ => rfl)) (pv 1) (by rfl))))) pss_no pss_nil)
      (pss_cons (ps_expr (pe_call G_check_term hr rfl A_check_term.m A_check_term.F.kp A_check_term.b .nil pass0 (pa_cons (pv 3) (pa_cons (pe_ix ix_tup (pv 4) (pe_un un_neg pe_int) (fun _ _ => rfl)) (pa_cons (pv 1) (pa_cons (pv 2) pa_nil))))))
      (pss_one (ps_if (pt_cmpR op_eq (pv 5) pe_str (nomark _)) (pss_one (ps_dput (hu_of hr) (pv 1) (pe_ix ix_tup (pv 4) pe_int (fun _ _ => rfl)) pe_bl rfl)) pss_nil))))))))))), ?_⟩
    refine fun N hN => fun M hM => ?_
    have SN := Same.upd (o := .dK []) hN
    have eN : (upd H N (.dK [])) N = some (.dK []) := upd_same
    generalize upd H N (.dK []) = H1 at SN eN hM
    have SM := Same.upd (o := .dK []) hM
    have nMN : M ≠ N := (ne_of_none eN hM).symm
    have lu := du.length
    generalize upd H1 M (.dK []) = H2 at SM
    have S0 := SN.trans SM
    refine ⟨_, rfl, a, rfl, ⟨_, SqL.of (S0 _ _ ea)⟩, for_enum (K := K) (a := a) (xs := us) (fun i σ H' => Same H H' ∧ ∃ e1 o3 o4 o5, H' N = some (.dK e1) ∧ Cks h (rows.drop i) e1 e' ∧ σ = [some (.ref a), some (.ref N), some (.ref M), o3, o4, o5])
      ⟨S0, [], none, none, none, SM _ _ eN, ck, rfl⟩ (fun i σ H' _ z => SqL.of (z.1 _ _ ea)) ?_ (fun σ H' z => k H' z.1)⟩
    rintro i x σ H' q hx ⟨S, e1, o3, o4, o5, eN', ck', rfl⟩ hq
    have S3 := Same.upd (o := .tup [.int (i : Int), x]) hq
    have e3 : (upd H' q (.tup [.int (i : Int), x])) q = some (.tup [.int (i : Int), x]) := upd_same
    generalize upd H' q (.tup [.int (i : Int), x]) = H3 at S3 e3
    have S03 := S.trans S3
    have eN3 := S3 _ _ eN'
    obtain ⟨d, ed, hxd⟩ := (du.same S03).get' hx
    have hi := (List.getElem?_eq_some_iff.mp ed).1
    rw [List.drop_eq_getElem_cons hi, (List.getElem?_eq_some_iff.mp ed).2] at ck'
    obtain ⟨e2, c1, c2⟩ := ck'.un
    refine ⟨q, _, rfl, SqT.of e3, rfl, _, _, rfl, _, _, rfl, rfl, ?_⟩
    cases c1 with
    | see t _ kn =>
      obtain ⟨r, vs, rfl, sv, dv⟩ := hxd.un
      obtain ⟨v0, v1, rfl, h0, h1⟩ := dv.two
      rw [h0.str_eq] at sv
      refine ⟨_, rfl, r, _, 0, .str "see", rfl, rfl, sv, rfl, ?_⟩
      refine ⟨_, rfl, rfl, _, rfl, iteBB (fun hc => absurd hc (by decide +kernel)) (fun _ => ?_)⟩
      refine ⟨_, rfl, rfl, _, rfl, iteBB (fun hc => absurd hc (by decide +kernel)) (fun _ => ?_)⟩
      refine iteF ?_
      refine ⟨_, rfl, _, rfl, _, rfl, r, _, _, v1, rfl, rfl, sv, rfl, _, rfl, _, rfl, _, v1, _, N, t, e1, rfl, h1, eN3, kn, fun H4 S4 => ?_⟩
      exact ⟨_, rfl, rfl, _, rfl, iteBB (fun hc => absurd hc (by decide +kernel)) (fun _ => ⟨S03.trans S4, e1, _, _, _, S4 _ _ eN3, c2, rfl⟩)⟩
    | ask t _ kn =>
      obtain ⟨r, vs, rfl, sv, dv⟩ := hxd.un
      obtain ⟨v0, v1, rfl, h0, h1⟩ := dv.two
      rw [h0.str_eq] at sv
      refine ⟨_, rfl, r, _, 0, .str "ask", rfl, rfl, sv, rfl, ?_⟩
      refine ⟨_, rfl, rfl, _, rfl, iteBB (fun hc => absurd hc (by decide +kernel)) (fun _ => ?_)⟩
      refine ⟨_, rfl, rfl, _, rfl, iteBB (fun hc => absurd hc (by decide +kernel)) (fun _ => ?_)⟩
      refine iteF ?_
      refine ⟨_, rfl, _, rfl, _, rfl, r, _, _, v1, rfl, rfl, sv, rfl, _, rfl, _, rfl, _, v1, _, N, t, e1, rfl, h1, eN3, kn, fun H4 S4 => ?_⟩
      exact ⟨_, rfl, rfl, _, rfl, iteBB (fun hc => absurd hc (by decide +kernel)) (fun _ => ⟨S03.trans S4, e1, _, _, _, S4 _ _ eN3, c2, rfl⟩)⟩
    | again n nm t _ hv kn =>
      obtain ⟨r, vs, rfl, sv, dv⟩ := hxd.un
      obtain ⟨v0, v1, v2, v3, rfl, h0, h1, h2, h3⟩ := dats4 dv
      rw [h0.str_eq, h2.str_eq] at sv
      refine ⟨_, rfl, r, _, 0, .str "again", rfl, rfl, sv, rfl, ?_⟩
      refine ⟨_, rfl, rfl, _, rfl, iteBB (fun hc => absurd hc (by decide +kernel)) (fun _ => ?_)⟩
      refine ⟨_, rfl, rfl, _, rfl, iteBB (fun _ => ?_) (fun hc => absurd hc (by decide +kernel))⟩
      refine ⟨_, rfl, r, _, 2, .str nm, rfl, rfl, sv, rfl, _, rfl, N, _, rfl, DGet.k (k := Sum.inr nm) eN3, _, rfl, ?_⟩
      rw [hv]
      refine iteF ?_
      refine ⟨_, rfl, _, rfl, _, rfl, r, _, _, v3, rfl, rfl, sv, rfl, _, rfl, _, rfl, _, v3, _, N, t, e1, rfl, h3, eN3, kn, fun H4 S4 => ?_⟩
      exact ⟨_, rfl, rfl, _, rfl, iteBB (fun hc => absurd hc (by decide +kernel)) (fun _ => ⟨S03.trans S4, e1, _, _, _, S4 _ _ eN3, c2, rfl⟩)⟩
    | lett nm t _ kn hl =>
      obtain ⟨r, vs, rfl, sv, dv⟩ := hxd.un
      obtain ⟨v0, v1, v2, rfl, h0, h1, h2⟩ := dats3 dv
      rw [h0.str_eq, h1.str_eq] at sv
      refine ⟨_, rfl, r, _, 0, .str "let", rfl, rfl, sv, rfl, ?_⟩
      refine ⟨_, rfl, rfl, _, rfl, iteBB (fun hc => absurd hc (by decide +kernel)) (fun _ => ?_)⟩
      refine ⟨_, rfl, rfl, _, rfl, iteBB (fun hc => absurd hc (by decide +kernel)) (fun _ => ?_)⟩
      refine iteF ?_
      refine ⟨_, rfl, _, rfl, _, rfl, r, _, _, v2, rfl, rfl, sv, rfl, _, rfl, _, rfl, _, v2, _, N, t, e1, rfl, h2, eN3, kn, fun H4 S4 => ?_⟩
      refine ⟨_, rfl, rfl, _, rfl, iteBB (fun _ => ?_) (fun hc => absurd hc (by decide +kernel))⟩
      refine ⟨_, rfl, _, rfl, r, _, 1, .str nm, rfl, rfl, S4.tup sv, rfl, N, _, rfl, DPut.k (k := Sum.inr nm) (S4 _ _ eN3) (Nat.lt_of_lt_of_le hl (by decide)), ?_⟩
      refine ⟨fun b o e => ?_, _, _, _, _, upd_same, c2, rfl⟩
      rw [upd_ne (ne_of_none e hN)]
      exact (S03.trans S4) _ _ e
theorem ok_check_defs {h : Nat} {f : Addr} {fd : FuncData} (A : FnAt K mg "check_defs" s_check_defs ["program"] f fd) (T : Tx2 K mg C uF) : FnOk P w K mg base CX0 1 f fd ["program"] (sp_cdefs K h) := by
  refine A.F.ok sc_check_defs (fun vs H Q E h => ?_) (fun cdv Ar outer s H vs Q E hr h => ?_)
  · obtain ⟨a, rows, e, e', rfl, _⟩ := h
    rfl
  · obtain ⟨a, rows, e, e', rfl, ⟨us, ea, du⟩, ck, k⟩ := h
    refine ⟨_, (pss_one (ps_if (pt_cmpR op_gt (pe_callB call_len_seq (by rfl) T.len_ Boot.«len» (pa_cons (pe_comp rfl (Nc := ["row"]) (caps0 rfl (by decide +kernel) (by decide +kernel) (by decide +kernel)) (pi_list (pv 0)) (fun _ _ _ _ => (pg_name (i := 0) (show List.Nodup (["row"] : List Str) by decide +kernel) rfl (Or.inl rfl))) (fun _ _ _ _ => by exact (pts_one (pt_cmpR op_eq (pe_ix (ix_tupK (K := K) rfl) (pv 0) pe_int (fun _ _ => rfl)) pe_str (nomark _)))) (fun _ _ _ _ => (pv 0))) pa_nil)) (pe_glob rfl T.MOST_DEFS (v := .int 3) T.defs) (nomark _)) pss_no pss_nil)), ?_⟩
    refine ⟨_, rfl, a, rfl, ⟨_, SqL.of ea⟩, fun D hD => ?_⟩
    refine comp_list (K := K) (a := a) (D := D) (xs := us) (fun i σ ys H' => (∃ o1, σ = [o1]) ∧ Same H H' ∧ H' D = some (.lst ys) ∧ ys = [])
      ⟨⟨none, rfl⟩, .upd hD, upd_same, rfl⟩ ?_ ?_ ?_
    · rintro i σ ys H' hi ⟨_, S2, eD, rfl⟩
      exact ⟨SqL.of (S2 _ _ ea), eD, by decide⟩
    · rintro i x σ ys H' hx ⟨⟨o1, rfl⟩, S2, eD, rfl⟩ N hN
      obtain ⟨d, ed, hxd⟩ := (du.same S2).get' hx
      obtain ⟨kd, rr, rfl, nd⟩ := ck.kind d (List.mem_of_getElem? ed)
      obtain ⟨r, vs, rfl, sv, dv⟩ := hxd.un
      obtain ⟨v0, vr, rfl, g0, g1⟩ := dv.un
      rw [g0.str_eq] at sv
      refine ⟨_, rfl, r, _, 0, .str kd, rfl, rfl, sv, atI_nat (j := 0) rfl, ?_⟩
      refine ⟨rfl, _, rfl, iteBB (fun hc => absurd (show kd = "def" by simpa using hc) nd) (fun _ => ?_)⟩
      exact hN _ _ _ ⟨⟨_, rfl⟩, S2, eD, rfl⟩
    · rintro σ ys H' ⟨_, S2, eD, rfl⟩
      refine ⟨D, _, rfl, .inl (SqL.of eD), _, _, rfl, rfl, _, rfl, iteBB (fun hc => ?_) (fun _ => k H' S2)⟩
      have := of_decide_eq_true hc
      simp at this
end
end K70
namespace K70
open PySem L2 FW PyProof.Rows
theorem DatsAt.last {K : PySem.W.Frag} {H : Hp} : ∀ {ds : List Dt} {vs : List V}, DatsAt K H vs ds → vs ≠ [] → ∃ vs0 v ds0 d, vs = vs0 ++ [v] ∧ ds = ds0 ++ [d] ∧ DatsAt K H vs0 ds0 ∧ DatAt K H v d
  | [], vs, h, n => absurd h.un0 n
  | d :: ds, vs, h, n => by
    obtain ⟨v, r, rfl, h1, h2⟩ := h.un
    by_cases e : r = []
    · subst e
      have : ds = [] := by
        have := h2.length
        simpa using this.symm
      subst this
      exact ⟨[], v, [], d, rfl, rfl, .nil, h1⟩
    · obtain ⟨vs0, w, ds0, e0, rfl, rfl, h3, h4⟩ := DatsAt.last h2 e
      exact ⟨v :: vs0, w, d :: ds0, e0, rfl, rfl, .cons h1 h3, h4⟩
def sp_opened (K : PySem.W.Frag) (C : Addr) (h : Nat) : Sp := fun vs H Q _ => ∃ (a : Addr) (rows : List Dt) (e1 e' : List (Key × V)) (ws : List (List (Int × Int))) (st : List Dt) (s' : Int) (c : Nat),
  vs = [.ref a] ∧ LsM K H a rows ∧ Cks h rows [] e1 ∧ Orows h rows [] 0 0 e' ws st s' c ∧ c ≤ 600 ∧ ws.length ≤ 60 ∧ st.length ≤ 900 ∧
  ∀ p sA aA ps H', Same H H' → H p = none → OneAt K C H' p sA aA s' st ps → ps.map (·.2) = ws.map (fun d => d.map pI) → Q (.ref p) H'
section
variable {P : Program} {w : World} {K : PySem.W.Frag} {mg : Str → Option Value} {base : Heap} {C CO : Addr} {uF uS uD : Value}
set_option maxHeartbeats 4000000 in
theorem ok_opened {h : Nat} {f fN fD fI fR fJ : Addr} {fd dN dD dI dR dJ : FuncData} (A : FnAt K mg "opened" s_opened ["program"] f fd) (A_check_names : FnAt K mg "check_names" s_check_names ["program"] fN dN) (G_check_names : FnOk P w K mg base CX0 (h + 2) fN dN ["program"] (sp_cnames K h))
    (A_check_defs : FnAt K mg "check_defs" s_check_defs ["program"] fD dD) (G_check_defs : FnOk P w K mg base CX0 1 fD dD ["program"] (sp_cdefs K h)) (M_Opener : Mk K C fI) (G_Opener_init : FnOk P w K mg base CX0 1 fI dI ["self"] (sp_init C)) (b_Opener_init : Binds K dI ["self"] [])
    (M_Opener_open_row : Meth K C "open_row" fR) (G_Opener_open_row : FnOk P w K mg base CX0 (h + 4) fR dR ["self", "row"] (sp_row K C h)) (b_Opener_open_row : Binds K dR ["self", "row"] [])
    (M_Opened : Mk K CO fJ) (G_Opened_init : FnOk P w K mg base CX0 1 fJ dJ ["self", "steps", "draws", "slots"] (sp_oinit K CO)) (b_Opened_init : Binds K dJ ["self", "steps", "draws", "slots"] [])
    (hOp : mg "Opener" = some (.ref C)) (hOd : mg "Opened" = some (.ref CO)) (T : Txt K mg C uS uD) : FnOk P w K mg base CX0 (h + 5) f fd ["program"] (sp_opened K CO h) := by
  refine A.F.ok (k := h + 4) sc_opened (fun vs H Q E h => ?_) (fun cdv Ar outer s H vs Q E hr h => ?_)
  · obtain ⟨a, rows, e1, e', ws, st, s', c, rfl, _⟩ := h
    rfl
  · obtain ⟨a, rows, e1, e', ws, st, s', c, rfl, la, ck, os, hc, hw, hst, k⟩ := h
    refine ⟨_, (pss_cons (ps_expr (pe_call G_check_names (hr.mono (by omega)) rfl A_check_names.m A_check_names.F.kp A_check_names.b .nil pass0 (pa_cons (pv 0) pa_nil)))
      (pss_cons (ps_expr (pe_call G_check_defs (hr.mono (by omega)) rfl A_check_defs.m A_check_defs.F.kp A_check_defs.b .nil pass0 (pa_cons (pv 0) pa_nil)))
      (pss_cons (ps_set (i := 1) sc_opened.nd rfl (Or.inl rfl) (pe_make0 M_Opener G_Opener_init (hr.mono (by omega)) rfl hOp b_Opener_init .nil pass0))
      (pss_cons (ps_for PassesOwn.never rfl (pi_list (pv 0)) (pg_name (i := 2) sc_opened.nd rfl (Or.inl rfl)) (pss_one (ps_expr (pe_meth (pv 1) T.cl M_Opener_open_row G_Opener_open_row (hr.mono (by omega)) b_Opener_open_row .nil pass0 (pa_cons (pv 2) pa_nil)))))
      (pss_one (ps_ret (pe_make M_Opened G_Opened_init (hr.mono (by omega)) rfl hOd b_Opened_init .nil pass0 (pa_cons (pe_fld (pv 1) rfl) (pa_cons (pe_fld (pv 1) rfl) (pa_cons (pe_fld (pv 1) rfl) pa_nil)))))))))), ?_⟩
    obtain ⟨us, ea, du⟩ := la
    refine ⟨_, rfl, a, rows, e1, rfl, ⟨us, ea, du⟩, ck, fun H1 S1 => ?_⟩
    refine ⟨_, rfl, a, rows, [], e1, rfl, ⟨us, S1 _ _ ea, du.same S1⟩, ck, fun H2 S2 => ?_⟩
    have S02 := S1.trans S2
    refine fun p dx hp hdx ndp => ?_
    have S3 : Same H2 (upd (upd H2 dx (.own p)) p (.ins C dx [])) := (Same.upd hdx).updR (by rw [upd_ne ndp.symm]; exact hp)
    have e3 : (upd (upd H2 dx (.own p)) p (.ins C dx [])) p = some (.ins C dx []) := upd_same
    refine ⟨p, dx, rfl, e3, fun o H4 B4 hp4 hs0 ht0 hh1 hh2 hh3 hh4 fr n12 n34 => ⟨rfl, ?_⟩⟩
    generalize upd (upd H2 dx (.own p)) p (.ins C dx []) = H3 at S3 e3 B4 fr
    have S24 : Same H2 H4 := fun b x e => B4 b x (ne_of_none e hp) (S3 b x e)
    have I4 : OpI K H4 C p dx o [] [] [] := ⟨hp4, hh2, ⟨hh4, (fun _ h => nomatch h), (fun _ h => nomatch h)⟩, ⟨[], hh3, .nil⟩, n34, (fun _ h => nomatch h)⟩
    have fz : ∀ x ∈ [p, o.dr, o.nm, o.st], H2 x = none := fun x hx => by
      rcases List.mem_cons.mp hx with z | z
      · rw [z]; exact hp
      · refine S3.free (fr x ?_)
        simp only [List.mem_cons, List.not_mem_nil, or_false] at z ⊢
        rcases z with z | z | z <;> simp [z]
    have lu := du.length
    refine ⟨_, rfl, a, rfl, ⟨_, SqL.of (S24 _ _ (S02 _ _ ea))⟩, for_list (K := K) (a := a) (xs := us) (fun i σ H' => Same H2 H' ∧ ∃ (tt ss : Int) (e : List (Key × V)) (ps : List (Addr × List Dt)) (wsn wr : List (List (Int × Int))) (sts str : List Dt) (cr : Nat) (o2 : Option V),
        OpI K H' C p dx { o with terms := tt, slots := ss } e ps sts ∧ ps.map (·.2) = wsn.map (fun d => d.map pI) ∧ ws = wsn ++ wr ∧ st = sts ++ str ∧ tt + (cr : Int) = (c : Int) ∧ Orows h (rows.drop i) e ps.length ss e' wr str s' cr ∧ σ = [some (.ref a), some (.ref p), o2])
      ⟨S24, o.terms, o.slots, [], [], [], ws, [], st, c, none, I4, rfl, rfl, rfl, by omega, by rw [hs0]; exact os, rfl⟩ (fun i σ H' _ z => SqL.of (z.1 _ _ (S02 _ _ ea))) ?_ ?_⟩
    · rintro i x σ H' hx ⟨S, tt, ss, e, ps, wsn, wr, sts, str, cr, o2, I, eps, rfl, rfl, ec, ors, rfl⟩
      obtain ⟨d, ed, hxd⟩ := (du.same (S02.trans S)).get' hx
      have hi := (List.getElem?_eq_some_iff.mp ed).1
      rw [List.drop_eq_getElem_cons hi, (List.getElem?_eq_some_iff.mp ed).2] at ors
      obtain ⟨e2, w1, w2, st1, st2, s1, c1, c2, rfl, rfl, rfl, or1, or2⟩ := ors.un
      have lps : ps.length = wsn.length := by
        have := congrArg List.length eps
        rwa [List.length_map, List.length_map] at this
      simp only [List.length_append] at hw hst
      refine ⟨_, rfl, p, dx, _, rfl, I.hp, rfl, _, rfl, p, dx, x, { o with terms := tt, slots := ss }, d, e, e2, ps, sts, st1, w1, s1, c1, rfl, I, hxd, or1, (by show tt + (c1 : Int) ≤ 600; omega), by omega, by omega, fun H5 ps' BZ I5 eps5 fr5 => ?_⟩
      refine ⟨BZ.same fz S, tt + c1, s1, e2, ps ++ ps', wsn ++ w1, w2, sts ++ st1, st2, c2, _, I5, by rw [List.map_append, List.map_append, eps, eps5], by rw [List.append_assoc], by rw [List.append_assoc], by omega, ?_, rfl⟩
      have l5 : ps'.length = w1.length := by
        have := congrArg List.length eps5
        rwa [List.length_map, List.length_map] at this
      rw [List.length_append, l5]
      exact or2
    · rintro σ H' ⟨S, tt, ss, e, ps, wsn, wr, sts, str, cr, o2, I, eps, rfl, rfl, ec, ors, rfl⟩
      rw [List.drop_of_length_le (by omega)] at ors
      obtain ⟨rfl, rfl, rfl, rfl, rfl⟩ := ors.un0
      rw [List.append_nil] at hw hst k
      rw [List.append_nil] at k
      have lps : ps.length = wsn.length := by
        have := congrArg List.length eps
        rwa [List.length_map, List.length_map] at this
      refine ⟨_, rfl, p, C, dx, _, .ref o.st, rfl, I.hp, T.cl, T.n3, rfl, _, rfl, p, C, dx, _, .ref o.dr, rfl, I.hp, T.cl, T.n4, rfl, _, rfl, p, C, dx, _, .int s', rfl, I.hp, T.cl, T.n5, rfl, fun p2 dx2 hp2 hdx2 nd2 => ?_⟩
      have S6 : Same H' (upd (upd H' dx2 (.own p2)) p2 (.ins CO dx2 [])) := (Same.upd hdx2).updR (by rw [upd_ne nd2.symm]; exact hp2)
      have e6 : (upd (upd H' dx2 (.own p2)) p2 (.ins CO dx2 [])) p2 = some (.ins CO dx2 []) := upd_same
      generalize upd (upd H' dx2 (.own p2)) p2 (.ins CO dx2 []) = H6 at S6 e6
      have S0' := S02.trans S
      refine ⟨p2, dx2, o.st, o.dr, s', sts, ps, rfl, e6, I.st.same S6, I.ll.same S6, by omega, fun s2 a2 ps2 H7 B7 one eq f1 f2 f3 => ⟨rfl, k p2 s2 a2 ps2 H7 (fun b x eb => B7 b x (ne_of_none (S0' _ _ eb) hp2) (S6 _ _ (S0' _ _ eb))) (S0'.free hp2) one (eq.trans eps)⟩⟩
end
end K70
namespace K70
open PySem L2 FW PyProof.Rows
abbrev nI (c : Nat) : V := .int (c : Int)
abbrev Dw := List (List (Int × Int))
structure Tx3 (K : PySem.W.Frag) (mg : Str → Option Value) (CH CN : Addr) (uR : Value) : Prop where
  clN : Cls K CN
  nT : NoAttr K CN "taken"
  nN : NoAttr K CN "numbers"
  Hand_ : mg "Hand" = some (.ref CH)
  Numbered_ : mg "Numbered" = some (.ref CN)
  ROUND : mg "ROUND" = some uR
  round : RelV (.int 1000000000000) uR
  isinstance_ : mg "isinstance" = none
  int_ : mg "int" = none
  bool_ : mg "bool" = none
  tuple_ : mg "tuple" = none
  list_ : mg "list" = none
  len_ : mg "len" = none
  range_ : mg "range" = none
  sum_ : mg "sum" = none
  enumerate_ : mg "enumerate" = none
theorem get_ex {α : Type} {l : List α} {i : Nat} (h : i < l.length) : ∃ x, l[i]? = some x := ⟨l[i], List.getElem?_eq_getElem h⟩
theorem map_at {α β : Type} {f : α → β} {l : List α} {i : Nat} {y : β} (h : (l.map f)[i]? = some y) : ∃ x, l[i]? = some x ∧ y = f x := by
  rw [List.getElem?_map] at h
  cases e : l[i]? with
  | none => rw [e] at h; cases h
  | some x => rw [e] at h; exact ⟨x, rfl, (Option.some.inj h).symm⟩
theorem take_one {α : Type} {l : List α} {i : Nat} {x : α} (h : l[i]? = some x) : l.take (i + 1) = l.take i ++ [x] := by
  rw [List.take_succ, h]
  rfl
structure Abv (n : Int) (ws : List Int) (j : Nat) : Prop where
  lt : j < ws.length
  lo : (ws.take j).sum ≤ n
  hi : n < (ws.take (j + 1)).sum
theorem sum_snoc (l : List Int) (x : Int) : (l ++ [x]).sum = l.sum + x := by
  rw [List.sum_append]
  simp
theorem sum_mono {ws : List Int} (h : ∀ x ∈ ws, 0 ≤ x) : ∀ {i j : Nat}, i ≤ j → (ws.take i).sum ≤ (ws.take j).sum := by
  intro i j hij
  induction j with
  | zero => rw [show i = 0 by omega]; exact Int.le_refl _
  | succ j ih =>
    by_cases e : i = j + 1
    · rw [e]; exact Int.le_refl _
    · have := ih (by omega)
      by_cases hj : j < ws.length
      · obtain ⟨x, hx⟩ := get_ex hj
        rw [take_one hx, sum_snoc]
        have := h x (List.mem_of_getElem? hx)
        omega
      · rw [List.take_of_length_le (i := j + 1) (by omega)]
        rw [List.take_of_length_le (i := j) (by omega)] at this
        exact this
def sp_above (K : PySem.W.Frag) : Sp := fun vs H Q _ => ∃ (n : Int) (a : Addr) (ws : List Int) (j : Nat), vs = [.int n, .ref a] ∧ H a = some (.lst (ws.map V.int)) ∧ (∀ x ∈ ws, 0 ≤ x) ∧ Abv n ws j ∧ ∀ H', Same H H' → Q (nI j) H'
def sp_weights (K : PySem.W.Frag) : Sp := fun vs H Q _ => ∃ (a : Addr) (d : List (Int × Int)), vs = [.ref a] ∧ LsM K H a (d.map pI) ∧ d.length ≤ 1000 ∧ ∀ D H', Same H H' → H D = none → H' D = some (.lst ((d.map (·.2)).map V.int)) → Q (.ref D) H'
structure NmAt (H : Hp) (CN hn dx tk ch : Addr) (nums : List Int) : Prop where
  ins : H hn = some (.ins CN dx [("taken", .ref tk), ("numbers", .ref ch)])
  nu : H ch = some (.lst (nums.map V.int))
  ne : ch ≠ tk
theorem NmAt.same {H H' : Hp} {CN hn dx tk ch : Addr} {nums : List Int} (h : NmAt H CN hn dx tk ch nums) (e : Same H H') : NmAt H' CN hn dx tk ch nums := ⟨e _ _ h.ins, e _ _ h.nu, h.ne⟩
theorem NmAt.own {H H' : Hp} {CN hn dx tk ch : Addr} {nums : List Int} {xs : List V} (h : NmAt H CN hn dx tk ch nums) (hb : H tk = some (.lst xs)) (e : BtA tk H H') : NmAt H' CN hn dx tk ch nums :=
  ⟨e _ _ (by intro z; have := h.ins; rw [z, hb] at this; cases this) h.ins, e _ _ h.ne h.nu, h.ne⟩
structure At (nums : List Int) (i : Nat) (d : List (Int × Int)) (n : Int) (j : Nat) : Prop where
  num : nums[i]? = some n
  few : d.length ≤ 1000
  pos : ∀ x ∈ d.map (·.2), 0 ≤ x
  abv : Abv n (d.map (·.2)) j
def sp_index (K : PySem.W.Frag) (CN : Addr) : Sp := fun vs H Q _ => ∃ (hn dx tk ch D : Addr) (nums : List Int) (i j : Nat) (d : List (Int × Int)) (n : Int), vs = [.ref hn, nI i, .ref D] ∧ NmAt H CN hn dx tk ch nums ∧ LsM K H D (d.map pI) ∧ At nums i d n j ∧ ∀ H', Same H H' → Q (nI j) H'
def sp_take (K : PySem.W.Frag) (CN : Addr) : Sp := fun vs H Q _ => ∃ (hn dx tk ch D : Addr) (nums : List Int) (i j : Nat) (d : List (Int × Int)) (n : Int) (rows : List Dt), vs = [.ref hn, nI i, .ref D] ∧ NmAt H CN hn dx tk ch nums ∧ LsM K H D (d.map pI) ∧ At nums i d n j ∧ LsM K H tk rows ∧ rows.length ≤ 10000 ∧
  ∀ H', BtA tk H H' → LsM K H' tk (rows ++ [pI ((i : Int), (j : Int))]) → Q (nI j) H'
def sp_hinit (C : Addr) : Sp := fun vs H Q _ => ∃ p dx, vs = [.ref p] ∧ H p = some (.ins C dx []) ∧ ∀ tk, H tk = none → Q .non (upd (upd H tk (.lst [])) p (.ins C dx [("taken", .ref tk)]))
def sp_ninit (CN : Addr) : Sp := fun vs H Q _ => ∃ p dx l xs, vs = [.ref p, .ref l] ∧ H p = some (.ins CN dx []) ∧ H l = some (.lst xs) ∧
  ∀ tk ch H', BtA p H H' → H tk = none → H ch = none → ch ≠ tk → H' p = some (.ins CN dx [("taken", .ref tk), ("numbers", .ref ch)]) → H' tk = some (.lst []) → H' ch = some (.lst xs) → Q .non H'
section
variable {P : Program} {w : World} {K : PySem.W.Frag} {mg : Str → Option Value} {base : Heap} {CH CN : Addr} {uR : Value}
theorem ok_above {f : Addr} {fd : FuncData} (A : FnAt K mg "index_above" s_index_above ["number", "counts"] f fd) (T : Tx3 K mg CH CN uR) : FnOk P w K mg base CX0 1 f fd ["number", "counts"] (sp_above K) := by
  refine A.F.ok sc_index_above (fun vs H Q E h => ?_) (fun cdv Ar outer s H vs Q E hr h => ?_)
  · obtain ⟨n, a, ws, j, rfl, _⟩ := h
    rfl
  · obtain ⟨n, a, ws, j, rfl, ha, pos, ab, k⟩ := h
    refine ⟨_, (pss_cons (ps_set (i := 2) sc_index_above.nd rfl (Or.inl rfl) pe_int)
      (pss_cons (ps_for PassesOwn.never rfl (pi_enum rfl T.enumerate_ (pa_cons (pv 1) pa_nil)) (pg_tup rfl (pgs_cons (pg_name (i := 3) sc_index_above.nd rfl (Or.inl rfl)) (pgs_cons (pg_name (i := 4) sc_index_above.nd rfl (Or.inl rfl)) pgs_nil))) (pss_cons (ps_aug (i := 2) sc_index_above.nd rfl (Or.inl rfl) (pv 4) ip_add)
      (pss_one (ps_if (pt_cmpR op_gt (pv 2) (pv 0) (nomark _)) (pss_one (ps_ret (pv 3))) pss_nil))))
      pss_no)), ?_⟩
    refine ⟨_, rfl, a, rfl, ⟨_, SqL.of ha⟩, for_enum (K := K) (a := a) (xs := ws.map V.int) (fun i σ H' => Same H H' ∧ i ≤ j ∧ ∃ o3 o4 : Option V, σ = [some (.int n), some (.ref a), some (.int (ws.take i).sum), o3, o4])
      ⟨.refl _, Nat.zero_le _, none, none, rfl⟩ (fun i σ H' _ z => SqL.of (z.1 _ _ ha)) ?_ ?_⟩
    · rintro i x σ H' q hx ⟨S, hij, o3, o4, rfl⟩ hq
      obtain ⟨v, hv, rfl⟩ := map_at hx
      have S3 := Same.upd (o := .tup [.int (i : Int), .int v]) hq
      refine ⟨q, _, rfl, SqT.of upd_same, rfl, _, _, rfl, _, _, rfl, rfl, ?_⟩
      refine ⟨_, rfl, _, rfl, _, _, rfl, rfl, ?_⟩
      dsimp only
      rw [← sum_snoc, ← take_one hv]
      refine ⟨_, rfl, _, rfl, _, _, rfl, rfl, _, rfl, iteBB (fun hc => ?_) (fun hc => ?_)⟩
      · have hc := of_decide_eq_true hc
        have : i = j := by
          by_cases e : i = j
          · exact e
          · have := sum_mono pos (show i + 1 ≤ j by omega)
            have := ab.lo
            omega
        subst this
        exact ⟨_, rfl, k _ (S.trans S3)⟩
      · have hc := of_decide_eq_false hc
        refine ⟨S.trans S3, ?_, _, _, rfl⟩
        by_cases e : i = j
        · subst e
          have := ab.hi
          omega
        · omega
    · rintro σ H' ⟨S, hij, o3, o4, rfl⟩
      rw [List.length_map] at hij
      have := ab.lt
      omega
theorem ok_weights {f : Addr} {fd : FuncData} (A : FnAt K mg "weights_of" s_weights_of ["draw"] f fd) : FnOk P w K mg base CX0 1 f fd ["draw"] (sp_weights K) := by
  refine A.F.ok sc_weights_of (fun vs H Q E h => ?_) (fun cdv Ar outer s H vs Q E hr h => ?_)
  · obtain ⟨a, d, rfl, _⟩ := h
    rfl
  · obtain ⟨a, d, rfl, ⟨us, ea, du⟩, few, k⟩ := h
    refine ⟨_, (pss_one (ps_ret (pe_comp rfl (Nc := ["number", "weight"]) (caps0 rfl (by decide +kernel) (by decide +kernel) (by decide +kernel)) (pi_list (pv 0)) (fun _ _ _ _ => by exact (pg_tupK (K := K) (n := 2) rfl rfl (pgs_cons (pg_name (i := 0) (show List.Nodup (["number", "weight"] : List Str) by decide +kernel) rfl (Or.inl rfl)) (pgs_cons (pg_name (i := 1) (show List.Nodup (["number", "weight"] : List Str) by decide +kernel) rfl (Or.inl rfl)) pgs_nil)))) (fun _ _ _ _ => pts_nil) (fun _ _ _ _ => (pv 1))))), ?_⟩
    have lu := du.length
    rw [List.length_map] at lu
    refine ⟨_, rfl, a, rfl, ⟨_, SqL.of ea⟩, fun D hD => ?_⟩
    refine comp_list (K := K) (a := a) (D := D) (xs := us) (fun i σ ys H' => (∃ o1 o2, σ = [o1, o2]) ∧ Same H H' ∧ H' D = some (.lst ys) ∧ ys = ((d.take i).map (·.2)).map V.int)
      ⟨⟨none, none, rfl⟩, .upd hD, upd_same, rfl⟩ ?_ ?_ ?_
    · rintro i σ ys H' hi ⟨_, S, eD, rfl⟩
      exact ⟨SqL.of (S _ _ ea), eD, Nat.lt_of_le_of_lt (m := 1000) (by rw [List.length_map, List.length_map, List.length_take]; omega) (by decide)⟩
    · rintro i x σ ys H' hx ⟨⟨o1, o2, rfl⟩, S, eD, rfl⟩ N hN
      obtain ⟨e, ee, hxe⟩ := (du.same S).get' hx
      obtain ⟨p, hp, rfl⟩ := map_at ee
      obtain ⟨r, vs, rfl, sv, dv⟩ := hxe.un
      obtain ⟨v0, v1, rfl, h0, h1⟩ := dv.two
      rw [h0.int_eq, h1.int_eq] at sv
      refine ⟨r, _, rfl, sv, rfl, _, _, rfl, _, _, rfl, rfl, iteT (B := True) ?_⟩
      refine ⟨_, rfl, eD, hN _ _ _ ⟨⟨_, _, rfl⟩, fun b o eb => ?_, upd_same, ?_⟩⟩
      · rw [upd_ne (ne_of_none eb hD)]
        exact S _ _ eb
      · rw [take_one hp, List.map_append, List.map_append]
        rfl
    · rintro σ ys H' ⟨_, S, eD, rfl⟩
      rw [lu, List.take_of_length_le (Nat.le_refl _)] at eD
      exact k D H' S hD eD
theorem ok_index {f fA fW : Addr} {fd dA dW : FuncData} (F : Fun K "index_at" "Numbered.index_at" s_Numbered_index_at f fd) (A_index_above : FnAt K mg "index_above" s_index_above ["number", "counts"] fA dA) (A_weights_of : FnAt K mg "weights_of" s_weights_of ["draw"] fW dW) (T : Tx3 K mg CH CN uR) : FnOk P w K mg base CX0 2 f fd ["self", "site", "draw"] (sp_index K CN) := by
  have G_index_above : FnOk P w K mg base CX0 1 fA dA _ (sp_above K) := ok_above A_index_above T
  have G_weights_of : FnOk P w K mg base CX0 1 fW dW _ (sp_weights K) := ok_weights A_weights_of
  refine F.ok (k := 1) sc_Numbered_index_at (fun vs H Q E h => ?_) (fun cdv Ar outer s H vs Q E hr h => ?_)
  · obtain ⟨hn, dx, tk, ch, D, nums, i, j, d, n, rfl, _⟩ := h
    rfl
  · obtain ⟨hn, dx, tk, ch, D, nums, i, j, d, n, rfl, hh, ld, at_, k⟩ := h
    refine ⟨_, (pss_one (ps_ret (pe_call G_index_above (hr.mono (by decide)) rfl A_index_above.m A_index_above.F.kp A_index_above.b .nil pass0 (pa_cons (pe_ix ix_list (pe_fld (pv 0) rfl) (pv 1) (fun _ _ => rfl)) (pa_cons (pe_call G_weights_of (hr.mono (by decide)) rfl A_weights_of.m A_weights_of.F.kp A_weights_of.b .nil pass0 (pa_cons (pv 2) pa_nil)) pa_nil))))), ?_⟩
    refine ⟨_, rfl, hn, CN, dx, _, .ref ch, rfl, hh.ins, T.clN, T.nN, rfl, _, rfl, ch, _, _, .int n, rfl, rfl, SqL.of hh.nu, atI_nat (by rw [List.getElem?_map, at_.num]; rfl), ?_⟩
    refine ⟨_, rfl, D, d, rfl, ld, at_.few, fun W H1 S1 hW eW => ?_⟩
    exact ⟨n, W, _, j, rfl, eW, at_.pos, at_.abv, fun H2 S2 => k H2 (S1.trans S2)⟩
theorem ok_take {f f2 fA fW : Addr} {fd d2 dA dW : FuncData} (F : Fun K "take" "Hand.take" s_Hand_take f fd) (M_index : Meth K CN "index_at" f2) (F2 : Fun K "index_at" "Numbered.index_at" s_Numbered_index_at f2 d2) (b_index : Binds K d2 ["self", "site", "draw"] [])
    (A_index_above : FnAt K mg "index_above" s_index_above ["number", "counts"] fA dA) (A_weights_of : FnAt K mg "weights_of" s_weights_of ["draw"] fW dW) (T : Tx3 K mg CH CN uR) : FnOk P w K mg base CX0 3 f fd ["self", "site", "draw"] (sp_take K CN) := by
  have G_index : FnOk P w K mg base CX0 2 f2 d2 ["self", "site", "draw"] (sp_index K CN) := ok_index F2 A_index_above A_weights_of T
  refine F.ok (k := 2) sc_Hand_take (fun vs H Q E h => ?_) (fun cdv Ar outer s H vs Q E hr h => ?_)
  · obtain ⟨hn, dx, tk, ch, D, nums, i, j, d, n, rows, rfl, _⟩ := h
    rfl
  · obtain ⟨hn, dx, tk, ch, D, nums, i, j, d, n, rows, rfl, hh, ld, at_, ⟨us, et, du⟩, lr, k⟩ := h
    refine ⟨_, (pss_cons (ps_set (i := 3) sc_Hand_take.nd rfl (Or.inl rfl) (pe_meth (pv 0) T.clN M_index G_index (hr.mono (by decide)) b_index .nil pass0 (pa_cons (pv 1) (pa_cons (pv 2) pa_nil))))
      (pss_cons (ps_expr (pe_bm PySem.F.plainAttrs_list PySem.F.slot_list_append PySem.F.type_list_append mt_append (pe_fld (pv 0) rfl) (pa_cons (pe_tup (pa_cons (pv 1) (pa_cons (pv 3) pa_nil))) pa_nil)))
      (pss_one (ps_ret (pv 3))))), ?_⟩
    have lu := du.length
    refine ⟨_, rfl, hn, dx, _, rfl, hh.ins, rfl, _, rfl, _, rfl, hn, dx, tk, ch, D, nums, i, j, d, n, rfl, hh, ld, at_, fun H1 S1 => ?_⟩
    have et1 := S1 _ _ et
    refine ⟨_, rfl, hn, CN, dx, _, .ref tk, rfl, S1 _ _ hh.ins, T.clN, T.nT, rfl, .inl ⟨rfl, _, SqL.of et1⟩, _, rfl, _, rfl, two_le, fun t ht => ?_⟩
    have S2 := Same.upd (o := .tup [nI i, nI j]) ht
    refine ⟨tk, us, _, rfl, rfl, S2 _ _ et1, Nat.lt_of_le_of_lt (show us.length ≤ 10000 by omega) (by decide), _, rfl, k _ ((BtA.of (S1.trans S2)).trans .upd) ⟨_, upd_same, ?_⟩⟩
    exact (((du.same (S1.trans S2))).append (.cons (.tup (SqT.of upd_same) (.cons (.int _) (.cons (.int _) .nil))) .nil)).but (.lst (S2 _ _ et1)) .upd
theorem ok_hinit {Cx : Addr} {f : Addr} {fd : FuncData} (F : Fun K "__init__" "Hand.__init__" s_Hand_init f fd) (cl : Cls K Cx) (nT : NoAttr K Cx "taken") : FnOk P w K mg base CX0 1 f fd ["self"] (sp_hinit Cx) := by
  refine F.ok sc_Hand_init (fun vs H Q E h => ?_) (fun cdv Ar outer s H vs Q E hr h => ?_)
  · obtain ⟨p, dx, rfl, _⟩ := h
    rfl
  · obtain ⟨p, dx, rfl, hp, k⟩ := h
    refine ⟨_, (pss_one (ps_fld (pv 0) (pe_lst pa_nil) rfl)), ?_⟩
    refine ⟨Nat.zero_le _, fun D hD => ?_⟩
    have npD : p ≠ D := ne_of_none hp hD
    exact ⟨_, rfl, p, Cx, dx, [], rfl, (by rw [upd_ne npD]; exact hp), cl, nT, (by show 0 < 1000; decide), k D hD⟩
theorem ok_ninit {f f1 : Addr} {fd d1 : FuncData} (F : Fun K "__init__" "Numbered.__init__" s_Numbered_init f fd) (CM : ClsM K CH "__init__" f1) (F1 : Fun K "__init__" "Hand.__init__" s_Hand_init f1 d1) (b_Hand_init : Binds K d1 ["self"] []) (T : Tx3 K mg CH CN uR) : FnOk P w K mg base CX0 2 f fd ["self", "numbers"] (sp_ninit CN) := by
  have G_Hand_init : FnOk P w K mg base CX0 1 f1 d1 ["self"] (sp_hinit CN) := ok_hinit F1 T.clN T.nT
  refine F.ok (k := 1) sc_Numbered_init (fun vs H Q E h => ?_) (fun cdv Ar outer s H vs Q E hr h => ?_)
  · obtain ⟨p, dx, l, xs, rfl, _⟩ := h
    rfl
  · obtain ⟨p, dx, l, xs, rfl, hp, hl, k⟩ := h
    refine ⟨_, (pss_cons (ps_expr (pe_clsM rfl T.Hand_ CM G_Hand_init (hr.mono (by decide)) b_Hand_init .nil pass0 (pa_cons (pv 0) pa_nil)))
      (pss_one (ps_fld (pv 0) (pe_callTy call_list_of (by rfl) T.list_ Boot.«list» (pa_cons (pv 1) pa_nil)) rfl))), ?_⟩
    refine ⟨_, rfl, p, dx, rfl, hp, fun tk htk => ?_⟩
    have npt : p ≠ tk := ne_of_none hp htk
    have npl : p ≠ l := by
      intro z
      subst z
      rw [hp] at hl
      cases hl
    have ntl : l ≠ tk := ne_of_none hl htk
    have e1 : (upd (upd H tk (.lst [])) p (.ins CN dx [("taken", .ref tk)])) p = some (.ins CN dx [("taken", .ref tk)]) := upd_same
    have e2 : (upd (upd H tk (.lst [])) p (.ins CN dx [("taken", .ref tk)])) tk = some (.lst []) := by rw [upd_ne npt.symm, upd_same]
    have e3 : (upd (upd H tk (.lst [])) p (.ins CN dx [("taken", .ref tk)])) l = some (.lst xs) := by rw [upd_ne npl.symm, upd_ne ntl]; exact hl
    have B : BtA p H (upd (upd H tk (.lst [])) p (.ins CN dx [("taken", .ref tk)])) := (BtA.updF htk).trans .upd
    have fr : ∀ ch, (upd (upd H tk (.lst [])) p (.ins CN dx [("taken", .ref tk)])) ch = none → H ch = none := fun ch h => by
      by_cases z : ch = p
      · subst z; rw [e1] at h; cases h
      · rw [upd_ne z] at h
        by_cases z2 : ch = tk
        · subst z2; rw [upd_same] at h; cases h
        · rw [upd_ne z2] at h; exact h
    generalize upd (upd H tk (.lst [])) p (.ins CN dx [("taken", .ref tk)]) = H1 at e1 e2 e3 B fr
    refine ⟨_, rfl, l, xs, rfl, .inl (SqL.of e3), fun ch hch => ?_⟩
    have npc : p ≠ ch := ne_of_none e1 hch
    have ntc : tk ≠ ch := ne_of_none e2 hch
    refine ⟨_, rfl, p, CN, dx, _, rfl, by rw [upd_ne npc]; exact e1, T.clN, T.nN, (by show 1 < 1000; decide), ?_⟩
    exact k tk ch _ ((B.trans (BtA.updF hch)).trans .upd) htk (fr ch hch) ntc.symm upd_same (by rw [upd_ne npt.symm, upd_ne ntc]; exact e2) (by rw [upd_ne npc.symm, upd_same])
end
end K70
namespace K70
open PySem L2 FW PyProof.Rows
inductive Te (dd : Dw) (nums : List Int) : Nat → List (Key × V) → Dt → Int → List (Nat × Nat) → Prop
  | slot {h : Nat} {e : List (Key × V)} (k n : Int) (hv : valV e (Sum.inl k) = some (.int n)) : Te dd nums (h + 1) e (.tup [.str "slot", .int k]) n []
  | draw {h : Nat} {e : List (Key × V)} (i j : Nat) (d : List (Int × Int)) (n : Int) (p : Int × Int) (hd : dd[i]? = some d) (ha : At nums i d n j) (hp : d[j]? = some p) : Te dd nums (h + 1) e (.tup [.str "draw", .int i]) p.1 [(i, j)]
  | sub {h : Nat} {e : List (Key × V)} (x y : Dt) (m n : Int) (a b : List (Nat × Nat)) (hx : Te dd nums h e x m a) (hy : Te dd nums h e y n b) : Te dd nums (h + 1) e (.tup [.str "op", .str "-", x, y]) ((m - n) % 1000000000000) (a ++ b)
def asks (l : List (Nat × Nat)) : List Dt := l.map fun q => pI ((q.1 : Int), (q.2 : Int))
theorem asks_app (a b : List (Nat × Nat)) : asks (a ++ b) = asks a ++ asks b := List.map_append ..
def sp_counted : Sp := fun vs H Q _ => ∃ n : Int, vs = [.int n] ∧ Q (.int n) H
def sp_op : Sp := fun vs H Q _ => ∃ a b : Int, vs = [.str "-", .int a, .int b] ∧ Q (.int ((a - b) % 1000000000000)) H
def sp_figured (K : PySem.W.Frag) : Sp := fun vs H Q _ => ∃ v l x y, ∃ a b : Int, vs = [v, .ref l] ∧ DatAt K H v (.tup [.str "op", .str "-", x, y]) ∧ H l = some (.lst [.int a, .int b]) ∧ Q (.int ((a - b) % 1000000000000)) H
structure Gv (K : PySem.W.Frag) (CN : Addr) (H : Hp) (dr hn dx tk ch : Addr) (nums : List Int) (dd : Dw) (ps : List (Addr × List Dt)) : Prop where
  ll : LLM K H dr ps
  ep : ps.map (·.2) = dd.map (fun d => d.map pI)
  np : ∀ p ∈ ps, p.1 ≠ tk
  nd : dr ≠ tk
  hh : NmAt H CN hn dx tk ch nums
theorem Gv.own {K : PySem.W.Frag} {CN : Addr} {H H' : Hp} {dr hn dx tk ch : Addr} {nums : List Int} {dd : Dw} {ps : List (Addr × List Dt)} {us : List V} (g : Gv K CN H dr hn dx tk ch nums dd ps) (et : H tk = some (.lst us)) (B : BtA tk H H') : Gv K CN H' dr hn dx tk ch nums dd ps := ⟨g.ll.but (.lst et) B g.nd g.np, g.ep, g.np, g.nd, g.hh.own et B⟩
def sp_told (K : PySem.W.Frag) (CN : Addr) (h : Nat) : Sp := fun vs H Q _ => ∃ (v : V) (hd dr hn dx tk ch : Addr) (nums : List Int) (dd : Dw) (ps : List (Addr × List Dt)) (e : List (Key × V)) (t : Dt) (n : Int) (as : List (Nat × Nat)) (rows : List Dt),
  vs = [v, .ref hd, .ref dr, .ref hn] ∧ DatAt K H v t ∧ H hd = some (.dK e) ∧ Gv K CN H dr hn dx tk ch nums dd ps ∧ LsM K H tk rows ∧ rows.length + as.length ≤ 1000 ∧ Te dd nums h e t n as ∧
  ∀ H', BtA tk H H' → LsM K H' tk (rows ++ asks as) → Q (.int n) H'
theorem kit_ii {K : PySem.W.Frag} : PySem.W.kitOne K (.type "int") (.type "int") = some true := by rfl
section
variable {P : Program} {w : World} {K : PySem.W.Frag} {mg : Str → Option Value} {base : Heap} {CH CN CO : Addr} {uR uF : Value}
theorem ok_counted {f : Addr} {fd : FuncData} (A : FnAt K mg "counted" s_counted ["outcome"] f fd) (T : Tx3 K mg CH CN uR) : FnOk P w K mg base CX0 1 f fd ["outcome"] sp_counted := by
  refine A.F.ok sc_counted (fun vs H Q E h => ?_) (fun cdv Ar outer s H vs Q E hr h => ?_)
  · obtain ⟨n, rfl, _⟩ := h
    rfl
  · obtain ⟨n, rfl, k⟩ := h
    refine ⟨_, (pss_cons (ps_if (pt_val (pe_callB call_isi (by rfl) T.isinstance_ Boot.«isinstance» (pa_cons (pv 0) (pa_cons (pe_bltn rfl T.int_ Boot.«int» (v := .ty "int") rfl) pa_nil)))) (pss_one (ps_ret (pv 0))) pss_nil)
      (pss_one (ps_ret pe_int))), ?_⟩
    exact ⟨_, rfl, _, _, _, _, rfl, .int n, kit_ii, _, rfl, iteT ⟨_, rfl, k⟩⟩
theorem ok_figured_op {f fC : Addr} {fd fdC : FuncData} (A : FnAt K mg "figured_op" s_figured_op ["sign", "one", "other"] f fd) (A_counted : FnAt K mg "counted" s_counted ["outcome"] fC fdC) (T : Tx3 K mg CH CN uR) : FnOk P w K mg base CX0 2 f fd ["sign", "one", "other"] sp_op := by
  have G_counted : FnOk P w K mg base CX0 1 fC fdC _ sp_counted := ok_counted A_counted T
  refine A.F.ok sc_figured_op (fun vs H Q E h => ?_) (fun cdv Ar outer s H vs Q E hr h => ?_)
  · obtain ⟨a, b, rfl, _⟩ := h
    rfl
  · obtain ⟨a, b, rfl, k⟩ := h
    refine ⟨_, (pss_cons (ps_if (pt_cmpR op_eq (pv 0) pe_str (nomark _)) pss_no pss_nil)
      (pss_cons (ps_set (i := 3) sc_figured_op.nd rfl (Or.inl rfl) (pe_call G_counted (hr.mono (by decide)) rfl A_counted.m A_counted.F.kp A_counted.b .nil pass0 (pa_cons (pv 1) pa_nil)))
      (pss_cons (ps_set (i := 4) sc_figured_op.nd rfl (Or.inl rfl) (pe_call G_counted (hr.mono (by decide)) rfl A_counted.m A_counted.F.kp A_counted.b .nil pass0 (pa_cons (pv 2) pa_nil)))
      (pss_cons (ps_if (pt_cmpR op_eq (pv 0) pe_str (nomark _)) pss_no pss_nil)
      (pss_cons (ps_if (pt_cmpR op_eq (pv 0) pe_str (nomark _)) pss_no pss_nil)
      (pss_cons (ps_if (pt_cmpR op_eq (pv 0) pe_str (nomark _)) (pss_one (ps_ret (pe_op op_mod (pe_op op_sub (pv 3) (pv 4)) (pe_glob rfl T.ROUND (v := .int 1000000000000) T.round)))) pss_nil)
      pss_no)))))), ?_⟩
    refine ⟨_, rfl, rfl, _, rfl, iteBB (fun hc => absurd hc (by decide +kernel)) (fun _ => ?_)⟩
    refine ⟨_, rfl, a, rfl, ?_⟩
    refine ⟨_, rfl, b, rfl, ?_⟩
    refine ⟨_, rfl, rfl, _, rfl, iteBB (fun hc => absurd hc (by decide +kernel)) (fun _ => ?_)⟩
    refine ⟨_, rfl, rfl, _, rfl, iteBB (fun hc => absurd hc (by decide +kernel)) (fun _ => ?_)⟩
    refine ⟨_, rfl, rfl, _, rfl, iteBB (fun _ => ?_) (fun hc => absurd hc (by decide +kernel))⟩
    exact ⟨_, rfl, _, rfl, _, _, rfl, rfl, _, _, rfl, rfl, (by show (0 : Int) < 1000000000000; decide), k⟩
theorem ok_figured {f fO fC : Addr} {fd fdO fdC : FuncData} (A : FnAt K mg "figured" s_figured ["term", "values"] f fd) (A_figured_op : FnAt K mg "figured_op" s_figured_op ["sign", "one", "other"] fO fdO) (A_counted : FnAt K mg "counted" s_counted ["outcome"] fC fdC) (T : Tx3 K mg CH CN uR) :
    FnOk P w K mg base CX0 3 f fd ["term", "values"] (sp_figured K) := by
  have G_figured_op : FnOk P w K mg base CX0 2 fO fdO _ sp_op := ok_figured_op A_figured_op A_counted T
  refine A.F.ok sc_figured (fun vs H Q E h => ?_) (fun cdv Ar outer s H vs Q E hr h => ?_)
  · obtain ⟨v, l, x, y, a, b, rfl, _⟩ := h
    rfl
  · obtain ⟨v, l, x, y, a, b, rfl, hv, el, k⟩ := h
    refine ⟨_, (pss_cons (ps_set (i := 2) sc_figured.nd rfl (Or.inl rfl) (pe_ix ix_tup (pv 0) pe_int (fun _ _ => rfl)))
      (pss_cons (ps_if (pt_cmpR op_eq (pv 2) pe_str (nomark _)) (pss_one (ps_ret (pe_call G_figured_op (hr.mono (by decide)) rfl A_figured_op.m A_figured_op.F.kp A_figured_op.b .nil pass0 (pa_cons (pe_ix ix_tup (pv 0) pe_int (fun _ _ => rfl)) (pa_cons (pe_ix ix_list (pv 1) pe_int (fun _ _ => rfl)) (pa_cons (pe_ix ix_list (pv 1) pe_int (fun _ _ => rfl)) pa_nil)))))) pss_nil)
      (pss_cons (ps_if (pt_cmpR op_eq (pv 2) pe_str (nomark _)) pss_no pss_nil)
      (pss_cons (ps_if (pt_cmpR op_eq (pv 2) pe_str (nomark _)) pss_no pss_nil)
      pss_no)))), ?_⟩
    obtain ⟨r, vs, rfl, sv, dv⟩ := hv.un
    obtain ⟨v0, v1, v2, v3, rfl, h0, h1, h2, h3⟩ := dats4 dv
    rw [h0.str_eq, h1.str_eq] at sv
    refine ⟨_, rfl, r, _, 0, .str "op", rfl, rfl, sv, rfl, ?_⟩
    refine ⟨_, rfl, rfl, _, rfl, iteBB (fun _ => ?_) (fun hc => absurd hc (by decide +kernel))⟩
    exact ⟨_, rfl, r, _, 1, .str "-", rfl, rfl, sv, rfl, _, rfl, l, _, 0, .int a, rfl, rfl, SqL.of el, rfl, _, rfl, l, _, 1, .int b, rfl, rfl, SqL.of el, rfl, a, b, rfl, k⟩
theorem two_step {H : Hp} {va vb : V} {x y : Dt} {dd : Dw} {nums : List Int} {h : Nat} {e : List (Key × V)} {m n : Int} {a b : List (Nat × Nat)} (hx : Te dd nums h e x m a) (hy : Te dd nums h e y n b) (hva : DatAt K H va x) (hvb : DatAt K H vb y) :
    ∀ (i : Nat) (z : V), ([va, vb] : List V)[i]? = some z → ∃ (dz : Dt) (nz : Int) (az : List (Nat × Nat)), DatAt K H z dz ∧ Te dd nums h e dz nz az ∧ ([V.int m, V.int n]).take (i + 1) = ([V.int m, V.int n]).take i ++ [V.int nz] ∧ (([a, b]).take (i + 1)).flatten = (([a, b]).take i).flatten ++ az ∧ ((([a, b]).take i).flatten).length + az.length ≤ (a ++ b).length ∧ (([V.int m, V.int n]).take i).length ≤ 2
  | 0, z, hz => by
    cases hz
    exact ⟨x, m, a, hva, hx, rfl, by simp, by simp, by simp⟩
  | 1, z, hz => by
    cases hz
    exact ⟨y, n, b, hvb, hy, rfl, by simp, by simp, by simp⟩
  | i + 2, z, hz => by simp at hz
set_option maxHeartbeats 4000000 in
theorem ok_told {f fP fG fO fC fT f2 fA fW : Addr} {fd fdP fdG fdO fdC fdT d2 dA dW : FuncData} (A : FnAt K mg "told" s_told ["term", "held", "draws", "hand"] f fd) (A_parts_of : FnAt K mg "parts_of" s_parts_of ["term"] fP fdP) (Bb : Bl mg) (A_figured : FnAt K mg "figured" s_figured ["term", "values"] fG fdG) (A_figured_op : FnAt K mg "figured_op" s_figured_op ["sign", "one", "other"] fO fdO)
    (A_counted : FnAt K mg "counted" s_counted ["outcome"] fC fdC) (FT : Fun K "take" "Hand.take" s_Hand_take fT fdT) (b_take : Binds K fdT ["self", "site", "draw"] []) (M_take : Meth K CN "take" fT)
    (M_index : Meth K CN "index_at" f2) (F2 : Fun K "index_at" "Numbered.index_at" s_Numbered_index_at f2 d2) (b_index : Binds K d2 ["self", "site", "draw"] []) (A_index_above : FnAt K mg "index_above" s_index_above ["number", "counts"] fA dA) (A_weights_of : FnAt K mg "weights_of" s_weights_of ["draw"] fW dW) (T : Tx3 K mg CH CN uR) : ∀ h : Nat, FnOk P w K mg base CX0 (h + 4) f fd ["term", "held", "draws", "hand"] (sp_told K CN h)
  | 0 => by
    refine FnOk.imp (FnOk.no) (fun vs H Q E h => ?_)
    obtain ⟨v, hd, dr, hn, dx, tk, ch, nums, dd, ps, e, t, n, as, rows, rfl, hv, eh, g, ls, lr, b, k⟩ := h
    cases b
  | N + 1 => by
    have G_told : FnOk P w K mg base CX0 (N + 4) f fd _ (sp_told K CN N) := ok_told A A_parts_of Bb A_figured A_figured_op A_counted FT b_take M_take M_index F2 b_index A_index_above A_weights_of T N
    have G_parts_of : FnOk P w K mg base CX0 1 fP fdP _ (sp_parts K) := ok_parts_of A_parts_of Bb
    have G_figured : FnOk P w K mg base CX0 3 fG fdG _ (sp_figured K) := ok_figured A_figured A_figured_op A_counted T
    have G_take : FnOk P w K mg base CX0 3 fT fdT ["self", "site", "draw"] (sp_take K CN) := ok_take FT M_index F2 b_index A_index_above A_weights_of T
    refine A.F.ok (k := N + 4) sc_told (fun vs H Q E h => ?_) (fun cdv Ar outer s H vs Q E hr h => ?_)
    · obtain ⟨v, hd, dr, hn, dx, tk, ch, nums, dd, ps, e, t, n, as, rows, rfl, hv, eh, g, ls, lr, b, k⟩ := h
      rfl
    · obtain ⟨v, hd, dr, hn, dx, tk, ch, nums, dd, ps, e, t, n, as, rows, rfl, hv, eh, g, ls, lr, b, k⟩ := h
      refine ⟨_, (pss_cons (ps_set (i := 4) sc_told.nd rfl (Or.inl rfl) (pe_ix ix_tup (pv 0) pe_int (fun _ _ => rfl)))
        (pss_cons (ps_if (pt_cmpR op_eq (pv 4) pe_str (nomark _)) pss_no pss_nil)
        (pss_cons (ps_if (pt_cmpR op_eq (pv 4) pe_str (nomark _)) (pss_one (ps_ret (pe_dget (hu_of hr) (pv 1) (pe_ix ix_tup (pv 0) pe_int (fun _ _ => rfl)) (fun _ _ => rfl)))) pss_nil)
        (pss_cons (ps_if (pt_cmpR op_eq (pv 4) pe_str (nomark _)) (pss_cons (ps_set (i := 5) sc_told.nd rfl (Or.inl rfl) (pe_ix ix_list (pv 2) (pe_ix ix_tup (pv 0) pe_int (fun _ _ => rfl)) (fun _ _ => rfl)))
        (pss_one (ps_ret (pe_ix ix_tup (pe_ix ix_list (pv 5) (pe_meth (pv 3) T.clN M_take G_take (hr.mono (by omega)) b_take .nil pass0 (pa_cons (pe_ix ix_tup (pv 0) pe_int (fun _ _ => rfl)) (pa_cons (pe_callTy call_list_of (by rfl) T.list_ Boot.«list» (pa_cons (pv 5) pa_nil)) pa_nil))) (fun _ _ => rfl)) pe_int (fun _ _ => rfl))))) pss_nil)
        (pss_cons (ps_if (pt_cmpR op_eq (pv 4) pe_str (nomark _)) pss_no pss_nil)
        (pss_cons (ps_if (pt_cmpR op_eq (pv 4) pe_str (nomark _)) pss_no pss_nil)
        (pss_cons (ps_set (i := 8) sc_told.nd rfl (Or.inl rfl) (pe_lst pa_nil))
        (pss_cons (ps_for PassesOwn.never rfl (pi_list (pe_call G_parts_of (hr.mono (by omega)) rfl A_parts_of.m A_parts_of.F.kp A_parts_of.b .nil pass0 (pa_cons (pv 0) pa_nil))) (pg_name (i := 9) sc_told.nd rfl (Or.inl rfl)) (pss_one (ps_expr (pe_bm PySem.F.plainAttrs_list PySem.F.slot_list_append PySem.F.type_list_append mt_append (pv 8) (pa_cons (pe_call G_told hr rfl A.m A.F.kp A.b .nil pass0 (pa_cons (pv 9) (pa_cons (pv 1) (pa_cons (pv 2) (pa_cons (pv 3) pa_nil))))) pa_nil)))))
        (pss_one (ps_ret (pe_call G_figured (hr.mono (by omega)) rfl A_figured.m A_figured.F.kp A_figured.b .nil pass0 (pa_cons (pv 0) (pa_cons (pv 8) pa_nil))))))))))))), ?_⟩
      obtain ⟨ust, et, dut⟩ := id ls
      cases b with
      | slot k0 _ hval =>
        obtain ⟨r, vs, rfl, sv, dv⟩ := hv.un
        obtain ⟨v0, v1, rfl, h0, h1⟩ := dv.two
        rw [h0.str_eq, h1.int_eq] at sv
        refine ⟨_, rfl, r, _, 0, .str "slot", rfl, rfl, sv, rfl, ?_⟩
        refine ⟨_, rfl, rfl, _, rfl, iteBB (fun hc => absurd hc (by decide +kernel)) (fun _ => ?_)⟩
        refine ⟨_, rfl, rfl, _, rfl, iteBB (fun _ => ?_) (fun hc => absurd hc (by decide +kernel))⟩
        exact ⟨_, rfl, _, rfl, r, _, 1, .int k0, rfl, rfl, sv, rfl, hd, .int n, rfl, by rw [← hval]; exact DGet.k (k := Sum.inl k0) eh, k H .refl (by rw [show asks [] = [] from rfl, List.append_nil]; exact ls)⟩
      | draw i j d nn p hd' ha hp =>
        obtain ⟨r, vs, rfl, sv, dv⟩ := hv.un
        obtain ⟨v0, v1, rfl, h0, h1⟩ := dv.two
        rw [h0.str_eq, h1.int_eq] at sv
        have ei : (ps.map (·.2))[i]? = some (d.map pI) := by rw [g.ep, List.getElem?_map, hd']; rfl
        obtain ⟨q, eq, e2⟩ := map_at ei
        have mq := List.mem_of_getElem? eq
        obtain ⟨ws, ew, dw⟩ := g.ll.it q mq
        rw [← e2] at dw
        obtain ⟨x, ex, hx⟩ := dw.get (i := j) (d := pI p) (by rw [List.getElem?_map, hp]; rfl)
        refine ⟨_, rfl, r, _, 0, .str "draw", rfl, rfl, sv, rfl, ?_⟩
        refine ⟨_, rfl, rfl, _, rfl, iteBB (fun hc => absurd hc (by decide +kernel)) (fun _ => ?_)⟩
        refine ⟨_, rfl, rfl, _, rfl, iteBB (fun hc => absurd hc (by decide +kernel)) (fun _ => ?_)⟩
        refine ⟨_, rfl, rfl, _, rfl, iteBB (fun _ => ?_) (fun hc => absurd hc (by decide +kernel))⟩
        refine ⟨_, rfl, _, rfl, r, _, 1, .int i, rfl, rfl, sv, rfl, dr, _, _, .ref q.1, rfl, rfl, SqL.of g.ll.at_, atI_nat (by rw [List.getElem?_map, eq]; rfl), ?_⟩
        refine ⟨_, rfl, ?_⟩
        refine ⟨_, rfl, hn, dx, _, rfl, g.hh.ins, rfl, _, rfl, r, _, 1, .int i, rfl, rfl, sv, rfl, _, rfl, q.1, ws, rfl, .inl (SqL.of ew), fun D hD => ?_⟩
        have S := Same.upd (o := .lst ws) hD
        refine ⟨hn, dx, tk, ch, D, nums, i, j, d, nn, rows, rfl, g.hh.same S, ⟨ws, upd_same, dw.same S⟩, ha, ls.same S, by omega, fun H2 B2 ls2 => ?_⟩
        have B2 := (BtA.of S).trans B2
        obtain ⟨rp, vs', rfl, sp, dp⟩ := (hx.but (.lst et) B2).un
        obtain ⟨a1, b1, rfl, g1, g2⟩ := dp.two
        rw [g1.int_eq] at sp
        exact ⟨q.1, ws, _, .ref rp, rfl, rfl, SqL.of (B2 _ _ (g.np q mq) ew), atI_nat ex, rp, _, 0, .int p.1, rfl, rfl, sp, rfl, k H2 B2 ls2⟩
      | sub x y m n a b hx hy =>
        obtain ⟨r, vs, rfl, sv, dv⟩ := hv.un
        obtain ⟨v0, v1, v2, v3, rfl, h0, h1, h2, h3⟩ := dats4 dv
        rw [h0.str_eq] at sv
        refine ⟨_, rfl, r, _, 0, .str "op", rfl, rfl, sv, rfl, ?_⟩
        refine ⟨_, rfl, rfl, _, rfl, iteBB (fun hc => absurd hc (by decide +kernel)) (fun _ => ?_)⟩
        refine ⟨_, rfl, rfl, _, rfl, iteBB (fun hc => absurd hc (by decide +kernel)) (fun _ => ?_)⟩
        refine ⟨_, rfl, rfl, _, rfl, iteBB (fun hc => absurd hc (by decide +kernel)) (fun _ => ?_)⟩
        refine ⟨_, rfl, rfl, _, rfl, iteBB (fun hc => absurd hc (by decide +kernel)) (fun _ => ?_)⟩
        refine ⟨_, rfl, rfl, _, rfl, iteBB (fun hc => absurd hc (by decide +kernel)) (fun _ => ?_)⟩
        refine ⟨Nat.zero_le _, fun D hD => ?_⟩
        have T0 := Same.upd (o := .lst []) hD
        have eD : (upd H D (.lst [])) D = some (.lst []) := upd_same
        have nDt : D ≠ tk := (ne_of_none et hD).symm
        generalize upd H D (.lst []) = H0 at T0 eD
        refine ⟨_, rfl, .ref r, _, [x, y], rfl, hv.same T0, .op _ x y, fun P1 H1 S1 hP1 lsP => ?_⟩
        obtain ⟨us, eP, du⟩ := lsP
        obtain ⟨va, vb, rfl, hva, hvb⟩ := du.two
        have nPD : P1 ≠ D := (ne_of_none eD hP1).symm
        have nPt : P1 ≠ tk := (ne_of_none (T0 _ _ et) hP1).symm
        have S01 := T0.trans S1
        refine ⟨P1, rfl, ⟨_, SqL.of eP⟩, for_list (K := K) (a := P1) (xs := [va, vb]) (fun i σ H' => BtA tk H H' ∧ H' P1 = some (.lst [va, vb]) ∧ H' D = some (.lst (([V.int m, V.int n]).take i)) ∧ LsM K H' tk (rows ++ asks ((([a, b]).take i).flatten)) ∧ DatAt K H' va x ∧ DatAt K H' vb y ∧ ∃ o9, σ = [some (.ref r), some (.ref hd), some (.ref dr), some (.ref hn), some (.str "op"), none, none, none, some (.ref D), o9])
          ⟨BtA.of S01, eP, S1 _ _ eD, by rw [show asks ((([a, b]).take 0).flatten) = [] from rfl, List.append_nil]; exact ls.same S01, hva, hvb, none, rfl⟩ (fun i σ H' _ z => SqL.of z.2.1) ?_ ?_⟩
        · rintro i z σ H' hz ⟨B, eP2, eD2, ls2, hva2, hvb2, o9, rfl⟩
          obtain ⟨dz, nz, az, hz1, tz, t1, t2, t3, t4⟩ := two_step hx hy hva2 hvb2 i z hz
          have eh1 : H' hd = some (.dK e) := B _ _ (by intro z; subst z; rw [et] at eh; cases eh) eh
          obtain ⟨us2, et2, _⟩ := id ls2
          refine ⟨_, rfl, .inl ⟨rfl, _, SqL.of eD2⟩, _, rfl, _, rfl, _, rfl, _, rfl, z, hd, dr, hn, dx, tk, ch, nums, dd, ps, e, dz, nz, az, _, rfl, hz1, eh1, g.own et B, ls2, by rw [List.length_append, asks, List.length_map]; omega, tz, fun H3 B3 ls3 => ?_⟩
          have eD3 := B3 _ _ nDt eD2
          refine ⟨D, _, _, rfl, rfl, eD3, Nat.lt_of_le_of_lt t4 (by decide), ?_⟩
          have B4 : BtA D H3 (upd H3 D (.lst (([V.int m, V.int n]).take i ++ [V.int nz]))) := .upd
          refine ⟨fun b' o' nb hb => B4 _ _ (ne_of_none hb hD) (B3 _ _ nb (B _ _ nb hb)), B4 _ _ nPD (B3 _ _ nPt eP2), by rw [upd_same, t1], ?_, (hva2.but (.lst et2) B3).but (.lst eD3) B4, (hvb2.but (.lst et2) B3).but (.lst eD3) B4, _, rfl⟩
          rw [t2, asks_app, ← List.append_assoc]
          exact ls3.but (.lst eD3) B4 nDt.symm
        · rintro σ H' ⟨B, eP2, eD2, ls2, hva2, hvb2, o9, rfl⟩
          refine ⟨_, rfl, _, rfl, .ref r, D, x, y, m, n, rfl, hv.but (.lst et) B, eD2, k H' B ?_⟩
          have ea : (([a, b]).take ([va, vb] : List V).length).flatten = a ++ b := by simp
          rw [ea] at ls2
          exact ls2
inductive Rn (dd : Dw) (nums : List Int) (h : Nat) : List Dt → List (Key × V) → V → V → List (Nat × Nat) → Prop
  | nil (e : List (Key × V)) (v : V) : Rn dd nums h [] e v v []
  | cons (s : Int) (t : Dt) (sts : List Dt) (e : List (Key × V)) (v0 v : V) (n : Int) (as bs : List (Nat × Nat)) (hs : s ≠ -1) (hl : e.length < 1000) (ht : Te dd nums h e t n as) (hr : Rn dd nums h sts (putK e (Sum.inl s) (.int n)) (.int n) v bs) : Rn dd nums h (stD s t :: sts) e v0 v (as ++ bs)
theorem Rn.un0 {dd : Dw} {nums : List Int} {h : Nat} {e : List (Key × V)} {v0 v : V} {as : List (Nat × Nat)} (r : Rn dd nums h [] e v0 v as) : v = v0 ∧ as = [] := by
  cases r
  exact ⟨rfl, rfl⟩
theorem Rn.un {dd : Dw} {nums : List Int} {h : Nat} {d : Dt} {sts : List Dt} {e : List (Key × V)} {v0 v : V} {cs : List (Nat × Nat)} (r : Rn dd nums h (d :: sts) e v0 v cs) : ∃ s t n as bs, d = stD s t ∧ cs = as ++ bs ∧ s ≠ -1 ∧ e.length < 1000 ∧ Te dd nums h e t n as ∧ Rn dd nums h sts (putK e (Sum.inl s) (.int n)) (.int n) v bs := by
  cases r with
  | cons s t _ _ _ _ n as bs hs hl ht hr => exact ⟨s, t, n, as, bs, rfl, rfl, hs, hl, ht, hr⟩
def sp_run (K : PySem.W.Frag) (CO CN : Addr) (h : Nat) : Sp := fun vs H Q _ => ∃ (p sA hn dx tk ch dr : Addr) (ns : Int) (nums : List Int) (dd : Dw) (ps : List (Addr × List Dt)) (sts : List Dt) (v : V) (as : List (Nat × Nat)),
  vs = [.ref p, .ref hn] ∧ OneAt K CO H p sA dr ns sts ps ∧ Gv K CN H dr hn dx tk ch nums dd ps ∧ sA ≠ tk ∧ p ≠ tk ∧ LsM K H tk [] ∧ as.length ≤ 900 ∧ Rn dd nums h sts [] .non v as ∧
  ∀ H', BtA tk H H' → LsM K H' tk (asks as) → Q v H'
theorem ntd {H : Hp} {q : Addr} {e : List (Key × V)} (h : H q = some (.dK e)) : NT H q := fun o e => by
  rw [h] at e
  cases e
  exact ⟨(fun _ z => nomatch z), (fun _ _ z => nomatch z)⟩
set_option maxHeartbeats 4000000 in
theorem ok_run {h : Nat} {f fT fC : Addr} {fd dT dC : FuncData} (A : FnAt K mg "run" s_run ["one", "hand"] f fd) (A_told : FnAt K mg "told" s_told ["term", "held", "draws", "hand"] fT dT) (G_told : FnOk P w K mg base CX0 (h + 4) fT dT ["term", "held", "draws", "hand"] (sp_told K CN h)) (T2 : Tx2 K mg CO uF) (T : Tx3 K mg CH CN uR) : FnOk P w K mg base CX0 (h + 5) f fd ["one", "hand"] (sp_run K CO CN h) := by
  refine A.F.ok (k := h + 4) sc_run (fun vs H Q E hh => ?_) (fun cdv Ar outer s H vs Q E hr hh => ?_)
  · obtain ⟨p, sA, hn, dx, tk, ch, dr, ns, nums, dd, ps, sts, v, as, rfl, _⟩ := hh
    rfl
  · obtain ⟨p, sA, hn, dx, tk, ch, dr, ns, nums, dd, ps, sts, v, as, rfl, one, g, nS, nP, lt, la, rn, k⟩ := hh
    refine ⟨_, (pss_cons (ps_set (i := 2) sc_run.nd rfl (Or.inl rfl) pe_dnewK)
      (pss_cons (ps_set (i := 3) sc_run.nd rfl (Or.inl rfl) pe_non)
      (pss_cons (ps_for PassesOwn.never rfl (pi_list (pe_fld (pv 0) rfl)) (pg_tup rfl (pgs_cons (pg_name (i := 4) sc_run.nd rfl (Or.inl rfl)) (pgs_cons (pg_name (i := 5) sc_run.nd rfl (Or.inl rfl)) pgs_nil))) (pss_cons (ps_set (i := 3) sc_run.nd rfl (Or.inl rfl) (pe_call G_told hr rfl A_told.m A_told.F.kp A_told.b .nil pass0 (pa_cons (pv 5) (pa_cons (pv 2) (pa_cons (pe_fld (pv 0) rfl) (pa_cons (pv 1) pa_nil))))))
      (pss_one (ps_if (pt_cmpR op_ne (pv 4) (pe_un un_neg pe_int) (nomark _)) (pss_one (ps_dput (hu_of hr) (pv 2) (pv 4) (pv 3) rfl)) pss_no))))
      (pss_one (ps_ret (pv 3)))))), ?_⟩
    obtain ⟨⟨dxO, eO⟩, ⟨us, eS, du⟩, _⟩ := one
    have lu := du.length
    obtain ⟨ust, et, dut⟩ := lt
    cases dut.un0
    refine fun Hd hHd => ?_
    have S0 := Same.upd (o := .dK []) hHd
    have eH0 : (upd H Hd (.dK [])) Hd = some (.dK []) := upd_same
    have nHt : Hd ≠ tk := (ne_of_none et hHd).symm
    generalize upd H Hd (.dK []) = H0 at S0 eH0
    refine ⟨_, rfl, p, CO, dxO, _, .ref sA, rfl, S0 _ _ eO, T2.cl, T2.nS, flds_steps .., sA, rfl, ⟨_, SqL.of (S0 _ _ eS)⟩, ?_⟩
    refine for_list (K := K) (a := sA) (xs := us) (fun i σ H' => BtA tk H H' ∧ ∃ (e : List (Key × V)) (v0 : V) (bs cs : List (Nat × Nat)) (o4 o5 : Option V), H' Hd = some (.dK e) ∧ LsM K H' tk (asks bs) ∧ as = bs ++ cs ∧ Rn dd nums h (sts.drop i) e v0 v cs ∧ σ = [some (.ref p), some (.ref hn), some (.ref Hd), some v0, o4, o5])
      ⟨BtA.of S0, [], .non, [], as, none, none, eH0, ⟨[], S0 _ _ et, .nil⟩, rfl, rn, rfl⟩ (fun i σ H' _ z => SqL.of (z.1 _ _ nS eS)) ?_ ?_
    · rintro i x σ H' hx ⟨B, e, v0, bs, cs, o4, o5, eH, lsb, rfl, rn', rfl⟩
      obtain ⟨d, ed, hxd⟩ := (DatsAt.but (.lst et) B du).get' hx
      have hi := (List.getElem?_eq_some_iff.mp ed).1
      rw [List.drop_eq_getElem_cons hi, (List.getElem?_eq_some_iff.mp ed).2] at rn'
      obtain ⟨s, t, n, a1, b1, rfl, rfl, hs, hl, te, rn2⟩ := rn'.un
      obtain ⟨r, vs, rfl, sv, dv⟩ := hxd.un
      obtain ⟨v1, v2, rfl, h1, h2⟩ := dv.two
      rw [h1.int_eq] at sv
      obtain ⟨usb, etb, _⟩ := id lsb
      simp only [List.length_append] at la
      refine ⟨r, _, rfl, sv, rfl, _, _, rfl, _, _, rfl, rfl, ?_⟩
      refine ⟨_, rfl, _, rfl, _, rfl, p, CO, dxO, _, .ref dr, rfl, B _ _ nP eO, T2.cl, T2.nD, flds_draws .., _, rfl, v2, Hd, dr, hn, dx, tk, ch, nums, dd, ps, e, t, n, a1, asks bs, rfl, h2, eH, g.own et B, lsb, by rw [asks, List.length_map]; omega, te, fun H2 B2 ls2 => ?_⟩
      have eH2 := B2 _ _ nHt eH
      refine ⟨_, rfl, _, rfl, ?_⟩
      refine ⟨rfl, _, rfl, iteBB (fun _ => ?_) (fun hc => ?_)⟩
      · refine ⟨_, rfl, _, rfl, _, rfl, Hd, _, rfl, DPut.k (k := Sum.inl s) eH2 (Nat.lt_of_lt_of_le hl (by decide)), ?_⟩
        have B3 : BtA Hd H2 (upd H2 Hd (.dK (putK e (Sum.inl s) (.int n)))) := .upd
        refine ⟨fun b' o' nb hb => B3 _ _ (ne_of_none hb hHd) (B2 _ _ nb (B _ _ nb hb)), putK e (Sum.inl s) (.int n), .int n, bs ++ a1, b1, _, _, upd_same, ?_, by rw [List.append_assoc], rn2, rfl⟩
        rw [asks_app]
        exact ls2.but (ntd eH2) B3 nHt.symm
      · exact hs (by simpa using hc)
    · rintro σ H' ⟨B, e, v0, bs, cs, o4, o5, eH, lsb, rfl, rn', rfl⟩
      rw [List.drop_of_length_le (by omega)] at rn'
      obtain ⟨rfl, rfl⟩ := rn'.un0
      rw [List.append_nil] at k
      exact ⟨_, rfl, k H' B lsb⟩
end
end K70
namespace K70
open PySem L2 FW PyProof.Rows
inductive Tm
  | flip (a b : Int)
  | pick (ps : List (Int × Int))
  | sub (ps qs : List (Int × Int))
def pkD (ps : List (Int × Int)) : Dt := .tup [.str "pick", .tup (ps.map pI)]
def tmD : Tm → Dt
  | .flip a b => .tup [.str "flip", .int a, .int b]
  | .pick ps => pkD ps
  | .sub ps qs => .tup [.str "op", .str "-", pkD ps, pkD qs]
def tmW : Tm → Dw
  | .flip a b => [[(0, b - a), (1, a)]]
  | .pick ps => [ps]
  | .sub ps qs => [ps, qs]
structure DOk (d : List (Int × Int)) : Prop where
  lo : 1 ≤ d.length
  hi : d.length ≤ 6
  w : ∀ p ∈ d, 1 ≤ p.2
def TmOk (t : Tm) : Prop := ∀ d ∈ tmW t, DOk d
theorem tmW_len (t : Tm) : 1 ≤ (tmW t).length ∧ (tmW t).length ≤ 2 := by
  cases t <;> exact ⟨by simp [tmW], by simp [tmW]⟩
def sp_mix : Sp := fun vs H Q _ => ∃ c k : Int, vs = [.int c, .int k] ∧ 0 ≤ k ∧ k ≤ 1000 ∧ ∀ m : Int, 0 ≤ m → m < 2147483647 → Q (.int m) H
def sp_pick (K : PySem.W.Frag) : Sp := fun vs H Q _ => ∃ c : Int, vs = [.int c] ∧ ∀ ps, DOk ps → datQ K H Q (pkD ps)
def sp_term (K : PySem.W.Frag) : Sp := fun vs H Q _ => ∃ c : Int, vs = [.int c] ∧ ∀ t, TmOk t → datQ K H Q (tmD t)
theorem small_mul {x y : Int} (h : -(2 ^ 62) ≤ y ∧ y ≤ 2 ^ 62) : IntMulOk x y := .of_right (intBits_le_64 (by omega) (by omega))
section
variable {P : Program} {w : World} {K : PySem.W.Frag} {mg : Str → Option Value} {base : Heap} {CH CN CO : Addr} {uR uF : Value}
theorem ok_law_mix {f : Addr} {fd : FuncData} (A : FnAt K mg "_law_mix" s_law_mix ["_law_cell", "_law_k"] f fd) : FnOk P w K mg base CX0 1 f fd ["_law_cell", "_law_k"] sp_mix := by
  refine A.F.ok sc_law_mix (fun vs H Q E h => ?_) (fun cdv Ar outer s H vs Q E hr h => ?_)
  · obtain ⟨a, b, rfl, _⟩ := h
    rfl
  · obtain ⟨n, k, rfl, k0, k1, q⟩ := h
    refine ⟨_, (pss_cons (ps_set (i := 2) sc_law_mix.nd rfl (Or.inl rfl) (pe_op op_add (pe_op op_add (pe_op op_mod (pv 0) pe_int) (pe_op op_mulB pe_int (pv 1))) pe_int))
      (pss_one (ps_ret (pe_op op_mod (pe_op op_mulB (pe_op op_mod (pe_op op_mulB (pv 2) (pv 2)) pe_int) (pe_op op_add (pv 1) pe_int)) pe_int)))), ?_⟩
    refine ⟨_, rfl, _, _, rfl, rfl, (by show (0 : Int) < 1000000007; decide), _, rfl, _, _, rfl, rfl, small_mul (by omega), _, _, rfl, rfl, _, _, rfl, rfl, ?_⟩
    dsimp only
    have m0 := Int.emod_nonneg n (show (1000000007 : Int) ≠ 0 by decide)
    have m1 := Int.emod_lt_of_pos n (show (0 : Int) < 1000000007 by decide)
    generalize n % 1000000007 = m at m0 m1
    refine ⟨_, rfl, _, rfl, _, _, rfl, rfl, small_mul (by omega), _, _, rfl, rfl, (by show (0 : Int) < 2147483629; decide), _, rfl, _, _, rfl, rfl, _, _, rfl, rfl, small_mul (by omega), _, _, rfl, rfl, (by show (0 : Int) < 2147483647; decide), ?_⟩
    exact q _ (Int.emod_nonneg _ (by decide)) (Int.emod_lt_of_pos _ (by decide))
set_option maxHeartbeats 1000000 in
theorem ok_law_pick {f fM : Addr} {fd dM : FuncData} (A : FnAt K mg "_law_pick" s_law_pick ["_law_cell"] f fd) (A_law_mix : FnAt K mg "_law_mix" s_law_mix ["_law_cell", "_law_k"] fM dM) (T : Tx3 K mg CH CN uR) : FnOk P w K mg base CX0 2 f fd ["_law_cell"] (sp_pick K) := by
  have G_law_mix : FnOk P w K mg base CX0 1 fM dM _ sp_mix := ok_law_mix A_law_mix
  refine A.F.ok (k := 1) sc_law_pick (fun vs H Q E h => ?_) (fun cdv Ar outer s H vs Q E hr h => ?_)
  · obtain ⟨c, rfl, _⟩ := h
    rfl
  · obtain ⟨c, rfl, k⟩ := h
    refine ⟨_, (pss_cons (ps_set (i := 1) sc_law_pick.nd rfl (Or.inl rfl) (pe_lst pa_nil))
      (pss_cons (ps_for PassesOwn.never rfl (pi_range1 rfl T.range_ (pa_cons (pe_op op_add pe_int (pe_op op_mod (pv 0) pe_int)) pa_nil)) (pg_name (i := 2) sc_law_pick.nd rfl (Or.inl rfl)) (pss_one (ps_expr (pe_bm PySem.F.plainAttrs_list PySem.F.slot_list_append PySem.F.type_list_append mt_append (pv 1) (pa_cons (pe_tup (pa_cons (pe_op op_add (pe_op op_mod (pe_op op_fdivP (pv 0) pe_int) pe_int) (pe_op op_mulB (pv 2) (pe_op op_add pe_int (pe_op op_mod (pe_op op_fdivP (pv 0) pe_int) pe_int)))) (pa_cons (pe_op op_add pe_int (pe_op op_mod (pe_call G_law_mix (hr.mono (by decide)) rfl A_law_mix.m A_law_mix.F.kp A_law_mix.b .nil pass0 (pa_cons (pv 0) (pa_cons (pv 2) pa_nil))) pe_int)) pa_nil))) pa_nil)))))
      (pss_one (ps_ret (pe_tup (pa_cons pe_str (pa_cons (pe_callTy call_tuple_of (by rfl) T.tuple_ Boot.«tuple» (pa_cons (pv 1) pa_nil)) pa_nil))))))), ?_⟩
    refine ⟨Nat.zero_le _, fun D hD => ?_⟩
    have c0 := Int.emod_nonneg c (show (6 : Int) ≠ 0 by decide)
    have c1 := Int.emod_lt_of_pos c (show (0 : Int) < 6 by decide)
    refine ⟨_, rfl, _, _, rfl, rfl, (by show (0 : Int) < 6; decide), _, _, rfl, rfl, 1 + c % 6, rfl, by omega, by omega, for_range (lo := 0) (n := (1 + c % 6).toNat) (fun j σ H' => Same H H' ∧ ∃ (ps : List (Int × Int)) (o2 : Option V), LsM K H' D (ps.map pI) ∧ ps.length = j ∧ (∀ p ∈ ps, 1 ≤ p.2) ∧ σ = [some (.int c), some (.ref D), o2])
      ⟨.upd hD, [], none, ⟨[], upd_same, .nil⟩, rfl, (fun _ h => nomatch h), rfl⟩ ?_ ?_⟩
    · rintro j σ H' hj ⟨S, ps, o2, ⟨us, eD, du⟩, lp, pos, rfl⟩
      have lu := du.length
      rw [List.length_map] at lu
      have b1 := Int.emod_nonneg (c / 42) (show (1000003 : Int) ≠ 0 by decide)
      have b2 := Int.emod_lt_of_pos (c / 42) (show (0 : Int) < 1000003 by decide)
      refine ⟨_, rfl, .inl ⟨rfl, _, SqL.of eD⟩, ?_⟩
      refine ⟨_, rfl, _, _, rfl, rfl, ⟨by decide, by decide +kernel⟩, _, _, rfl, rfl, (by show (0 : Int) < 900000000; decide), _, rfl, _, rfl, _, _, rfl, rfl, ⟨by decide, by decide +kernel⟩, _, _, rfl, rfl, (by show (0 : Int) < 1000003; decide), _, _, rfl, rfl, _, _, rfl, rfl, small_mul (by omega), _, _, rfl, rfl, ?_⟩
      refine ⟨_, rfl, _, rfl, c, _, rfl, by omega, by omega, fun m m0 m1 => ⟨_, _, rfl, rfl, (by show (0 : Int) < 1000000; decide), _, _, rfl, rfl, two_le, fun t ht => ?_⟩⟩
      dsimp only at ht ⊢
      have w0 := Int.emod_nonneg m (show (1000000 : Int) ≠ 0 by decide)
      generalize c / 6 % 900000000 + (0 + (j : Int)) * (1 + c / 42 % 1000003) = x at ht ⊢
      generalize hw : 1 + m % 1000000 = y at ht ⊢
      have S1 := Same.upd (o := .tup [.int x, .int y]) ht
      have nDt : D ≠ t := ne_of_none eD ht
      refine ⟨D, us, _, rfl, rfl, S1 _ _ eD, Nat.lt_of_le_of_lt (show us.length ≤ 100 by omega) (by decide), fun b o eb => ?_, ps ++ [(x, y)], _, ⟨_, upd_same, ?_⟩, by rw [List.length_append, lp]; rfl, fun p hp => ?_, rfl⟩
      · rw [upd_ne (ne_of_none eb hD)]
        exact S1 _ _ (S _ _ eb)
      · rw [List.map_append]
        exact ((du.same S1).append (.cons (.tup (SqT.of upd_same) (.cons (.int _) (.cons (.int _) .nil))) .nil)).but (.lst (S1 _ _ eD)) .upd
      · rcases List.mem_append.mp hp with z | z
        · exact pos p z
        · rw [List.mem_singleton.mp z]
          show 1 ≤ y
          omega
    · rintro σ H' ⟨S, ps, o2, ⟨us, eD, du⟩, lp, pos, rfl⟩
      refine ⟨_, rfl, D, us, rfl, .inl ⟨SqL.of eD, fun t ht => ⟨two_le, fun t2 ht2 => ?_⟩⟩⟩
      have S1 := Same.upd (o := .tup us) ht
      have e1 : SqT K (upd H' t (.tup us)) t us := SqT.of upd_same
      generalize upd H' t (.tup us) = H1 at S1 e1 ht2
      have S2 := Same.upd (o := .tup [.str "pick", .ref t]) ht2
      exact k ps ⟨by omega, by omega, pos⟩ _ _ (S.trans (S1.trans S2)) (.tup (SqT.of upd_same) (.cons (.str _) (.cons (.tup (S2.tup e1) ((du.same S1).same S2)) .nil)))
set_option maxHeartbeats 1000000 in
theorem ok_law_term {f fM fP : Addr} {fd dM dP : FuncData} (A : FnAt K mg "_law_term" s_law_term ["_law_cell"] f fd) (A_law_mix : FnAt K mg "_law_mix" s_law_mix ["_law_cell", "_law_k"] fM dM) (A_law_pick : FnAt K mg "_law_pick" s_law_pick ["_law_cell"] fP dP) (T : Tx3 K mg CH CN uR) : FnOk P w K mg base CX0 3 f fd ["_law_cell"] (sp_term K) := by
  have G_law_mix : FnOk P w K mg base CX0 1 fM dM _ sp_mix := ok_law_mix A_law_mix
  have G_law_pick : FnOk P w K mg base CX0 2 fP dP _ (sp_pick K) := ok_law_pick A_law_pick A_law_mix T
  refine A.F.ok (k := 2) sc_law_term (fun vs H Q E h => ?_) (fun cdv Ar outer s H vs Q E hr h => ?_)
  · obtain ⟨c, rfl, _⟩ := h
    rfl
  · obtain ⟨c, rfl, k⟩ := h
    refine ⟨_, (pss_cons (ps_if (pt_cmpR op_eq (pe_op op_mod (pv 0) pe_int) pe_int (nomark _)) (pss_one (ps_ret (pe_tup (pa_cons pe_str (pa_cons (pe_op op_add pe_int (pe_op op_mod (pe_op op_fdivP (pv 0) pe_int) pe_int)) (pa_cons (pe_op op_add pe_int (pe_op op_mod (pe_op op_fdivP (pv 0) pe_int) pe_int)) pa_nil)))))) pss_nil)
      (pss_cons (ps_if (pt_cmpR op_eq (pe_op op_mod (pv 0) pe_int) pe_int (nomark _)) (pss_one (ps_ret (pe_call G_law_pick (hr.mono (by decide)) rfl A_law_pick.m A_law_pick.F.kp A_law_pick.b .nil pass0 (pa_cons (pe_call G_law_mix (hr.mono (by decide)) rfl A_law_mix.m A_law_mix.F.kp A_law_mix.b .nil pass0 (pa_cons (pv 0) (pa_cons pe_int pa_nil))) pa_nil)))) pss_nil)
      (pss_one (ps_ret (pe_tup (pa_cons pe_str (pa_cons pe_str (pa_cons (pe_call G_law_pick (hr.mono (by decide)) rfl A_law_pick.m A_law_pick.F.kp A_law_pick.b .nil pass0 (pa_cons (pe_call G_law_mix (hr.mono (by decide)) rfl A_law_mix.m A_law_mix.F.kp A_law_mix.b .nil pass0 (pa_cons (pv 0) (pa_cons pe_int pa_nil))) pa_nil)) (pa_cons (pe_call G_law_pick (hr.mono (by decide)) rfl A_law_pick.m A_law_pick.F.kp A_law_pick.b .nil pass0 (pa_cons (pe_call G_law_mix (hr.mono (by decide)) rfl A_law_mix.m A_law_mix.F.kp A_law_mix.b .nil pass0 (pa_cons (pv 0) (pa_cons pe_int pa_nil))) pa_nil)) pa_nil))))))))), ?_⟩
    refine ⟨_, rfl, _, _, rfl, rfl, (by show (0 : Int) < 3; decide), rfl, _, rfl, iteBB (fun _ => ?_) (fun _ => ?_)⟩
    · have a0 := Int.emod_nonneg (c / 3) (show (499999 : Int) ≠ 0 by decide)
      have a1 := Int.emod_lt_of_pos (c / 3) (show (0 : Int) < 499999 by decide)
      have b0 := Int.emod_nonneg (c / 7) (show (500001 : Int) ≠ 0 by decide)
      refine ⟨_, rfl, _, _, rfl, rfl, ⟨by decide, by decide +kernel⟩, _, _, rfl, rfl, (by show (0 : Int) < 499999; decide), _, _, rfl, rfl, ?_⟩
      refine ⟨_, rfl, _, _, rfl, rfl, ⟨by decide, by decide +kernel⟩, _, _, rfl, rfl, (by show (0 : Int) < 500001; decide), _, _, rfl, rfl, (by show 3 ≤ sizeLine; decide), fun t ht => ?_⟩
      refine k (.flip (1 + c / 3 % 499999) (500000 + c / 7 % 500001)) (fun d hd => ?_) _ _ (.upd ht) (.tup (SqT.of upd_same) (.cons (.str _) (.cons (.int _) (.cons (.int _) .nil))))
      rw [List.mem_singleton.mp hd]
      refine ⟨by simp, by simp, fun p hp => ?_⟩
      simp only [List.mem_cons, List.not_mem_nil, or_false] at hp
      rcases hp with z | z
      · rw [z]; show 1 ≤ _ - _; omega
      · rw [z]; show 1 ≤ 1 + _; omega
    refine ⟨_, rfl, _, _, rfl, rfl, (by show (0 : Int) < 3; decide), rfl, _, rfl, iteBB (fun _ => ?_) (fun _ => ?_)⟩
    · refine ⟨_, rfl, c, _, rfl, by decide, by decide, fun m _ _ => ⟨m, rfl, fun ps ok => ?_⟩⟩
      exact k (.pick ps) fun d hd => by rw [List.mem_singleton.mp hd]; exact ok
    · refine ⟨_, rfl, c, _, rfl, by decide, by decide, fun m _ _ => ⟨m, rfl, fun ps ok v1 H1 S1 d1 => ?_⟩⟩
      refine ⟨_, rfl, c, _, rfl, by decide, by decide, fun m _ _ => ⟨m, rfl, fun qs ok2 v2 H2 S2 d2 => ⟨(by show 4 ≤ sizeLine; decide), fun t ht => ?_⟩⟩⟩
      have S3 := Same.upd (o := .tup [.str "op", .str "-", v1, v2]) ht
      refine k (.sub ps qs) (fun d hd => ?_) _ _ (S1.trans (S2.trans S3)) (.tup (SqT.of upd_same) (.cons (.str _) (.cons (.str _) (.cons ((d1.same S2).same S3) (.cons (d2.same S3) .nil)))))
      simp only [tmW, List.mem_cons, List.not_mem_nil, or_false] at hd
      rcases hd with z | z
      · rw [z]; exact ok
      · rw [z]; exact ok2
end
end K70
namespace K70
open PySem L2 FW PyProof.Rows
def notSub : Tm → Prop
  | .sub _ _ => False
  | _ => True
def sp_ldraws (K : PySem.W.Frag) (h : Nat) : Sp := fun vs H Q _ => ∃ v t, vs = [v] ∧ DatAt K H v (tmD t) ∧ TmOk t ∧ (h = 0 → notSub t) ∧ ∀ a ps H', Same H H' → H a = none → LLM K H' a ps → ps.map (·.2) = (tmW t).map (fun d => d.map pI) → (∀ p ∈ ps, H p.1 = none) → Q (.ref a) H'
theorem LsM.ne {K : PySem.W.Frag} {H : Hp} {a b : Addr} {ds : List Dt} (h : LsM K H a ds) (e : H b = none) : a ≠ b := by
  obtain ⟨us, ea, _⟩ := h
  exact ne_of_none ea e
theorem LLM.cat {K : PySem.W.Frag} {H : Hp} {a b c : Addr} {ps qs : List (Addr × List Dt)} (h1 : LLM K H a ps) (h2 : LLM K H b qs) (hc : H c = none) : LLM K (upd H c (.lst (ps.map (fun p => V.ref p.1) ++ qs.map (fun p => V.ref p.1)))) c (ps ++ qs) := by
  have S := Same.upd (o := .lst (ps.map (fun p => V.ref p.1) ++ qs.map (fun p => V.ref p.1))) hc
  refine ⟨by rw [upd_same, List.map_append], fun p hp => ?_, fun p hp => ?_⟩
  · rcases List.mem_append.mp hp with z | z
    · exact (h1.it p z).same S
    · exact (h2.it p z).same S
  · rcases List.mem_append.mp hp with z | z
    · exact LsM.ne (h1.it p z) hc
    · exact LsM.ne (h2.it p z) hc
theorem LLM.one {K : PySem.W.Frag} {H : Hp} {D a : Addr} {ds : List Dt} (h : LsM K H D ds) (ha : H a = none) : LLM K (upd H a (.lst [.ref D])) a [(D, ds)] := by
  refine ⟨upd_same, fun p hp => ?_, fun p hp => ?_⟩
  · rw [List.mem_singleton.mp hp]
    exact h.same (.upd ha)
  · rw [List.mem_singleton.mp hp]
    exact LsM.ne h ha
section
variable {P : Program} {w : World} {K : PySem.W.Frag} {mg : Str → Option Value} {base : Heap} {CH CN CO : Addr} {uR uF : Value}
set_option maxHeartbeats 2000000 in
theorem ok_law_draws {f : Addr} {fd : FuncData} (A_law_draws : FnAt K mg "_law_draws" s_law_draws ["_law_term_here"] f fd) (T : Tx3 K mg CH CN uR) : ∀ h : Nat, FnOk P w K mg base CX0 (h + 1) f fd ["_law_term_here"] (sp_ldraws K h) := fun h => by
  have GG : ∃ sp, FnOk P w K mg base CX0 h f fd ["_law_term_here"] sp ∧ (∀ h', h = h' + 1 → sp = sp_ldraws K h') := by
    cases h with
    | zero => exact ⟨_, FnOk.no, fun h' z => nomatch z⟩
    | succ N => exact ⟨_, ok_law_draws A_law_draws T N, fun h' z => by cases z; rfl⟩
  obtain ⟨sp, G_law_draws, esp⟩ := GG
  refine A_law_draws.F.ok (k := h) sc_law_draws (fun vs H Q E hh => ?_) (fun cdv Ar outer s H vs Q E hr hh => ?_)
  · obtain ⟨v, t, rfl, _⟩ := hh
    rfl
  · obtain ⟨v, t, rfl, hv, ok, hh0, k⟩ := hh
    refine ⟨_, (pss_cons (ps_if (pt_cmpR op_eq (pe_ix ix_tup (pv 0) pe_int (fun _ _ => rfl)) pe_str (nomark _)) (pss_one (ps_ret (pe_lst (pa_cons (pe_lst (pa_cons (pe_tup (pa_cons pe_int (pa_cons (pe_op op_sub (pe_ix ix_tup (pv 0) pe_int (fun _ _ => rfl)) (pe_ix ix_tup (pv 0) pe_int (fun _ _ => rfl))) pa_nil))) (pa_cons (pe_tup (pa_cons pe_int (pa_cons (pe_ix ix_tup (pv 0) pe_int (fun _ _ => rfl)) pa_nil))) pa_nil))) pa_nil)))) pss_nil)
      (pss_cons (ps_if (pt_cmpR op_eq (pe_ix ix_tup (pv 0) pe_int (fun _ _ => rfl)) pe_str (nomark _)) (pss_one (ps_ret (pe_lst (pa_cons (pe_callTy call_list_of (by rfl) T.list_ Boot.«list» (pa_cons (pe_ix ix_tup (pv 0) pe_int (fun _ _ => rfl)) pa_nil)) pa_nil)))) pss_nil)
      (pss_one (ps_ret (pe_op op_cat (pe_call G_law_draws hr rfl A_law_draws.m A_law_draws.F.kp A_law_draws.b .nil pass0 (pa_cons (pe_ix ix_tup (pv 0) pe_int (fun _ _ => rfl)) pa_nil)) (pe_call G_law_draws hr rfl A_law_draws.m A_law_draws.F.kp A_law_draws.b .nil pass0 (pa_cons (pe_ix ix_tup (pv 0) pe_int (fun _ _ => rfl)) pa_nil))))))), ?_⟩
    cases t with
    | flip a b =>
      obtain ⟨r, vs, rfl, sv, dv⟩ := DatAt.un (ds := [.str "flip", .int a, .int b]) hv
      obtain ⟨v0, rs, rfl, h0, dv⟩ := dv.un
      obtain ⟨v1, v2, rfl, h1, h2⟩ := dv.two
      rw [h0.str_eq, h1.int_eq, h2.int_eq] at sv
      refine ⟨_, rfl, r, _, 0, .str "flip", rfl, rfl, sv, rfl, rfl, _, rfl, iteBB (fun _ => ?_) (fun hc => absurd hc (by decide +kernel))⟩
      refine ⟨_, rfl, r, _, 2, .int b, rfl, rfl, sv, rfl, _, rfl, r, _, 1, .int a, rfl, rfl, sv, rfl, _, _, rfl, rfl, two_le, fun t1 ht1 => ?_⟩
      have S1 := Same.upd (o := .tup [.int 0, .int (b - a)]) ht1
      have e1 : SqT K (upd H t1 (.tup [.int 0, .int (b - a)])) t1 [.int 0, .int (b - a)] := SqT.of upd_same
      generalize upd H t1 (.tup [.int 0, .int (b - a)]) = H1 at S1 e1
      refine ⟨_, rfl, r, _, 1, .int a, rfl, rfl, S1.tup sv, rfl, two_le, fun t2 ht2 => ?_⟩
      have S2 := Same.upd (o := .tup [.int 1, .int a]) ht2
      have e2 : SqT K (upd H1 t2 (.tup [.int 1, .int a])) t2 [.int 1, .int a] := SqT.of upd_same
      generalize upd H1 t2 (.tup [.int 1, .int a]) = H2 at S2 e2
      refine ⟨two_le, fun D hD => ?_⟩
      have S3 := Same.upd (o := .lst [.ref t1, .ref t2]) hD
      have e3 : LsM K (upd H2 D (.lst [.ref t1, .ref t2])) D ([(0, b - a), (1, a)].map pI) := ⟨_, upd_same, .cons (.tup (S3.tup (S2.tup e1)) (.cons (.int _) (.cons (.int _) .nil))) (.cons (.tup (S3.tup e2) (.cons (.int _) (.cons (.int _) .nil))) .nil)⟩
      generalize upd H2 D (.lst [.ref t1, .ref t2]) = H3 at S3 e3
      have S03 := S1.trans (S2.trans S3)
      refine ⟨(by show 1 ≤ sizeLine; decide), fun a2 ha2 => ?_⟩
      exact k a2 _ _ (S03.trans (.upd ha2)) (S03.free ha2) (LLM.one e3 ha2) rfl fun p hp => by
        rw [List.mem_singleton.mp hp]
        exact (S1.trans S2).free hD
    | pick ps =>
      obtain ⟨r, vs, rfl, sv, dv⟩ := DatAt.un (ds := [.str "pick", .tup (ps.map pI)]) hv
      obtain ⟨v0, v1, rfl, h0, h1⟩ := dv.two
      obtain ⟨r2, us, rfl, s2, d2⟩ := h1.un
      rw [h0.str_eq] at sv
      refine ⟨_, rfl, r, _, 0, .str "pick", rfl, rfl, sv, rfl, rfl, _, rfl, iteBB (fun hc => absurd hc (by decide +kernel)) (fun _ => ?_)⟩
      refine ⟨_, rfl, r, _, 0, .str "pick", rfl, rfl, sv, rfl, rfl, _, rfl, iteBB (fun _ => ?_) (fun hc => absurd hc (by decide +kernel))⟩
      refine ⟨_, rfl, r, _, 1, .ref r2, rfl, rfl, sv, rfl, r2, us, rfl, .inr s2, fun D hD => ?_⟩
      have S3 := Same.upd (o := .lst us) hD
      have e3 : LsM K (upd H D (.lst us)) D (ps.map pI) := ⟨_, upd_same, d2.same S3⟩
      generalize upd H D (.lst us) = H3 at S3 e3
      refine ⟨(by show 1 ≤ sizeLine; decide), fun a2 ha2 => ?_⟩
      exact k a2 _ _ (S3.trans (.upd ha2)) (S3.free ha2) (LLM.one e3 ha2) rfl fun p hp => by
        rw [List.mem_singleton.mp hp]
        exact hD
    | sub ps qs =>
      obtain ⟨r, vs, rfl, sv, dv⟩ := DatAt.un (ds := [.str "op", .str "-", pkD ps, pkD qs]) hv
      obtain ⟨v0, v1, v2, v3, rfl, h0, h1, h2, h3⟩ := dats4 dv
      rw [h0.str_eq] at sv
      refine ⟨_, rfl, r, _, 0, .str "op", rfl, rfl, sv, rfl, rfl, _, rfl, iteBB (fun hc => absurd hc (by decide +kernel)) (fun _ => ?_)⟩
      refine ⟨_, rfl, r, _, 0, .str "op", rfl, rfl, sv, rfl, rfl, _, rfl, iteBB (fun hc => absurd hc (by decide +kernel)) (fun _ => ?_)⟩
      cases h with
      | zero => exact (hh0 rfl).elim
      | succ h =>
        cases esp h rfl
        refine ⟨_, rfl, r, _, 2, v2, rfl, rfl, sv, rfl, v2, .pick ps, rfl, h2, (fun d hd => ok d (by rw [List.mem_singleton.mp hd]; exact List.mem_cons_self ..)), (fun _ => trivial), fun a1 p1 H1 S1 ha1 l1 e1 f1 => ?_⟩
        refine ⟨_, rfl, r, _, 3, v3, rfl, rfl, S1.tup sv, rfl, v3, .pick qs, rfl, h3.same S1, (fun d hd => ok d (by rw [List.mem_singleton.mp hd]; exact List.mem_cons_of_mem _ (List.mem_cons_self ..))), (fun _ => trivial), fun a2 p2 H2 S2 ha2 l2 e2 f2 => ?_⟩
        have l1' := l1.same S2
        have n1 : p1.length = 1 := by simpa [tmW] using congrArg List.length e1
        have n2 : p2.length = 1 := by simpa [tmW] using congrArg List.length e2
        refine ⟨a1, a2, _, _, rfl, rfl, l1'.at_, l2.at_, (by rw [List.length_map, List.length_map, n1, n2]; decide), fun c hc => ?_⟩
        refine k c _ _ ((S1.trans S2).trans (.upd hc)) ((S1.trans S2).free hc) (LLM.cat l1' l2 hc) (by rw [List.map_append, e1, e2]; rfl) fun p hp => ?_
        rcases List.mem_append.mp hp with z | z
        · exact f1 p z
        · exact S1.free (f2 p z)
end
end K70
namespace K70
open PySem L2 FW PyProof.Rows
def sp_number (K : PySem.W.Frag) : Sp := fun vs H Q _ => ∃ (D : Addr) (d : List (Int × Int)) (c : Int), vs = [.ref D, .int c] ∧ LsM K H D (d.map pI) ∧ DOk d ∧ ∀ (n : Int) (j : Nat) (a : Addr) (H' : Hp), Abv n (d.map (·.2)) j → Same H H' → H a = none → H' a = some (.lst [.int n, nI j]) → Q (.ref a) H'
def sp_alike : Sp := fun vs H Q _ => ∃ n : Int, vs = [.int n, .int n] ∧ Q (.bl true) H
def sp_llist (K : PySem.W.Frag) : Sp := fun vs H Q _ => ∃ (a b : Addr) (ns : List Int), vs = [.ref a, .ref b] ∧ H a = some (.lst (ns.map V.int)) ∧ H b = some (.lst (ns.map V.int)) ∧ ns.length ≤ 10000 ∧ Q (.bl true) H
def sp_pairs (K : PySem.W.Frag) : Sp := fun vs H Q _ => ∃ (a b : Addr) (rs : List (Int × Int)), vs = [.ref a, .ref b] ∧ LsM K H a (rs.map pI) ∧ LsM K H b (rs.map pI) ∧ rs.length ≤ 10000 ∧ ∀ H', Same H H' → Q (.bl true) H'
def sp_bases (K : PySem.W.Frag) (CO : Addr) : Sp := fun vs H Q _ => ∃ (p s a : Addr) (n : Int) (sts : List Dt) (ps : List (Addr × List Dt)) (dd : Dw), vs = [.ref p] ∧ OneAt K CO H p s a n sts ps ∧ ps.map (·.2) = dd.map (fun d => d.map pI) ∧ ps.length ≤ 60 ∧ (∀ d ∈ dd, d.length ≤ 1000) ∧ ∀ D H', Same H H' → H D = none → H' D = some (.lst ((dd.map fun d => (d.map (·.2)).sum).map V.int)) → Q (.ref D) H'
theorem cut_nat (xs : List V) (j : Nat) (h : j ≤ xs.length) : cutV xs none (some (j : Int)) = xs.take j := by
  unfold cutV
  rw [HT.sIx_none]
  show (xs.drop 0).take (HT.sIx xs.length xs.length (some (j : Int)) - 0) = xs.take j
  rw [HT.sIx_nat, List.drop_zero, Nat.sub_zero]
  congr 1
  omega
theorem sum_get {ws : List Int} {j : Nat} {x : Int} (h : ws[j]? = some x) : (ws.take (j + 1)).sum = (ws.take j).sum + x := by rw [take_one h, sum_snoc]
section
variable {X : Cx} {K : PySem.W.Frag}
theorem call_sumK (hK : X.K = K) (hc : X.calm = true) : CallR X (.builtin "sum") (fun xs H Q => ∃ (p : Addr) (ns : List Int), xs = [.ref p] ∧ SqL K H p (ns.map V.int) ∧ Q (.int ns.sum) H) := by
  subst hK
  exact call_sum hc
end
section
variable {P : Program} {w : World} {K : PySem.W.Frag} {mg : Str → Option Value} {base : Heap} {CH CN CO : Addr} {uR uF : Value}
set_option maxHeartbeats 2000000 in
theorem ok_law_number {f : Addr} {fd : FuncData} (A : FnAt K mg "_law_number" s_law_number ["_law_draw", "_law_cell"] f fd) (T : Tx3 K mg CH CN uR) : FnOk P w K mg base CX0 1 f fd ["_law_draw", "_law_cell"] (sp_number K) := by
  refine A.F.ok sc_law_number (fun vs H Q E h => ?_) (fun cdv Ar outer s H vs Q E hr h => ?_)
  · obtain ⟨D, d, c, rfl, _⟩ := h
    rfl
  · obtain ⟨D, d, c, rfl, ⟨us, eD, du⟩, ok, k⟩ := h
    refine ⟨_, (pss_cons (ps_set (i := 2) sc_law_number.nd rfl (Or.inl rfl) (pe_op op_mod (pv 1) (pe_callB call_len_seq (by rfl) T.len_ Boot.«len» (pa_cons (pv 0) pa_nil))))
      (pss_cons (ps_set (i := 3) sc_law_number.nd rfl (Or.inl rfl) (pe_callB (call_sum rfl) (by rfl) T.sum_ Boot.«sum» (pa_cons (pe_comp rfl (Nc := ["_law_number_here", "_law_weight"]) (caps0 rfl (by decide +kernel) (by decide +kernel) (by decide +kernel)) (pi_list (pe_slice sl_list (pv 0) po_none (po_some (pv 2)))) (fun _ _ _ _ => by exact (pg_tupK (K := K) (n := 2) rfl rfl (pgs_cons (pg_name (i := 0) (show List.Nodup (["_law_number_here", "_law_weight"] : List Str) by decide +kernel) rfl (Or.inl rfl)) (pgs_cons (pg_name (i := 1) (show List.Nodup (["_law_number_here", "_law_weight"] : List Str) by decide +kernel) rfl (Or.inl rfl)) pgs_nil)))) (fun _ _ _ _ => pts_nil) (fun _ _ _ _ => (pv 1))) pa_nil)))
      (pss_cons (ps_if (pt_cmpR op_eq (pe_op op_mod (pe_op op_fdivP (pv 1) pe_int) pe_int) pe_int (nomark _)) (pss_one (ps_ret (pe_lst (pa_cons (pv 3) (pa_cons (pv 2) pa_nil))))) pss_nil)
      (pss_cons (ps_if (pt_cmpR op_eq (pe_op op_mod (pe_op op_fdivP (pv 1) pe_int) pe_int) pe_int (nomark _)) (pss_one (ps_ret (pe_lst (pa_cons (pe_op op_sub (pe_op op_add (pv 3) (pe_ix ix_tup (pe_ix ix_list (pv 0) (pv 2) (fun _ _ => rfl)) pe_int (fun _ _ => rfl))) pe_int) (pa_cons (pv 2) pa_nil))))) pss_nil)
      (pss_one (ps_ret (pe_lst (pa_cons (pe_op op_add (pv 3) (pe_op op_mod (pe_op op_fdivP (pv 1) pe_int) (pe_ix ix_tup (pe_ix ix_list (pv 0) (pv 2) (fun _ _ => rfl)) pe_int (fun _ _ => rfl)))) (pa_cons (pv 2) pa_nil))))))))), ?_⟩
    have lu := du.length
    rw [List.length_map] at lu
    have lo := ok.lo
    have hi := ok.hi
    refine ⟨_, rfl, _, rfl, D, us, rfl, .inl (SqL.of eD), _, _, rfl, rfl, (by show (0 : Int) < (us.length : Nat); omega), ?_⟩
    dsimp only
    have z0 := Int.emod_nonneg c (show ((us.length : Nat) : Int) ≠ 0 by omega)
    have z1 := Int.emod_lt_of_pos c (show (0 : Int) < ((us.length : Nat) : Int) by omega)
    obtain ⟨j, ej, hj⟩ : ∃ j : Nat, c % ((us.length : Nat) : Int) = (j : Int) ∧ j < d.length := ⟨(c % ((us.length : Nat) : Int)).toNat, by omega, by omega⟩
    rw [ej]
    obtain ⟨p, hp⟩ := get_ex hj
    obtain ⟨x, ex, hx⟩ := du.get (i := j) (d := pI p) (by rw [List.getElem?_map, hp]; rfl)
    obtain ⟨r, vs, rfl, sv, dv⟩ := hx.un
    obtain ⟨v0, v1, rfl, h0, h1⟩ := dv.two
    rw [h0.int_eq, h1.int_eq] at sv
    have hpw := ok.w p (List.mem_of_getElem? hp)
    have hw : (d.map (·.2))[j]? = some p.2 := by rw [List.getElem?_map, hp]; rfl
    refine ⟨_, rfl, _, rfl, j, rfl, D, us, rfl, SqL.of eD, fun L hL => ?_⟩
    rw [cut_nat us j (by omega)]
    have S1 := Same.upd (o := .lst (us.take j)) hL
    have eL : (upd H L (.lst (us.take j))) L = some (.lst (us.take j)) := upd_same
    generalize upd H L (.lst (us.take j)) = H1 at S1 eL
    refine ⟨L, rfl, ⟨_, SqL.of eL⟩, fun C hC => ?_⟩
    refine comp_list (K := K) (a := L) (D := C) (xs := us.take j) (fun i σ ys H' => (∃ o1 o2, σ = [o1, o2]) ∧ Same H1 H' ∧ H' C = some (.lst ys) ∧ ys = (((d.map (·.2)).take i)).map V.int)
      ⟨⟨none, none, rfl⟩, .upd hC, upd_same, rfl⟩ ?_ ?_ ?_
    · rintro i σ ys H' hi ⟨_, S, eC, rfl⟩
      exact ⟨SqL.of (S _ _ eL), eC, Nat.lt_of_le_of_lt (m := 1000) (by rw [List.length_map, List.length_take, List.length_map]; omega) (by decide)⟩
    · rintro i x σ ys H' hx2 ⟨⟨o1, o2, rfl⟩, S, eC, rfl⟩ N hN
      have hxu : us[i]? = some x := by
        rw [List.getElem?_take] at hx2
        split at hx2
        · exact hx2
        · cases hx2
      obtain ⟨e, ee, hxe⟩ := (du.same (S1.trans S)).get' hxu
      obtain ⟨p', hp', rfl⟩ := map_at ee
      obtain ⟨r', vs, rfl, sv', dv'⟩ := hxe.un
      obtain ⟨w0, w1, rfl, g0, g1⟩ := dv'.two
      rw [g0.int_eq, g1.int_eq] at sv'
      refine ⟨r', _, rfl, sv', rfl, _, _, rfl, _, _, rfl, rfl, iteT (B := True) ?_⟩
      refine ⟨_, rfl, eC, hN _ _ _ ⟨⟨_, _, rfl⟩, fun b o eb => ?_, upd_same, ?_⟩⟩
      · rw [upd_ne (ne_of_none eb hC)]
        exact S _ _ eb
      · rw [take_one (x := p'.2) (by rw [List.getElem?_map, hp']; rfl), List.map_append]
        rfl
    rintro σ ys H2 ⟨_, S2, eC, rfl⟩
    rw [List.length_take, show min j us.length = j by omega] at eC
    have S02 := S1.trans S2
    have eD2 := S02 _ _ eD
    have sv2 := S02.tup sv
    refine ⟨C, _, rfl, SqL.of eC, ?_⟩
    have fin : ∀ (n : Int) (a : Addr), ((d.map (·.2)).take j).sum ≤ n → n < ((d.map (·.2)).take j).sum + p.2 → H2 a = none → Q (.ref a) (upd H2 a (.lst [.int n, nI j])) := fun n a n1 n2 ha => k n j a _ ⟨by rw [List.length_map]; exact hj, n1, by rw [sum_get hw]; exact n2⟩ (S02.trans (.upd ha)) (S02.free ha) upd_same
    generalize ((d.map (·.2)).take j).sum = sm at fin
    refine ⟨_, rfl, _, _, rfl, rfl, ⟨by decide, by decide +kernel⟩, _, _, rfl, rfl, (by show (0 : Int) < 3; decide), rfl, _, rfl, iteBB (fun _ => ?_) (fun _ => ?_)⟩
    · exact ⟨_, rfl, _, rfl, two_le, fun a ha => fin sm a (Int.le_refl _) (by omega) ha⟩
    refine ⟨_, rfl, _, _, rfl, rfl, ⟨by decide, by decide +kernel⟩, _, _, rfl, rfl, (by show (0 : Int) < 3; decide), rfl, _, rfl, iteBB (fun _ => ?_) (fun _ => ?_)⟩
    · refine ⟨_, rfl, _, rfl, _, rfl, D, us, _, .ref r, rfl, rfl, SqL.of eD2, atI_nat ex, r, _, 1, .int p.2, rfl, rfl, sv2, rfl, _, _, rfl, rfl, _, _, rfl, rfl, _, rfl, two_le, fun a ha => ?_⟩
      exact fin (sm + p.2 - 1) a (by omega) (by omega) ha
    · have y0 := Int.emod_nonneg (c / 21) (show p.2 ≠ 0 by omega)
      have y1 := Int.emod_lt_of_pos (c / 21) (show (0 : Int) < p.2 by omega)
      refine ⟨_, rfl, _, rfl, _, _, rfl, rfl, ⟨by decide, by decide +kernel⟩, _, rfl, _, rfl, D, us, _, .ref r, rfl, rfl, SqL.of eD2, atI_nat ex, r, _, 1, .int p.2, rfl, rfl, sv2, rfl, _, _, rfl, rfl, (by show (0 : Int) < p.2; omega), _, _, rfl, rfl, _, rfl, two_le, fun a ha => ?_⟩
      exact fin (sm + c / 21 % p.2) a (by omega) (by omega) ha
theorem kit_ib : PySem.W.kitOne K (.type "int") (.type "bool") = some false := by rfl
theorem ok_law_alike {f : Addr} {fd : FuncData} (A : FnAt K mg "_law_alike" s_law_alike ["_law_found", "_law_due"] f fd) (T : Tx3 K mg CH CN uR) : FnOk P w K mg base CX0 1 f fd ["_law_found", "_law_due"] sp_alike := by
  refine A.F.ok sc_law_alike (fun vs H Q E h => ?_) (fun cdv Ar outer s H vs Q E hr h => ?_)
  · obtain ⟨n, rfl, _⟩ := h
    rfl
  · obtain ⟨n, rfl, k⟩ := h
    refine ⟨_, (pss_one (ps_ret (pe_and (pe_callB call_isi (by rfl) T.isinstance_ Boot.«isinstance» (pa_cons (pv 0) (pa_cons (pe_bltn rfl T.int_ Boot.«int» (v := .ty "int") rfl) pa_nil))) (pe_and (pe_not (pe_callB call_isi (by rfl) T.isinstance_ Boot.«isinstance» (pa_cons (pv 0) (pa_cons (pe_bltn rfl T.bool_ Boot.«bool» (v := .ty "bool") rfl) pa_nil)))) (pe_one (pe_cmpR op_eq (pv 0) (pv 1) (nomark _))))))), ?_⟩
    refine ⟨_, rfl, _, _, _, _, rfl, .int n, kit_ii, _, rfl, iteT ?_⟩
    refine ⟨_, rfl, _, _, _, _, rfl, .int n, kit_ib, _, rfl, _, rfl, iteT ?_⟩
    refine ⟨_, rfl, _, rfl, rfl, ?_⟩
    rw [decide_eq_true rfl]
    exact k
theorem kit_ll : PySem.W.kitOne K (.type "list") (.type "list") = some true := by rfl
theorem kit_tt : PySem.W.kitOne K (.type "tuple") (.type "tuple") = some true := by rfl
set_option maxHeartbeats 1000000 in
theorem ok_law_list {f fA : Addr} {fd dA : FuncData} (A : FnAt K mg "_law_list" s_law_list ["_law_found", "_law_due"] f fd) (A_law_alike : FnAt K mg "_law_alike" s_law_alike ["_law_found", "_law_due"] fA dA) (T : Tx3 K mg CH CN uR) : FnOk P w K mg base CX0 2 f fd ["_law_found", "_law_due"] (sp_llist K) := by
  have G_law_alike : FnOk P w K mg base CX0 1 fA dA _ sp_alike := ok_law_alike A_law_alike T
  refine A.F.ok (k := 1) sc_law_list (fun vs H Q E h => ?_) (fun cdv Ar outer s H vs Q E hr h => ?_)
  · obtain ⟨a, b, ns, rfl, _⟩ := h
    rfl
  · obtain ⟨a, b, ns, rfl, ha, hb, few, k⟩ := h
    refine ⟨_, (pss_cons (ps_if (PW.pt (pw_or (pt_not (pt_val (pe_callB call_isi (by rfl) T.isinstance_ Boot.«isinstance» (pa_cons (pv 0) (pa_cons (pe_bltn rfl T.list_ Boot.«list» (v := .ty "list") rfl) pa_nil))))) (pw_or1 (pt_cmpR op_ne (pe_callB call_len_seq (by rfl) T.len_ Boot.«len» (pa_cons (pv 0) pa_nil)) (pe_callB call_len_seq (by rfl) T.len_ Boot.«len» (pa_cons (pv 1) pa_nil)) (nomark _))))) (pss_one (ps_ret pe_bl)) pss_nil)
      (pss_cons (ps_for PassesOwn.never rfl (pi_range1 rfl T.range_ (pa_cons (pe_callB call_len_seq (by rfl) T.len_ Boot.«len» (pa_cons (pv 1) pa_nil)) pa_nil)) (pg_name (i := 2) sc_law_list.nd rfl (Or.inl rfl)) (pss_one (ps_if (pt_not (pt_val (pe_call G_law_alike (hr.mono (by decide)) rfl A_law_alike.m A_law_alike.F.kp A_law_alike.b .nil pass0 (pa_cons (pe_ix ix_list (pv 0) (pv 2) (fun _ _ => rfl)) (pa_cons (pe_ix ix_list (pv 1) (pv 2) (fun _ _ => rfl)) pa_nil))))) (pss_one (ps_ret pe_bl)) pss_nil)))
      (pss_one (ps_ret pe_bl)))), ?_⟩
    refine ⟨_, rfl, _, _, _, _, rfl, .lst ha, kit_ll, _, rfl, iteF ?_⟩
    refine ⟨_, rfl, a, _, rfl, .inl (SqL.of ha), _, rfl, b, _, rfl, .inl (SqL.of hb), rfl, _, rfl, iteBB (fun hc => absurd hc (by simp)) (fun _ => ?_)⟩
    refine ⟨_, rfl, b, _, rfl, .inl (SqL.of hb), ((ns.map V.int).length : Int), rfl, by omega, by rw [List.length_map]; omega, ?_⟩
    rw [Int.toNat_natCast]
    refine for_range (lo := 0) (n := (ns.map V.int).length) (fun j σ H' => H' = H ∧ ∃ o2 : Option V, σ = [some (.ref a), some (.ref b), o2])
      ⟨rfl, none, rfl⟩ ?_ ?_
    · rintro j σ H' hj ⟨rfl, o2, rfl⟩
      rw [List.length_map] at hj
      obtain ⟨n, hn⟩ := get_ex hj
      have hat : atI (ns.map V.int) (0 + (j : Int)) = some (.int n) := by
        rw [Int.zero_add]
        exact atI_nat (by rw [List.getElem?_map, hn]; rfl)
      exact ⟨_, rfl, _, rfl, a, _, _, .int n, rfl, rfl, SqL.of ha, hat, _, rfl, _, rfl, b, _, _, .int n, rfl, rfl, SqL.of hb, hat, n, rfl, _, rfl, iteF ⟨rfl, _, rfl⟩⟩
    · rintro σ H' ⟨rfl, o2, rfl⟩
      exact k
set_option maxHeartbeats 1000000 in
theorem ok_law_pairs {f fA fL : Addr} {fd dA dL : FuncData} (A : FnAt K mg "_law_pairs" s_law_pairs ["_law_found", "_law_due"] f fd) (A_law_list : FnAt K mg "_law_list" s_law_list ["_law_found", "_law_due"] fL dL) (A_law_alike : FnAt K mg "_law_alike" s_law_alike ["_law_found", "_law_due"] fA dA) (T : Tx3 K mg CH CN uR) : FnOk P w K mg base CX0 3 f fd ["_law_found", "_law_due"] (sp_pairs K) := by
  have G_law_list : FnOk P w K mg base CX0 2 fL dL _ (sp_llist K) := ok_law_list A_law_list A_law_alike T
  refine A.F.ok (k := 2) sc_law_pairs (fun vs H Q E h => ?_) (fun cdv Ar outer s H vs Q E hr h => ?_)
  · obtain ⟨a, b, rs, rfl, _⟩ := h
    rfl
  · obtain ⟨a, b, rs, rfl, ⟨us, ea, du⟩, ⟨ws, eb, dw⟩, few, k⟩ := h
    refine ⟨_, (pss_cons (ps_if (PW.pt (pw_or (pt_not (pt_val (pe_callB call_isi (by rfl) T.isinstance_ Boot.«isinstance» (pa_cons (pv 0) (pa_cons (pe_bltn rfl T.list_ Boot.«list» (v := .ty "list") rfl) pa_nil))))) (pw_or1 (pt_cmpR op_ne (pe_callB call_len_seq (by rfl) T.len_ Boot.«len» (pa_cons (pv 0) pa_nil)) (pe_callB call_len_seq (by rfl) T.len_ Boot.«len» (pa_cons (pv 1) pa_nil)) (nomark _))))) (pss_one (ps_ret pe_bl)) pss_nil)
      (pss_cons (ps_for PassesOwn.never rfl (pi_range1 rfl T.range_ (pa_cons (pe_callB call_len_seq (by rfl) T.len_ Boot.«len» (pa_cons (pv 1) pa_nil)) pa_nil)) (pg_name (i := 2) sc_law_pairs.nd rfl (Or.inl rfl)) (pss_one (ps_if (PW.pt (pw_or (pt_not (pt_val (pe_callB call_isiT (by rfl) T.isinstance_ Boot.«isinstance» (pa_cons (pe_ix ix_list (pv 0) (pv 2) (fun _ _ => rfl)) (pa_cons (pe_bltn rfl T.tuple_ Boot.«tuple» (v := .ty "tuple") rfl) pa_nil))))) (pw_or1 (pt_not (pt_val (pe_call G_law_list (hr.mono (by decide)) rfl A_law_list.m A_law_list.F.kp A_law_list.b .nil pass0 (pa_cons (pe_callTy call_list_of (by rfl) T.list_ Boot.«list» (pa_cons (pe_ix ix_list (pv 0) (pv 2) (fun _ _ => rfl)) pa_nil)) (pa_cons (pe_callTy call_list_of (by rfl) T.list_ Boot.«list» (pa_cons (pe_ix ix_list (pv 1) (pv 2) (fun _ _ => rfl)) pa_nil)) pa_nil)))))))) (pss_one (ps_ret pe_bl)) pss_nil)))
      (pss_one (ps_ret pe_bl)))), ?_⟩
    have lu := du.length
    have lw := dw.length
    rw [List.length_map] at lu lw
    refine ⟨_, rfl, _, _, _, _, rfl, .lst ea, kit_ll, _, rfl, iteF ?_⟩
    refine ⟨_, rfl, a, _, rfl, .inl (SqL.of ea), _, rfl, b, _, rfl, .inl (SqL.of eb), rfl, _, rfl, iteBB (fun hc => absurd hc (by simp [lu, lw])) (fun _ => ?_)⟩
    refine ⟨_, rfl, b, _, rfl, .inl (SqL.of eb), (ws.length : Int), rfl, by omega, by omega, ?_⟩
    rw [Int.toNat_natCast]
    refine for_range (lo := 0) (n := ws.length) (fun j σ H' => Same H H' ∧ ∃ o2 : Option V, σ = [some (.ref a), some (.ref b), o2])
      ⟨.refl _, none, rfl⟩ ?_ ?_
    · rintro j σ H' hj ⟨S, o2, rfl⟩
      obtain ⟨q, hq⟩ := get_ex (l := rs) (i := j) (by omega)
      obtain ⟨x, ex, hx⟩ := (du.same S).get (i := j) (d := pI q) (by rw [List.getElem?_map, hq]; rfl)
      obtain ⟨y, ey, hy⟩ := (dw.same S).get (i := j) (d := pI q) (by rw [List.getElem?_map, hq]; rfl)
      obtain ⟨r1, v1, rfl, s1, d1⟩ := hx.un
      obtain ⟨x0, x1, rfl, g0, g1⟩ := d1.two
      rw [g0.int_eq, g1.int_eq] at s1
      obtain ⟨r2, v2, rfl, s2, d2⟩ := hy.un
      obtain ⟨y0, y1, rfl, g0, g1⟩ := d2.two
      rw [g0.int_eq, g1.int_eq] at s2
      have hat : atI us (0 + (j : Int)) = some (.ref r1) := by rw [Int.zero_add]; exact atI_nat ex
      have hat2 : atI ws (0 + (j : Int)) = some (.ref r2) := by rw [Int.zero_add]; exact atI_nat ey
      refine ⟨_, rfl, _, rfl, a, us, _, .ref r1, rfl, rfl, SqL.of (S _ _ ea), hat, r1, _, _, _, rfl, s1, kit_tt, _, rfl, iteF ?_⟩
      refine ⟨_, rfl, _, rfl, a, us, _, .ref r1, rfl, rfl, SqL.of (S _ _ ea), hat, r1, _, rfl, .inr s1, fun L1 hL1 => ?_⟩
      have S1 := Same.upd (o := .lst [.int q.1, .int q.2]) hL1
      have e1 : (upd H' L1 (.lst [.int q.1, .int q.2])) L1 = some (.lst [.int q.1, .int q.2]) := upd_same
      generalize upd H' L1 (.lst [.int q.1, .int q.2]) = H1 at S1 e1
      refine ⟨_, rfl, _, rfl, b, ws, _, .ref r2, rfl, rfl, SqL.of (S1 _ _ (S _ _ eb)), hat2, r2, _, rfl, .inr (S1.tup s2), fun L2' hL2 => ?_⟩
      have S2 := Same.upd (o := .lst [.int q.1, .int q.2]) hL2
      refine ⟨L1, L2', [q.1, q.2], rfl, S2 _ _ e1, upd_same, (by show 2 ≤ 10000; decide), _, rfl, iteF ⟨S.trans (S1.trans S2), _, rfl⟩⟩
    · rintro σ H' ⟨S, o2, rfl⟩
      exact k H' S
set_option maxHeartbeats 1000000 in
theorem ok_bases {f fW : Addr} {fd dW : FuncData} (A : FnAt K mg "bases" s_bases ["one"] f fd) (A_weights_of : FnAt K mg "weights_of" s_weights_of ["draw"] fW dW) (T2 : Tx2 K mg CO uF) (T : Tx3 K mg CH CN uR) : FnOk P w K mg base CX0 2 f fd ["one"] (sp_bases K CO) := by
  have G_weights_of : FnOk P w K mg base CX0 1 fW dW _ (sp_weights K) := ok_weights A_weights_of
  refine A.F.ok (k := 1) sc_bases (fun vs H Q E h => ?_) (fun cdv Ar outer s H vs Q E hr h => ?_)
  · obtain ⟨p, s, a, n, sts, ps, dd, rfl, _⟩ := h
    rfl
  · obtain ⟨p, sA, a, n, sts, ps, dd, rfl, one, ep, few, small, k⟩ := h
    refine ⟨_, (pss_one (ps_ret (pe_comp rfl (Nc := ["draw"]) (caps0 rfl (by decide +kernel) (by decide +kernel) (by decide +kernel)) (pi_list (pe_fld (pv 0) rfl)) (fun _ _ _ _ => (pg_name (i := 0) (show List.Nodup (["draw"] : List Str) by decide +kernel) rfl (Or.inl rfl))) (fun _ _ _ _ => pts_nil) (fun _ _ _ _ => by exact (pe_callB (call_sumK (K := K) rfl rfl) (by rfl) T.sum_ Boot.«sum» (pa_cons (pe_call G_weights_of (hr.mono (by decide)) rfl A_weights_of.m A_weights_of.F.kp A_weights_of.b .nil pass0 (pa_cons (pv 0) pa_nil)) pa_nil)))))), ?_⟩
    obtain ⟨⟨dx, eO⟩, _, ll⟩ := one
    have lp : ps.length = dd.length := by simpa using congrArg List.length ep
    refine ⟨_, rfl, p, CO, dx, _, .ref a, rfl, eO, T2.cl, T2.nD, flds_draws .., a, rfl, ⟨_, SqL.of ll.at_⟩, fun D hD => ?_⟩
    refine comp_list (K := K) (a := a) (D := D) (xs := ps.map fun q => V.ref q.1) (fun i σ ys H' => (∃ o1, σ = [o1]) ∧ Same H H' ∧ H' D = some (.lst ys) ∧ ys = ((dd.take i).map fun d => (d.map (·.2)).sum).map V.int)
      ⟨⟨none, rfl⟩, .upd hD, upd_same, rfl⟩ ?_ ?_ ?_
    · rintro i σ ys H' hi ⟨_, S, eD, rfl⟩
      exact ⟨SqL.of (S _ _ ll.at_), eD, Nat.lt_of_le_of_lt (m := 1000) (by rw [List.length_map, List.length_map, List.length_take]; omega) (by decide)⟩
    · rintro i x σ ys H' hx ⟨⟨o1, rfl⟩, S, eD, rfl⟩ N hN
      obtain ⟨q, hq, rfl⟩ := map_at hx
      have ei : (dd.map fun d => d.map pI)[i]? = some q.2 := by rw [← ep, List.getElem?_map, hq]; rfl
      obtain ⟨d, hd, ed⟩ := map_at ei
      have lq := (ll.it q (List.mem_of_getElem? hq)).same S
      rw [ed] at lq
      refine iteT (B := True) ?_
      refine ⟨_, rfl, q.1, d, rfl, lq, small d (List.mem_of_getElem? hd), fun W H1 S1 hW eW => ?_⟩
      have eD1 := S1 _ _ eD
      refine ⟨W, _, rfl, SqL.of eW, eD1, hN _ _ _ ⟨⟨_, rfl⟩, fun b o eb => ?_, upd_same, ?_⟩⟩
      · rw [upd_ne (ne_of_none eb hD)]
        exact S1 _ _ (S _ _ eb)
      · rw [take_one hd, List.map_append, List.map_append]
        rfl
    · rintro σ ys H' ⟨_, S, eD, rfl⟩
      rw [List.length_map, lp, List.take_of_length_le (Nat.le_refl _)] at eD
      exact k D H' S hD eD
end
end K70
namespace K70
open PySem L2 FW PyProof.Rows
def letD (t : Tm) : Dt := .tup [.str "let", .str "x", tmD t]
def askD : Dt := .tup [.str "ask", .tup [.str "name", .str "x"]]
def rowsD (ts : List Tm) : List Dt := ts.map letD ++ [askD]
def drD (k : Nat) : Dt := .tup [.str "draw", .int (k : Int)]
def opD (k : Nat) : Tm → Dt
  | .sub _ _ => .tup [.str "op", .str "-", drD k, drD (k + 1)]
  | _ => drD k
def cnt : Tm → Nat
  | .sub _ _ => 3
  | _ => 1
def stepsD : List Tm → Nat → Int → List Dt
  | [], _, s => [stD s (.tup [.str "slot", .int (s - 1)])]
  | t :: ts, k, s => stD s (opD k t) :: stepsD ts (k + (tmW t).length) (s + 1)
def allW (ts : List Tm) : Dw := ts.flatMap tmW
theorem putK_le1 {κ : Type} [DecidableEq κ] (e : List (κ × V)) (k : κ) (v : V) : (putK e k v).length ≤ e.length + 1 := by
  unfold putK
  split
  · rw [List.length_map]
    omega
  · rw [List.length_append]
    exact Nat.le_refl _
theorem ot_tm (e : List (Key × V)) (t : Tm) (k : Nat) : Ot e 2 (tmD t) k (opD k t) (tmW t) (cnt t) := by
  cases t with
  | flip a b => exact .draw _ _ k (.flip a b)
  | pick ps => exact .draw _ _ k (.pick ps)
  | sub ps qs => exact .node _ [pkD ps, pkD qs] _ [drD k, drD (k + 1)] k _ 2 (.op _ _ _) (.cons _ _ _ _ k [ps] [qs] 1 1 (.draw _ _ k (.pick ps)) (.cons _ _ _ _ (k + 1) [qs] [] 1 0 (.draw _ _ (k + 1) (.pick qs)) (.nil _))) (.op _ _ _ _ _)
theorem orows : ∀ (ts : List Tm) (e : List (Key × V)) (k : Nat) (s : Int), e.length + ts.length < 900 → (ts = [] → valV e (Sum.inr "x") = some (.int (s - 1))) → ∃ (e' : List (Key × V)) (s' : Int) (c : Nat), c ≤ 3 * ts.length + 1 ∧ Orows 2 (rowsD ts) e k s e' (allW ts) (stepsD ts k s) s' c
  | [], e, k, s, hl, hx => ⟨_, _, _, Nat.le_refl _, .cons askD [] e e e k s (s + 1) _ [] [] _ [] 1 0 (.ask _ _ e k s [] 1 (.name "x" _ k (hx rfl))) (.nil _ _ _)⟩
  | t :: ts, e, k, s, hl, hx => by
    have l1 := putK_le1 e (Sum.inr "x") (.int s)
    rw [List.length_cons] at hl
    obtain ⟨e', s', c, hc, os⟩ := orows ts (putK e (Sum.inr "x") (.int s)) (k + (tmW t).length) (s + 1) (by omega) (fun _ => by rw [valV_putK, show s + 1 - 1 = s by omega])
    refine ⟨e', s', cnt t + c, ?_, ?_⟩
    · rw [List.length_cons]
      have : cnt t ≤ 3 := by cases t <;> simp [cnt]
      omega
    · have o1 : Orow 2 (letD t) e k s (putK e (Sum.inr "x") (.int s)) (tmW t ++ []) [stD s (opD k t)] (s + 1) (cnt t + 0) := .lett "x" (tmD t) e _ k s _ _ _ (.succ 0 e _ k s (opD k t) (tmW t) [] (cnt t) 0 [] (by omega) (ot_tm e t k) (.zero _ _ _))
      rw [List.append_nil] at o1
      exact .cons (letD t) (rowsD ts) e _ e' k s (s + 1) s' (tmW t) (allW ts) [stD s (opD k t)] (stepsD ts (k + (tmW t).length) (s + 1)) (cnt t) c o1 os
theorem kn_pk (e : List (Key × V)) (ps : List (Int × Int)) (h : Nat) : Kn e (h + 1) (pkD ps) := .node "pick" _ [] (by decide +kernel) (by decide +kernel) (.pick _) (fun _ h => nomatch h)
theorem kn_tm (e : List (Key × V)) (t : Tm) : Kn e 2 (tmD t) := by
  cases t with
  | flip a b => exact .node "flip" _ [] (by decide +kernel) (by decide +kernel) (.flip _ _) (fun _ h => nomatch h)
  | pick ps => exact kn_pk e ps 1
  | sub ps qs =>
    refine .node "op" _ [pkD ps, pkD qs] (by decide +kernel) (by decide +kernel) (.op _ _ _) fun d hd => ?_
    simp only [List.mem_cons, List.not_mem_nil, or_false] at hd
    rcases hd with z | z
    · rw [z]; exact kn_pk e ps 0
    · rw [z]; exact kn_pk e qs 0
theorem cks : ∀ (ts : List Tm) (e : List (Key × V)), e.length + ts.length < 900 → (ts = [] → (valV e (Sum.inr "x")).isSome = true) → ∃ e', Cks 2 (rowsD ts) e e'
  | [], e, hl, hx => ⟨_, .cons askD [] e e e (.ask _ e (.name "x" (hx rfl))) (.nil _)⟩
  | t :: ts, e, hl, hx => by
    have l1 := putK_le1 e (Sum.inr "x") (.bl true)
    rw [List.length_cons] at hl
    obtain ⟨e', c⟩ := cks ts (putK e (Sum.inr "x") (.bl true)) (by omega) (fun _ => by rw [valV_putK]; rfl)
    exact ⟨e', .cons (letD t) (rowsD ts) e _ e' (.lett "x" (tmD t) e (kn_tm e t) (by omega)) c⟩
theorem steps_len : ∀ (ts : List Tm) (k : Nat) (s : Int), (stepsD ts k s).length = ts.length + 1
  | [], _, _ => rfl
  | t :: ts, k, s => by rw [stepsD, List.length_cons, List.length_cons, steps_len ts]
theorem allW_len : ∀ ts : List Tm, (allW ts).length ≤ 2 * ts.length
  | [] => Nat.le_refl _
  | t :: ts => by
    have := allW_len ts
    have := tmW_len t
    show (tmW t ++ allW ts).length ≤ _
    rw [List.length_append, List.length_cons]
    omega
theorem allW_ok : ∀ ts : List Tm, (∀ t ∈ ts, TmOk t) → ∀ d ∈ allW ts, DOk d
  | ts, h, d, hd => by
    obtain ⟨t, ht, hd⟩ := List.mem_flatMap.mp hd
    exact h t ht d hd
def AtAll (dd : Dw) (nums : List Int) (js : Nat → Nat) : Prop := ∀ (k : Nat) (d : List (Int × Int)), dd[k]? = some d → ∃ n, At nums k d n (js k)
def vk (dd : Dw) (js : Nat → Nat) (k : Nat) : Int := match dd[k]? with
  | some d => (match d[js k]? with
    | some p => p.1
    | none => 0)
  | none => 0
def tv (dd : Dw) (js : Nat → Nat) (k : Nat) : Tm → Int
  | .sub _ _ => (vk dd js k - vk dd js (k + 1)) % 1000000000000
  | _ => vk dd js k
def askA (js : Nat → Nat) (k n : Nat) : List (Nat × Nat) := (List.range' k n).map fun i => (i, js i)
theorem te_draw {dd : Dw} {nums : List Int} {js : Nat → Nat} (al : AtAll dd nums js) {h k : Nat} {e : List (Key × V)} (hk : k < dd.length) : Te dd nums (h + 1) e (drD k) (vk dd js k) [(k, js k)] := by
  obtain ⟨d, hd⟩ := get_ex hk
  obtain ⟨n, at_⟩ := al k d hd
  have hj := at_.abv.lt
  rw [List.length_map] at hj
  obtain ⟨p, hp⟩ := get_ex hj
  have ev : vk dd js k = p.1 := by
    unfold vk
    rw [hd]
    show (match d[js k]? with | some p => p.1 | none => 0) = p.1
    rw [hp]
  rw [ev]
  exact .draw k (js k) d n p hd at_ hp
theorem te_tm {dd : Dw} {nums : List Int} {js : Nat → Nat} (al : AtAll dd nums js) {k : Nat} {e : List (Key × V)} (t : Tm) (hk : k + (tmW t).length ≤ dd.length) : Te dd nums 2 e (opD k t) (tv dd js k t) (askA js k (tmW t).length) := by
  cases t with
  | flip a b => exact te_draw al (by have : (tmW (.flip a b)).length = 1 := rfl; omega)
  | pick ps => exact te_draw al (by have : (tmW (.pick ps)).length = 1 := rfl; omega)
  | sub ps qs =>
    have : (tmW (.sub ps qs)).length = 2 := rfl
    exact .sub _ _ _ _ [(k, js k)] [(k + 1, js (k + 1))] (te_draw al (by omega)) (te_draw al (by omega))
def lastV (dd : Dw) (js : Nat → Nat) : List Tm → Nat → Int → Int
  | [], _, v => v
  | t :: ts, k, _ => lastV dd js ts (k + (tmW t).length) (tv dd js k t)
theorem ask_app (js : Nat → Nat) (k a b : Nat) : askA js k (a + b) = askA js k a ++ askA js (k + a) b := by
  unfold askA
  rw [← List.map_append, ← List.range'_append_1]
theorem rn_all {dd : Dw} {nums : List Int} {js : Nat → Nat} (al : AtAll dd nums js) : ∀ (ts : List Tm) (k : Nat) (s : Int) (e : List (Key × V)) (v0 : V) (l : Int), k + (allW ts).length = dd.length → e.length + ts.length < 900 → 0 ≤ s → (ts = [] → valV e (Sum.inl (s - 1)) = some (.int l)) → Rn dd nums 2 (stepsD ts k s) e v0 (.int (lastV dd js ts k l)) (askA js k (allW ts).length)
  | [], k, s, e, v0, l, hk, hl, h0, hx => .cons s _ [] e v0 _ l [] [] (by omega) (by omega) (.slot (s - 1) l (hx rfl)) (.nil _ _)
  | t :: ts, k, s, e, v0, l, hk, hl, h0, hx => by
    have l1 := putK_le1 e (Sum.inl s : Key) (.int (tv dd js k t))
    have ew : (allW (t :: ts)).length = (tmW t).length + (allW ts).length := by
      show (tmW t ++ allW ts).length = _
      rw [List.length_append]
    rw [List.length_cons] at hl
    rw [ew] at hk ⊢
    have r := rn_all al ts (k + (tmW t).length) (s + 1) (putK e (Sum.inl s) (.int (tv dd js k t))) (.int (tv dd js k t)) (tv dd js k t) (by omega) (by omega) (by omega) (fun _ => by rw [show s + 1 - 1 = s by omega, valV_putK])
    rw [ask_app]
    exact .cons s _ _ e v0 _ _ _ _ (by omega) (by omega) (te_tm al t (by omega)) r
theorem last_snoc {dd : Dw} {js : Nat → Nat} (t : Tm) : ∀ (ts : List Tm) (k : Nat) (l : Int), lastV dd js (ts ++ [t]) k l = tv dd js (k + (allW ts).length) t
  | [], k, l => rfl
  | u :: ts, k, l => by
    have ew : (allW (u :: ts)).length = (tmW u).length + (allW ts).length := by
      show (tmW u ++ allW ts).length = _
      rw [List.length_append]
    show lastV dd js (ts ++ [t]) (k + (tmW u).length) _ = _
    rw [last_snoc t ts, ew, Nat.add_assoc]
end K70
namespace K70
open PySem L2 FW PyProof.Rows
section
variable {X : Cx} {K : PySem.W.Frag} {tg : Expr}
theorem pi_listK {l : Expr} {tl : TE} (hK : X.K = K) (hl : PE X l tl) : PI X tg l (iList K tl) := by
  subst hK
  exact pi_list hl
end
theorem pss23 {X : Cx} {a0 a1 a2 a3 a4 a5 a6 a7 a8 a9 a10 a11 a12 a13 a14 a15 a16 a17 a18 a19 a20 a21 a22 : Stmt} {t0 t1 t2 t3 t4 t5 t6 t7 t8 t9 t10 t11 t12 t13 t14 t15 t16 t17 t18 t19 t20 t21 t22 : TS} (h0 : PS X a0 t0) (h1 : PS X a1 t1) (h2 : PS X a2 t2) (h3 : PS X a3 t3) (h4 : PS X a4 t4) (h5 : PS X a5 t5) (h6 : PS X a6 t6) (h7 : PS X a7 t7) (h8 : PS X a8 t8) (h9 : PS X a9 t9) (h10 : PS X a10 t10) (h11 : PS X a11 t11) (h12 : PS X a12 t12) (h13 : PS X a13 t13) (h14 : PS X a14 t14) (h15 : PS X a15 t15) (h16 : PS X a16 t16) (h17 : PS X a17 t17) (h18 : PS X a18 t18) (h19 : PS X a19 t19) (h20 : PS X a20 t20) (h21 : PS X a21 t21) (h22 : PS X a22 t22) : PSs X [a0, a1, a2, a3, a4, a5, a6, a7, a8, a9, a10, a11, a12, a13, a14, a15, a16, a17, a18, a19, a20, a21, a22] (tSeq t0 (tSeq t1 (tSeq t2 (tSeq t3 (tSeq t4 (tSeq t5 (tSeq t6 (tSeq t7 (tSeq t8 (tSeq t9 (tSeq t10 (tSeq t11 (tSeq t12 (tSeq t13 (tSeq t14 (tSeq t15 (tSeq t16 (tSeq t17 (tSeq t18 (tSeq t19 (tSeq t20 (tSeq t21 t22)))))))))))))))))))))) := pss_cons h0 (pss_cons h1 (pss_cons h2 (pss_cons h3 (pss_cons h4 (pss_cons h5 (pss_cons h6 (pss_cons h7 (pss_cons h8 (pss_cons h9 (pss_cons h10 (pss_cons h11 (pss_cons h12 (pss_cons h13 (pss_cons h14 (pss_cons h15 (pss_cons h16 (pss_cons h17 (pss_cons h18 (pss_cons h19 (pss_cons h20 (pss_cons h21 (pss_one h22))))))))))))))))))))))
structure DuAt (H : Hp) (ys : List V) (nj : List (Int × Nat)) : Prop where
  l : ys.length = nj.length
  it : ∀ (k : Nat) (v : V) (q : Int × Nat), ys[k]? = some v → nj[k]? = some q → ∃ a, v = .ref a ∧ H a = some (.lst [.int q.1, nI q.2])
theorem DuAt.same {H H' : Hp} {ys : List V} {nj : List (Int × Nat)} (h : DuAt H ys nj) (e : Same H H') : DuAt H' ys nj := ⟨h.l, fun k v q h1 h2 => let ⟨a, e1, e2⟩ := h.it k v q h1 h2; ⟨a, e1, e _ _ e2⟩⟩
def NjOk (dd : Dw) (nj : List (Int × Nat)) : Prop := ∀ (k : Nat) (q : Int × Nat) (d : List (Int × Int)), nj[k]? = some q → dd[k]? = some d → Abv q.1 (d.map (·.2)) q.2
def sp_law (K : PySem.W.Frag) : Sp := fun vs H Q _ => ∃ (a : Addr) (ns : List Int), vs = [.ref a] ∧ SqL K H a (ns.map V.int) ∧ ns.length ≤ 63 ∧ (∀ n ∈ ns, Builtin.Int.intBits n ≤ 2 ^ 20) ∧ ∀ H', Q (.bl true) H'
theorem LsM.snoc {K : PySem.W.Frag} {H : Hp} {D : Addr} {ys : List V} {v : V} {ds : List Dt} {d : Dt} (e : H D = some (.lst ys)) (h : DatsAt K H ys ds) (hv : DatAt K H v d) : LsM K (upd H D (.lst (ys ++ [v]))) D (ds ++ [d]) :=
  ⟨_, upd_same, (h.append (.cons hv .nil)).but (.lst e) .upd⟩
theorem atI_m1 {xs : List V} {x : V} : atI (xs ++ [x]) (-1) = some x := by
  unfold atI ixN
  have h1 : ¬ (0 : Int) ≤ -1 := by decide
  have h2 : -(((xs ++ [x]).length : Nat) : Int) ≤ -1 := by
    rw [List.length_append]
    show -((xs.length + 1 : Nat) : Int) ≤ -1
    omega
  rw [if_neg h1, if_pos h2]
  have e : ((-1 : Int) + (((xs ++ [x]).length : Nat) : Int)).toNat = xs.length := by
    rw [List.length_append]
    show ((-1 : Int) + ((xs.length + 1 : Nat) : Int)).toNat = xs.length
    omega
  rw [e]
  show (xs ++ [x])[xs.length]? = some x
  rw [List.getElem?_append_right (Nat.le_refl _), Nat.sub_self]
  rfl
structure Isi (K : PySem.W.Frag) (C C2 : Addr) : Prop where
  a : PySem.W.findIn K (.ref C2) "__class__" = some (some (.builtin "object.__class__"))
  b : PySem.W.specialIn K (.builtin "object.__class__") "__get__" = some (some (.builtin "getset_descriptor.__get__"))
  c : PySem.W.takesIn K (.builtin "object.__class__") = some true
  d : PySem.W.mroIn K C2 (.type "object") = some true
  e1 : PySem.W.isClsIn K C = true
  e2 : PySem.W.typeIn K (.ref C) = some (.type "type")
  e3 : PySem.W.subIn K (.ref C2) (.ref C) = some true
theorem Isi.e {K : PySem.W.Frag} {C C2 : Addr} (h : Isi K C C2) : PySem.W.kitOne K (.ref C2) (.ref C) = some true := by
  unfold PySem.W.kitOne
  split
  · rfl
  · have e1 : (PySem.W.clsIn K C).isSome = true := h.e1
    show (if ((PySem.W.clsIn K C).isSome && PySem.W.typeIn K (.ref C) == some (.type "type")) = true then PySem.W.subIn K (.ref C2) (.ref C) else none) = some true
    rw [e1, h.e2]
    exact h.e3
theorem restS {C N : L2.St → Hp → Prop} {Q : Prop} (f : (∀ σ H, C σ H → N σ H) → Q) (g : ∀ σ H, C σ H → N σ H) : Q := f g
theorem atI_m2 {xs : List V} {y x : V} : atI (xs ++ [y] ++ [x]) (-2) = some y := by
  unfold atI ixN
  have h1 : ¬ (0 : Int) ≤ -2 := by decide
  have h2 : -(((xs ++ [y] ++ [x]).length : Nat) : Int) ≤ -2 := by
    rw [List.length_append, List.length_append]
    show -((xs.length + 1 + 1 : Nat) : Int) ≤ -2
    omega
  rw [if_neg h1, if_pos h2]
  have e : ((-2 : Int) + (((xs ++ [y] ++ [x]).length : Nat) : Int)).toNat = xs.length := by
    rw [List.length_append, List.length_append]
    show ((-2 : Int) + ((xs.length + 1 + 1 : Nat) : Int)).toNat = xs.length
    omega
  rw [e]
  show (xs ++ [y] ++ [x])[xs.length]? = some y
  rw [List.append_assoc, List.getElem?_append_right (Nat.le_refl _), Nat.sub_self]
  rfl
section
variable {P : Program} {w : World} {K : PySem.W.Frag} {mg : Str → Option Value} {base : Heap} {CH CN CO : Addr} {uR uF : Value}
set_option maxHeartbeats 16000000 in
theorem ok_law {f f1 f2 f3 f4 f5 f6 f7 f8 f9 f10 f11 f12 : Addr} {fd d1 d2 d3 d4 d5 d6 d7 d8 d9 d10 d11 d12 : FuncData} (A : FnAt K mg "law" s_law ["_law_script"] f fd)
    (A_law_mix : FnAt K mg "_law_mix" s_law_mix ["_law_cell", "_law_k"] f1 d1) (A_law_pick : FnAt K mg "_law_pick" s_law_pick ["_law_cell"] f2 d2) (A_law_term : FnAt K mg "_law_term" s_law_term ["_law_cell"] f3 d3) (A_law_draws : FnAt K mg "_law_draws" s_law_draws ["_law_term_here"] f4 d4) (A_law_number : FnAt K mg "_law_number" s_law_number ["_law_draw", "_law_cell"] f5 d5)
    (A_law_alike : FnAt K mg "_law_alike" s_law_alike ["_law_found", "_law_due"] f6 d6) (A_law_list : FnAt K mg "_law_list" s_law_list ["_law_found", "_law_due"] f7 d7) (A_law_pairs : FnAt K mg "_law_pairs" s_law_pairs ["_law_found", "_law_due"] f8 d8)
    (A_opened : FnAt K mg "opened" s_opened ["program"] f9 d9) (G_opened : FnOk P w K mg base CX0 7 f9 d9 ["program"] (sp_opened K CO 2))
    (A_bases : FnAt K mg "bases" s_bases ["one"] f10 d10) (G_bases : FnOk P w K mg base CX0 2 f10 d10 ["one"] (sp_bases K CO))
    (A_run : FnAt K mg "run" s_run ["one", "hand"] f11 d11) (G_run : FnOk P w K mg base CX0 7 f11 d11 ["one", "hand"] (sp_run K CO CN 2))
    {g1 g2 : Addr} {e1 e2 : FuncData} (M_take : Meth K CN "take" g1) (G_take : FnOk P w K mg base CX0 3 g1 e1 ["self", "site", "draw"] (sp_take K CN)) (b_take : Binds K e1 ["self", "site", "draw"] [])
    (M_Numbered : Mk K CN g2) (G_Numbered_init : FnOk P w K mg base CX0 2 g2 e2 ["self", "numbers"] (sp_ninit CN)) (b_Numbered_init : Binds K e2 ["self", "numbers"] [])
    (I5 : Isi K CH CN) (T : Tx3 K mg CH CN uR) : FnOk P w K mg base CX0 8 f fd ["_law_script"] (sp_law K) := by
  have G_law_mix : FnOk P w K mg base CX0 1 f1 d1 _ sp_mix := ok_law_mix A_law_mix
  have G_law_term : FnOk P w K mg base CX0 3 f3 d3 _ (sp_term K) := ok_law_term A_law_term A_law_mix A_law_pick T
  have G_law_draws : FnOk P w K mg base CX0 2 f4 d4 _ (sp_ldraws K 1) := ok_law_draws A_law_draws T 1
  have G_law_number : FnOk P w K mg base CX0 1 f5 d5 _ (sp_number K) := ok_law_number A_law_number T
  have G_law_alike : FnOk P w K mg base CX0 1 f6 d6 _ sp_alike := ok_law_alike A_law_alike T
  have G_law_list : FnOk P w K mg base CX0 2 f7 d7 _ (sp_llist K) := ok_law_list A_law_list A_law_alike T
  have G_law_pairs : FnOk P w K mg base CX0 3 f8 d8 _ (sp_pairs K) := ok_law_pairs A_law_pairs A_law_list A_law_alike T
  refine A.F.ok (k := 7) sc_law (fun vs H Q E h => ?_) (fun cdv Ar outer s0 H vs Q E hr h => ?_)
  · obtain ⟨a, ns, rfl, _⟩ := h
    rfl
  · obtain ⟨a, ns, rfl, hS, hl63, hbits, k⟩ := h
    refine' ⟨_, pss23 ?s0 ?s1 ?s2 ?s3 ?s4 ?s5 ?s6 ?s7 ?s8 ?s9 ?s10 ?s11 ?s12 ?s13 ?s14 ?s15 ?s16 ?s17 ?s18 ?s19 ?s20 ?s21 ?s22, ?zz⟩
    case s0 => exact (ps_set (i := 1) sc_law.nd rfl (Or.inr rfl) (pe_op op_cat (pe_comp rfl (Nc := ["_law_cell"]) (caps0 rfl (by decide +kernel) (by decide +kernel) (by decide +kernel)) (pi_list (pe_slice sl_list (pv 0) po_none (po_some pe_int))) (fun _ _ _ _ => (pg_name (i := 0) (show List.Nodup (["_law_cell"] : List Str) by decide +kernel) rfl (Or.inl rfl))) (fun _ _ _ _ => pts_nil) (fun _ _ _ _ => by exact (pe_call G_law_mix (hr.mono (by decide)) rfl A_law_mix.m A_law_mix.F.kp A_law_mix.b .nil pass0 (pa_cons (pv 0) (pa_cons pe_int pa_nil))))) (pe_lst (pa_cons pe_int pa_nil))))
    case s1 => exact (ps_comp (i := 2) rfl sc_law.nd rfl (Or.inl rfl) (Nc := ["_law_cell"]) (caps0 rfl (by decide +kernel) (by decide +kernel) (by decide +kernel)) (pi_list (pv 1)) (fun _ _ _ _ => (pg_name (i := 0) (show List.Nodup (["_law_cell"] : List Str) by decide +kernel) rfl (Or.inl rfl))) (fun _ _ _ _ => pts_nil) (fun _ _ _ _ => by exact (pe_call G_law_term (hr.mono (by decide)) rfl A_law_term.m A_law_term.F.kp A_law_term.b .nil pass0 (pa_cons (pv 0) pa_nil))))
    case s2 => exact (ps_set (i := 3) sc_law.nd rfl (Or.inl rfl) (pe_call G_opened (hr.mono (by decide)) rfl A_opened.m A_opened.F.kp A_opened.b .nil pass0 (pa_cons (pe_op op_cat (pe_comp rfl (Nc := ["_law_term_here"]) (caps0 rfl (by decide +kernel) (by decide +kernel) (by decide +kernel)) (pi_list (pv 2)) (fun _ _ _ _ => (pg_name (i := 0) (show List.Nodup (["_law_term_here"] : List Str) by decide +kernel) rfl (Or.inl rfl))) (fun _ _ _ _ => pts_nil) (fun _ _ _ _ => (pe_tup (pa_cons pe_str (pa_cons pe_str (pa_cons (pv 0) pa_nil)))))) (pe_lst (pa_cons (pe_tup (pa_cons pe_str (pa_cons (pe_tup (pa_cons pe_str (pa_cons pe_str pa_nil))) pa_nil))) pa_nil))) pa_nil)))
    case s3 => exact (ps_set (i := 4) sc_law.nd rfl (Or.inr rfl) (pe_lst pa_nil))
    case s4 => exact (ps_for PassesOwn.never rfl (pi_list (pv 2)) (pg_name (i := 5) sc_law.nd rfl (Or.inl rfl)) (pss_one (ps_set (i := 4) sc_law.nd rfl (Or.inr rfl) (pe_op op_cat (pv 4) (pe_call G_law_draws (hr.mono (by decide)) rfl A_law_draws.m A_law_draws.F.kp A_law_draws.b .nil pass0 (pa_cons (pv 5) pa_nil))))))
    case s5 => exact (ps_set (i := 6) sc_law.nd rfl (Or.inr rfl) (pe_comp rfl (Nc := ["_law_k", "_law_draws_here", "_law_cells"]) (caps2 1 4 2 1 [(".0", .local), ("_law_k", .local), ("_law_number", .globalImplicit), ("_law_mix", .globalImplicit), ("sum", .globalImplicit), ("_law_cells", .cell), ("_law_draws_here", .cell)] rfl rfl rfl (by decide +kernel) (by decide +kernel) rfl rfl (by decide) (by decide +kernel) rfl rfl rfl rfl rfl rfl rfl rfl) (pi_range1 rfl T.range_ (pa_cons (pe_callB call_len_seq (by rfl) T.len_ Boot.«len» (pa_cons (pv 4) pa_nil)) pa_nil)) (fun _ _ _ _ => (pg_name (i := 0) (show List.Nodup (["_law_k", "_law_draws_here", "_law_cells"] : List Str) by decide +kernel) rfl (Or.inl rfl))) (fun _ _ _ _ => pts_nil) (fun _ _ _ _ => by exact (pe_call G_law_number (hr.mono (by decide)) rfl A_law_number.m A_law_number.F.kp A_law_number.b .nil pass0 (pa_cons (pe_ix (ix_listK (K := K) rfl) (pv 1) (pv 0) (fun _ _ => rfl)) (pa_cons (pe_call G_law_mix (hr.mono (by decide)) rfl A_law_mix.m A_law_mix.F.kp A_law_mix.b .nil pass0 (pa_cons (pe_op op_add (pe_callB (call_sumK (K := K) rfl rfl) (by rfl) T.sum_ Boot.«sum» (pa_cons (pv 2) pa_nil)) (pe_op op_mulB (pv 0) (pv 0))) (pa_cons pe_int pa_nil))) pa_nil))))))
    case s6 => exact (ps_comp (i := 7) rfl sc_law.nd rfl (Or.inl rfl) (Nc := ["_law_pair"]) (caps0 rfl (by decide +kernel) (by decide +kernel) (by decide +kernel)) (pi_list (pv 6)) (fun _ _ _ _ => (pg_name (i := 0) (show List.Nodup (["_law_pair"] : List Str) by decide +kernel) rfl (Or.inl rfl))) (fun _ _ _ _ => pts_nil) (fun _ _ _ _ => by exact (pe_ix (ix_listK (K := K) rfl) (pv 0) pe_int (fun _ _ => rfl))))
    case s7 => exact (ps_if (pt_not (pt_val (pe_call G_law_list (hr.mono (by decide)) rfl A_law_list.m A_law_list.F.kp A_law_list.b .nil pass0 (pa_cons (pe_call G_bases (hr.mono (by decide)) rfl A_bases.m A_bases.F.kp A_bases.b .nil pass0 (pa_cons (pv 3) pa_nil)) (pa_cons (pe_comp rfl (Nc := ["_law_draw"]) (caps0 rfl (by decide +kernel) (by decide +kernel) (by decide +kernel)) (pi_list (pv 4)) (fun _ _ _ _ => (pg_name (i := 0) (show List.Nodup (["_law_draw"] : List Str) by decide +kernel) rfl (Or.inl rfl))) (fun _ _ _ _ => pts_nil) (fun _ _ _ _ => by exact (pe_callB (call_sumK (K := K) rfl rfl) (by rfl) T.sum_ Boot.«sum» (pa_cons (pe_comp rfl (Nc := ["_law_number_here", "_law_weight"]) (caps0 rfl (by decide +kernel) (by decide +kernel) (by decide +kernel)) (pi_listK (K := K) rfl (pv 0)) (fun _ _ _ _ => by exact (pg_tupK (K := K) (n := 2) rfl rfl (pgs_cons (pg_name (i := 0) (show List.Nodup (["_law_number_here", "_law_weight"] : List Str) by decide +kernel) rfl (Or.inl rfl)) (pgs_cons (pg_name (i := 1) (show List.Nodup (["_law_number_here", "_law_weight"] : List Str) by decide +kernel) rfl (Or.inl rfl)) pgs_nil)))) (fun _ _ _ _ => pts_nil) (fun _ _ _ _ => (pv 1))) pa_nil)))) pa_nil))))) (pss_one (ps_ret pe_bl)) pss_nil)
    case s8 => exact (ps_expr (pe_bm PySem.F.plainAttrs_list PySem.F.slot_list_append PySem.F.type_list_append mt_append (pe_call G_bases (hr.mono (by decide)) rfl A_bases.m A_bases.F.kp A_bases.b .nil pass0 (pa_cons (pv 3) pa_nil)) (pa_cons pe_int pa_nil)))
    case s9 => exact (ps_if (pt_cmpR op_ne (pe_callB call_len_seq (by rfl) T.len_ Boot.«len» (pa_cons (pe_call G_bases (hr.mono (by decide)) rfl A_bases.m A_bases.F.kp A_bases.b .nil pass0 (pa_cons (pv 3) pa_nil)) pa_nil)) (pe_callB call_len_seq (by rfl) T.len_ Boot.«len» (pa_cons (pv 4) pa_nil)) (nomark _)) (pss_one (ps_ret pe_bl)) pss_nil)
    case s10 => exact (ps_set (i := 8) sc_law.nd rfl (Or.inl rfl) (pe_callTy call_list_of (by rfl) T.list_ Boot.«list» (pa_cons (pv 7) pa_nil)))
    case s11 => exact (ps_set (i := 9) sc_law.nd rfl (Or.inl rfl) (pe_make M_Numbered G_Numbered_init (hr.mono (by decide)) rfl T.Numbered_ b_Numbered_init .nil pass0 (pa_cons (pv 8) pa_nil)))
    case s12 => exact (ps_expr (pe_bm0 PySem.F.plainAttrs_list PySem.F.slot_list_clear PySem.F.type_list_clear mt_clear (pv 8)))
    case s13 => exact (ps_set (i := 10) sc_law.nd rfl (Or.inl rfl) (pe_lst pa_nil))
    case s14 => exact (ps_set (i := 11) sc_law.nd rfl (Or.inl rfl) (pe_op op_add pe_int (pe_op op_mod (pe_call G_law_mix (hr.mono (by decide)) rfl A_law_mix.m A_law_mix.F.kp A_law_mix.b .nil pass0 (pa_cons (pe_callB (call_sumK (K := K) rfl rfl) (by rfl) T.sum_ Boot.«sum» (pa_cons (pv 1) pa_nil)) (pa_cons pe_int pa_nil))) pe_int)))
    case s15 => exact (ps_for PassesOwn.never rfl (pi_range1 rfl T.range_ (pa_cons (pe_op op_mulB pe_int (pe_callB call_len_seq (by rfl) T.len_ Boot.«len» (pa_cons (pv 4) pa_nil))) pa_nil)) (pg_name (i := 12) sc_law.nd rfl (Or.inl rfl)) (pss_cons (ps_set (i := 13) sc_law.nd rfl (Or.inl rfl) (pe_op op_mod (pe_op op_add (pe_ix ix_list (pv 1) pe_int (fun _ _ => rfl)) (pe_op op_mulB (pv 12) (pv 11))) (pe_callB call_len_seq (by rfl) T.len_ Boot.«len» (pa_cons (pv 4) pa_nil))))
      (pss_cons (ps_if (pt_not (pt_val (pe_call G_law_alike (hr.mono (by decide)) rfl A_law_alike.m A_law_alike.F.kp A_law_alike.b .nil pass0 (pa_cons (pe_meth (pv 9) T.clN M_take G_take (hr.mono (by decide)) b_take .nil pass0 (pa_cons (pv 13) (pa_cons (pe_callTy call_list_of (by rfl) T.list_ Boot.«list» (pa_cons (pe_ix ix_list (pv 4) (pv 13) (fun _ _ => rfl)) pa_nil)) pa_nil))) (pa_cons (pe_ix ix_list (pe_ix ix_list (pv 6) (pv 13) (fun _ _ => rfl)) pe_int (fun _ _ => rfl)) pa_nil))))) (pss_one (ps_ret pe_bl)) pss_nil)
      (pss_one (ps_expr (pe_bm PySem.F.plainAttrs_list PySem.F.slot_list_append PySem.F.type_list_append mt_append (pv 10) (pa_cons (pe_tup (pa_cons (pv 13) (pa_cons (pe_ix ix_list (pe_ix ix_list (pv 6) (pv 13) (fun _ _ => rfl)) pe_int (fun _ _ => rfl)) pa_nil))) pa_nil)))))))
    case s16 => exact (ps_if (pt_not (pt_val (pe_call G_law_pairs (hr.mono (by decide)) rfl A_law_pairs.m A_law_pairs.F.kp A_law_pairs.b .nil pass0 (pa_cons (pe_fld (pv 9) rfl) (pa_cons (pv 10) pa_nil))))) (pss_one (ps_ret pe_bl)) pss_nil)
    case s17 => exact (ps_comp (i := 14) rfl sc_law.nd rfl (Or.inl rfl) (Nc := ["_law_k", "_law_due", "_law_draws_here"]) (caps2 1 6 2 4 [(".0", .local), ("_law_k", .local), ("_law_draws_here", .cell), ("_law_due", .cell)] rfl rfl rfl (by decide +kernel) (by decide +kernel) rfl rfl (by decide) (by decide +kernel) rfl rfl rfl rfl rfl rfl rfl rfl) (pi_range1 rfl T.range_ (pa_cons (pe_callB call_len_seq (by rfl) T.len_ Boot.«len» (pa_cons (pv 4) pa_nil)) pa_nil)) (fun _ _ _ _ => (pg_name (i := 0) (show List.Nodup (["_law_k", "_law_due", "_law_draws_here"] : List Str) by decide +kernel) rfl (Or.inl rfl))) (fun _ _ _ _ => pts_nil) (fun _ _ _ _ => by exact (pe_ix (ix_tupK (K := K) rfl) (pe_ix (ix_listK (K := K) rfl) (pe_ix (ix_listK (K := K) rfl) (pv 2) (pv 0) (fun _ _ => rfl)) (pe_ix (ix_listK (K := K) rfl) (pe_ix (ix_listK (K := K) rfl) (pv 1) (pv 0) (fun _ _ => rfl)) pe_int (fun _ _ => rfl)) (fun _ _ => rfl)) pe_int (fun _ _ => rfl))))
    case s18 => exact (ps_set (i := 15) sc_law.nd rfl (Or.inl rfl) (pe_ix ix_list (pv 14) (pe_un un_neg pe_int) (fun _ _ => rfl)))
    case s19 => exact (ps_if (pt_cmpR op_eq (pe_ix ix_tup (pe_ix ix_list (pv 2) (pe_un un_neg pe_int) (fun _ _ => rfl)) pe_int (fun _ _ => rfl)) pe_str (nomark _)) (pss_one (ps_set (i := 15) sc_law.nd rfl (Or.inl rfl) (pe_op op_mod (pe_op op_sub (pe_ix ix_list (pv 14) (pe_un un_neg pe_int) (fun _ _ => rfl)) (pe_ix ix_list (pv 14) (pe_un un_neg pe_int) (fun _ _ => rfl))) pe_int))) pss_nil)
    case s20 => exact (ps_set (i := 9) sc_law.nd rfl (Or.inl rfl) (pe_make M_Numbered G_Numbered_init (hr.mono (by decide)) rfl T.Numbered_ b_Numbered_init .nil pass0 (pa_cons (pe_callTy call_list_of (by rfl) T.list_ Boot.«list» (pa_cons (pv 7) pa_nil)) pa_nil)))
    case s21 => exact (ps_if (PW.pt (pw_or (pt_not (pt_val (pe_callB call_isiC (by rfl) T.isinstance_ Boot.«isinstance» (pa_cons (pv 9) (pa_cons (pe_glob rfl T.Hand_ (v := .ref CH) rfl) pa_nil))))) (pw_or1 (pt_not (pt_val (pe_call G_law_alike (hr.mono (by decide)) rfl A_law_alike.m A_law_alike.F.kp A_law_alike.b .nil pass0 (pa_cons (pe_call G_run (hr.mono (by decide)) rfl A_run.m A_run.F.kp A_run.b .nil pass0 (pa_cons (pv 3) (pa_cons (pv 9) pa_nil))) (pa_cons (pv 15) pa_nil)))))))) (pss_one (ps_ret pe_bl)) pss_nil)
    case s22 => exact (ps_ret (pe_call G_law_pairs (hr.mono (by decide)) rfl A_law_pairs.m A_law_pairs.F.kp A_law_pairs.b .nil pass0 (pa_cons (pe_fld (pv 9) rfl) (pa_cons (pe_comp rfl (Nc := ["_law_k", "_law_due"]) (caps1 1 6 [(".0", .local), ("_law_k", .local), ("_law_due", .cell)] rfl rfl rfl (by decide +kernel) (by decide +kernel) rfl (by decide +kernel) rfl rfl rfl rfl) (pi_range1 rfl T.range_ (pa_cons (pe_callB call_len_seq (by rfl) T.len_ Boot.«len» (pa_cons (pv 4) pa_nil)) pa_nil)) (fun _ _ _ _ => (pg_name (i := 0) (show List.Nodup (["_law_k", "_law_due"] : List Str) by decide +kernel) rfl (Or.inl rfl))) (fun _ _ _ _ => pts_nil) (fun _ _ _ _ => by exact (pe_tup (pa_cons (pv 0) (pa_cons (pe_ix (ix_listK (K := K) rfl) (pe_ix (ix_listK (K := K) rfl) (pv 1) (pv 0) (fun _ _ => rfl)) pe_int (fun _ _ => rfl)) pa_nil))))) pa_nil))))
    case zz =>
      refine ⟨_, rfl, 28, rfl, a, _, rfl, hS, fun L hL => ?_⟩
      have lc28 : (cutV (ns.map V.int) none (some 28)).length ≤ 28 := by
        unfold cutV
        rw [HT.sIx_none]
        show (((ns.map V.int).drop 0).take (HT.sIx (ns.map V.int).length (ns.map V.int).length (some ((28 : Nat) : Int)) - 0)).length ≤ 28
        rw [HT.sIx_nat, List.drop_zero, List.length_take]
        omega
      have mc : ∀ x ∈ cutV (ns.map V.int) none (some 28), ∃ n : Int, x = .int n := fun x hx => by
        have := List.mem_of_mem_drop (List.mem_of_mem_take hx)
        obtain ⟨n, _, rfl⟩ := List.mem_map.mp this
        exact ⟨n, rfl⟩
      generalize cutV (ns.map V.int) none (some 28) = xs at lc28 mc
      have S1 := Same.upd (o := .lst xs) hL
      have eL : (upd H L (.lst xs)) L = some (.lst xs) := upd_same
      generalize upd H L (.lst xs) = H1 at S1 eL
      refine ⟨L, rfl, ⟨_, SqL.of eL⟩, fun D hD => ?_⟩
      refine comp_list (K := K) (a := L) (D := D) (xs := xs) (fun i σ ys H' => (∃ o1, σ = [o1]) ∧ Same H1 H' ∧ H' D = some (.lst ys) ∧ ∃ ms : List Int, ys = ms.map V.int ∧ ms.length = i ∧ ∀ m ∈ ms, 0 ≤ m)
        ⟨⟨none, rfl⟩, .upd hD, upd_same, [], rfl, rfl, (fun _ h => nomatch h)⟩ ?_ ?_ ?_
      · rintro i σ ys H' hi ⟨_, S, eD, ms, rfl, lm, _⟩
        exact ⟨SqL.of (S _ _ eL), eD, Nat.lt_of_le_of_lt (m := 1000) (by rw [List.length_map]; omega) (by decide)⟩
      · rintro i x σ ys H' hx ⟨⟨o1, rfl⟩, S, eD, ms, rfl, lm, pm⟩ N hN
        obtain ⟨n, rfl⟩ := mc x (List.mem_of_getElem? hx)
        refine iteT (B := True) ?_
        refine ⟨_, rfl, n, _, rfl, by decide, by decide, fun m m0 m1 => ⟨eD, hN _ _ _ ⟨⟨_, rfl⟩, fun b o eb => ?_, upd_same, ms ++ [m], by rw [List.map_append]; rfl, by rw [List.length_append, lm]; rfl, fun y hy => ?_⟩⟩⟩
        · rw [upd_ne (ne_of_none eb hD)]
          exact S _ _ eb
        · rcases List.mem_append.mp hy with z | z
          · exact pm y z
          · rw [List.mem_singleton.mp z]
            exact m0
      rintro σ ys H2 ⟨_, S2, eD, ms, rfl, lm, pm⟩
      refine ⟨(by show 1 ≤ sizeLine; decide), fun L4 hL4 => ?_⟩
      have S3 := Same.upd (o := .lst [.int 4]) hL4
      have e4 : (upd H2 L4 (.lst [.int 4])) L4 = some (.lst [.int 4]) := upd_same
      generalize upd H2 L4 (.lst [.int 4]) = H3 at S3 e4
      refine ⟨D, L4, _, _, rfl, rfl, S3 _ _ eD, e4, Nat.le_trans (m := 100) (by rw [List.length_map]; show ms.length + 1 ≤ 100; omega) (by decide), fun Cl hCl => ?_⟩
      have ecs : ms.map V.int ++ [V.int 4] = (ms ++ [4]).map V.int := by rw [List.map_append]; rfl
      rw [ecs]
      have lcs : 1 ≤ (ms ++ [4]).length ∧ (ms ++ [4]).length ≤ 29 := by
        rw [List.length_append]
        show 1 ≤ ms.length + 1 ∧ ms.length + 1 ≤ 29
        omega
      generalize ms ++ [4] = cs at lcs
      have S4 := Same.upd (o := .lst (cs.map V.int)) hCl
      have eC : (upd H3 Cl (.lst (cs.map V.int))) Cl = some (.lst (cs.map V.int)) := upd_same
      generalize upd H3 Cl (.lst (cs.map V.int)) = H4 at S4 eC
      clear S1 S2 S3 S4 eL e4 eD hCl hL4 hD hL
      refine ⟨_, rfl, Cl, rfl, ⟨_, SqL.of eC⟩, fun Tl hTl => ?_⟩
      refine comp_list (K := K) (a := Cl) (D := Tl) (xs := cs.map V.int) (fun i σ ys H' => (∃ o1, σ = [o1]) ∧ Same H4 H' ∧ H' Tl = some (.lst ys) ∧ ∃ ts : List Tm, DatsAt K H' ys (ts.map tmD) ∧ ts.length = i ∧ ∀ t ∈ ts, TmOk t)
        ⟨⟨none, rfl⟩, .upd hTl, upd_same, [], .nil, rfl, (fun _ h => nomatch h)⟩ ?_ ?_ ?_
      · rintro i σ ys H' hi ⟨_, S, eT, ts, dt, lt, _⟩
        have := dt.length
        rw [List.length_map] at hi this
        exact ⟨SqL.of (S _ _ eC), eT, Nat.lt_of_le_of_lt (m := 1000) (by omega) (by decide)⟩
      · rintro i x σ ys H' hx ⟨⟨o1, rfl⟩, S, eT, ts, dt, lt, ok⟩ N hN
        obtain ⟨n, hn, rfl⟩ := map_at hx
        refine iteT (B := True) ?_
        refine ⟨_, rfl, n, rfl, fun t okt v H5 S5 dv => ⟨S5 _ _ eT, hN _ _ _ ⟨⟨_, rfl⟩, fun b o eb => ?_, upd_same, ts ++ [t], ?_, by rw [List.length_append, lt]; rfl, fun y hy => ?_⟩⟩⟩
        · rw [upd_ne (ne_of_none eb hTl)]
          exact S5 _ _ (S _ _ eb)
        · rw [List.map_append]
          exact ((dt.same S5).append (.cons dv .nil)).but (.lst (S5 _ _ eT)) .upd
        · rcases List.mem_append.mp hy with z | z
          · exact ok y z
          · rw [List.mem_singleton.mp z]
            exact okt
      rintro σ ys H5 ⟨_, S5, eT, ts, dt, lt, okT⟩
      rw [List.length_map] at lt
      have eC5 := S5 _ _ eC
      have lys := dt.length
      rw [List.length_map] at lys
      clear S5 eC hTl
      refine ⟨_, rfl, Tl, rfl, ⟨_, SqL.of eT⟩, fun R1 hR1 => ?_⟩
      refine comp_list (K := K) (a := Tl) (D := R1) (xs := ys) (fun i σ zs H' => (∃ o1, σ = [o1]) ∧ Same H5 H' ∧ H' R1 = some (.lst zs) ∧ DatsAt K H' zs ((ts.take i).map letD))
        ⟨⟨none, rfl⟩, .upd hR1, upd_same, .nil⟩ ?_ ?_ ?_
      · rintro i σ zs H' hi ⟨_, S, eR, dz⟩
        have := dz.length
        rw [List.length_map, List.length_take] at this
        exact ⟨SqL.of (S _ _ eT), eR, Nat.lt_of_le_of_lt (m := 1000) (by omega) (by decide)⟩
      · rintro i x σ zs H' hx ⟨⟨o1, rfl⟩, S, eR, dz⟩ N hN
        obtain ⟨d, ed, hxd⟩ := (dt.same S).get' hx
        obtain ⟨t, ht, rfl⟩ := map_at ed
        refine iteT (B := True) ?_
        refine ⟨_, rfl, (by show 3 ≤ sizeLine; decide), fun q hq => ?_⟩
        have S6 := Same.upd (o := .tup [.str "let", .str "x", x]) hq
        refine ⟨S6 _ _ eR, hN _ _ _ ⟨⟨_, rfl⟩, fun b o eb => ?_, upd_same, ?_⟩⟩
        · rw [upd_ne (ne_of_none eb hR1)]
          exact S6 _ _ (S _ _ eb)
        · rw [take_one ht, List.map_append]
          exact ((dz.same S6).append (.cons (.tup (SqT.of upd_same) (.cons (.str _) (.cons (.str _) (.cons (hxd.same S6) .nil)))) .nil)).but (.lst (S6 _ _ eR)) .upd
      rintro σ zs H6 ⟨_, S6, eR1, dz⟩
      rw [lys, List.take_of_length_le (Nat.le_refl _)] at dz
      have lz := dz.length
      rw [List.length_map] at lz
      refine ⟨two_le, fun q1 hq1 => ?_⟩
      have S7 := Same.upd (o := .tup [.str "name", .str "x"]) hq1
      have e7 : SqT K (upd H6 q1 (.tup [.str "name", .str "x"])) q1 [.str "name", .str "x"] := SqT.of upd_same
      generalize upd H6 q1 (.tup [.str "name", .str "x"]) = H7 at S7 e7
      refine ⟨two_le, fun q2 hq2 => ?_⟩
      have S8 := Same.upd (o := .tup [.str "ask", .ref q1]) hq2
      have e8 : SqT K (upd H7 q2 (.tup [.str "ask", .ref q1])) q2 [.str "ask", .ref q1] := SqT.of upd_same
      generalize upd H7 q2 (.tup [.str "ask", .ref q1]) = H8 at S8 e8
      refine ⟨(by show 1 ≤ sizeLine; decide), fun R2 hR2 => ?_⟩
      have S9 := Same.upd (o := .lst [.ref q2]) hR2
      have e9 : (upd H8 R2 (.lst [.ref q2])) R2 = some (.lst [.ref q2]) := upd_same
      generalize upd H8 R2 (.lst [.ref q2]) = H9 at S9 e9
      have S69 := S7.trans (S8.trans S9)
      have dask : DatAt K H9 (.ref q2) askD := .tup (S9.tup e8) (.cons (.str _) (.cons (.tup ((S8.trans S9).tup e7) (.cons (.str _) (.cons (.str _) .nil))) .nil))
      refine ⟨R1, R2, _, _, rfl, rfl, S69 _ _ eR1, e9, Nat.le_trans (m := 100) (by show zs.length + 1 ≤ 100; omega) (by decide), fun R3 hR3 => ?_⟩
      have S10 := Same.upd (o := .lst (zs ++ [.ref q2])) hR3
      have lR : LsM K (upd H9 R3 (.lst (zs ++ [.ref q2]))) R3 (rowsD ts) := ⟨_, upd_same, ((dz.same S69).append (.cons dask .nil)).same S10⟩
      generalize upd H9 R3 (.lst (zs ++ [.ref q2])) = H10 at S10 lR
      have S510 := S6.trans (S69.trans S10)
      have eT10 := S510 _ _ eT
      have dt10 := dt.same S510
      have eC10 := S510 _ _ eC5
      have tne : ts ≠ [] := fun z => by rw [z] at lt; simp at lt; omega
      obtain ⟨ex1, ck⟩ := cks ts [] (by simp; omega) (fun z => absurd z tne)
      obtain ⟨ex2, s', c', hc', ors⟩ := orows ts [] 0 0 (by simp; omega) (fun z => absurd z tne)
      have lW := allW_len ts
      have okW := allW_ok ts okT
      refine ⟨R3, rowsD ts, ex1, ex2, allW ts, stepsD ts 0 0, s', c', rfl, lR, ck, ors, by omega, by omega, by rw [steps_len]; omega, fun p sA aA ps H11 S11 hp one eps => ?_⟩
      have eT11 := S11 _ _ eT10
      have dt11 := dt10.same S11
      have eC11 := S11 _ _ eC10
      clear S6 S7 S8 S9 S69 S10 S510 S11 eT eT10 dt dt10 eC5 eC10 e7 e8 e9 dask lR eR1 dz hR1 hR2 hR3 hq1 hq2
      refine ⟨Nat.zero_le _, fun D0 hD0 => ?_⟩
      have S12 := Same.upd (o := .lst []) hD0
      have l0 : LLM K (upd H11 D0 (.lst [])) D0 [] := ⟨upd_same, (fun _ h => nomatch h), (fun _ h => nomatch h)⟩
      generalize upd H11 D0 (.lst []) = H12 at S12 l0
      refine ⟨_, rfl, Tl, rfl, ⟨_, SqL.of (S12 _ _ eT11)⟩, for_list (K := K) (a := Tl) (xs := ys) (fun i σ H' => Same H11 H' ∧ ∃ (Dl : Addr) (qs : List (Addr × List Dt)) (o5 : Option V), LLM K H' Dl qs ∧ qs.map (·.2) = (allW (ts.take i)).map (fun d => d.map pI) ∧ (∀ q ∈ qs, H11 q.1 = none) ∧ σ = [some (.ref a), some (.ref Cl), some (.ref Tl), some (.ref p), some (.ref Dl), o5, none, none, none, none, none, none, none, none, none, none])
        ⟨S12, D0, [], none, l0, rfl, (fun _ h => nomatch h), rfl⟩ (fun i σ H' _ z => SqL.of (z.1 _ _ eT11)) ?_ ?_⟩
      · rintro i x σ H' hx ⟨S, Dl, qs, o5, ll, eq, fq, rfl⟩
        obtain ⟨d, ed, hxd⟩ := (dt11.same S).get' hx
        obtain ⟨t, ht, rfl⟩ := map_at ed
        have ew : allW (ts.take (i + 1)) = allW (ts.take i) ++ tmW t := by
          rw [take_one ht]
          unfold allW
          rw [List.flatMap_append]
          simp
        have lq : qs.length = (allW (ts.take i)).length := by simpa using congrArg List.length eq
        have lw2 := allW_len (ts.take i)
        rw [List.length_take] at lw2
        refine ⟨_, rfl, _, rfl, x, t, rfl, hxd, okT t (List.mem_of_getElem? ht), (fun z => nomatch z), fun b2 q2 H3 S3 hb2 l2 e2 f2 => ?_⟩
        have l2q : q2.length = (tmW t).length := by simpa using congrArg List.length e2
        have lt2 := tmW_len t
        have ll3 := ll.same S3
        refine ⟨Dl, b2, _, _, rfl, rfl, ll3.at_, l2.at_, Nat.le_trans (m := 1000) (by rw [List.length_map, List.length_map]; omega) (by decide), fun c hc => ?_⟩
        refine ⟨S.trans (S3.trans (.upd hc)), c, qs ++ q2, _, LLM.cat ll3 l2 hc, by rw [List.map_append, eq, e2, ew, List.map_append], fun q hq => ?_, rfl⟩
        rcases List.mem_append.mp hq with z | z
        · exact fq q z
        · exact S.free (f2 q z)
      rintro σ H13 ⟨S13, Dl, qs, o5, ll, eqs, fq, rfl⟩
      rw [lys, List.take_of_length_le (Nat.le_refl _)] at eqs
      have one13 := one.same S13
      have eT13 := S13 _ _ eT11
      have dt13 := dt11.same S13
      have eC13 := S13 _ _ eC11
      have lqs : qs.length = (allW ts).length := by simpa using congrArg List.length eqs
      have lps : ps.length = (allW ts).length := by simpa using congrArg List.length eps
      have lW1 : 1 ≤ (allW ts).length := by
        cases ts with
        | nil => exact absurd rfl tne
        | cons t ts =>
          have := tmW_len t
          show 1 ≤ (tmW t ++ allW ts).length
          rw [List.length_append]
          omega
      generalize hdd : allW ts = dd at *
      have rowq : ∀ {H' : Hp} {k : Nat} {d : List (Int × Int)}, Same H13 H' → dd[k]? = some d → ∃ q, qs[k]? = some q ∧ LsM K H' q.1 (d.map pI) := fun {H' k d} S hd => by
        have ei : (qs.map (·.2))[k]? = some (d.map pI) := by rw [eqs, List.getElem?_map, hd]; rfl
        obtain ⟨q, hq, e2⟩ := map_at ei
        refine ⟨q, hq, ?_⟩
        have := (ll.it q (List.mem_of_getElem? hq)).same S
        rw [← e2] at this
        exact this
      clear S12 S13 one eT11 dt11 eC11 l0
      refine ⟨_, rfl, Dl, _, rfl, .inl (SqL.of ll.at_), ((qs.map fun q => V.ref q.1).length : Int), rfl, by omega, by rw [List.length_map]; omega, fun Du hDu => ?_⟩
      have atq : ∀ {k : Nat} {q : Addr × List Dt}, qs[k]? = some q → atI (qs.map fun q => V.ref q.1) (0 + (k : Int)) = some (.ref q.1) := fun {k q} hq => by
        rw [Int.zero_add]
        exact atI_nat (by rw [List.getElem?_map, hq]; rfl)
      refine comp_range (lo := 0) (n := (((qs.map fun q => V.ref q.1).length : Nat) : Int).toNat) (D := Du) (fun i σ zs H' => (∃ o1, σ = [o1, some (.ref Dl), some (.ref Cl)]) ∧ Same H13 H' ∧ H' Du = some (.lst zs) ∧ (∀ v ∈ zs, v ≠ .ref Du) ∧ ∃ nj : List (Int × Nat), DuAt H' zs nj ∧ nj.length = i ∧ NjOk dd nj)
        ⟨⟨none, rfl⟩, .upd hDu, upd_same, (fun _ h => nomatch h), [], ⟨rfl, fun k v q h1 => by simp at h1⟩, rfl, fun k q d h1 => by simp at h1⟩ ?_ ?_ ?_
      · rintro i σ zs H' hi ⟨_, S, eD, _, nj, du, ln, _⟩
        rw [List.length_map] at hi
        have := du.l
        exact ⟨eD, Nat.lt_of_le_of_lt (m := 1000) (by omega) (by decide)⟩
      · rintro i σ zs H' hi ⟨⟨o1, rfl⟩, S, eD, nz, nj, du, ln, ok⟩ N hN
        rw [List.length_map] at hi
        have hi' : i < dd.length := by omega
        obtain ⟨d, hd⟩ := get_ex hi'
        obtain ⟨q, hq, lsq⟩ := rowq S hd
        refine iteT (B := True) ?_
        refine ⟨_, rfl, _, rfl, Dl, _, _, .ref q.1, rfl, rfl, SqL.of (S _ _ ll.at_), atq hq, ?_⟩
        refine ⟨_, rfl, Cl, cs, rfl, SqL.of (S _ _ eC13), _, rfl, _, rfl, _, _, rfl, rfl, small_mul (by omega), _, _, rfl, rfl, _, _, rfl, by decide, by decide, fun m m0 m1 => ?_⟩
        refine ⟨q.1, d, m, rfl, lsq, okW d (List.mem_of_getElem? hd), fun n j a2 H5 ab S5 ha2 ea2 => ⟨S5 _ _ eD, hN _ _ _ ⟨⟨_, rfl⟩, fun b o eb => ?_, upd_same, fun v hv => ?_, nj ++ [(n, j)], ⟨?_, fun k v q2 h1 h2 => ?_⟩, by rw [List.length_append, ln]; rfl, fun k q2 d2 h1 h2 => ?_⟩⟩⟩
        · rw [upd_ne (ne_of_none eb hDu)]
          exact S5 _ _ (S _ _ eb)
        · rcases List.mem_append.mp hv with z | z
          · exact nz v z
          · rw [List.mem_singleton.mp z]
            intro z2
            cases z2
            rw [eD] at ha2
            cases ha2
        · rw [List.length_append, List.length_append, du.l]
          rfl
        · have dl := du.l
          by_cases hk : k < zs.length
          · rw [List.getElem?_append_left hk] at h1
            rw [List.getElem?_append_left (by omega)] at h2
            obtain ⟨a3, rfl, e3⟩ := du.it k v q2 h1 h2
            have n3 : a3 ≠ Du := fun z => nz _ (List.mem_of_getElem? h1) (by rw [z])
            exact ⟨a3, rfl, by rw [upd_ne n3]; exact S5 _ _ e3⟩
          · rw [List.getElem?_append_right (by omega)] at h1
            rw [List.getElem?_append_right (by omega)] at h2
            have hz : k - zs.length = 0 := by
              have := (List.getElem?_eq_some_iff.mp h1).1
              simp at this
              omega
            rw [hz] at h1
            rw [show k - nj.length = 0 by omega] at h2
            cases h1
            cases h2
            have n3 : a2 ≠ Du := fun z => by
              rw [z, eD] at ha2
              cases ha2
            exact ⟨a2, rfl, by rw [upd_ne n3]; exact ea2⟩
        · by_cases hk : k < nj.length
          · rw [List.getElem?_append_left hk] at h1
            exact ok k q2 d2 h1 h2
          · rw [List.getElem?_append_right (by omega)] at h1
            have hz : k - nj.length = 0 := by
              have := (List.getElem?_eq_some_iff.mp h1).1
              simp at this
              omega
            rw [hz] at h1
            cases h1
            rw [show k = i by omega, hd] at h2
            cases h2
            exact ab
      rintro σ zs H14 ⟨_, S14, eDu, _, nj, du, ln, njok⟩
      have lnj : nj.length = dd.length := by
        rw [List.length_map] at ln
        omega
      have lzs := du.l
      refine ⟨_, rfl, Du, rfl, ⟨_, SqL.of eDu⟩, fun Nl hNl => ?_⟩
      refine comp_list (K := K) (a := Du) (D := Nl) (xs := zs) (fun i σ us H' => (∃ o1, σ = [o1]) ∧ Same H14 H' ∧ H' Nl = some (.lst us) ∧ us = ((nj.take i).map (·.1)).map V.int)
        ⟨⟨none, rfl⟩, .upd hNl, upd_same, rfl⟩ ?_ ?_ ?_
      · rintro i σ us H' hi ⟨_, S, eN, rfl⟩
        exact ⟨SqL.of (S _ _ eDu), eN, Nat.lt_of_le_of_lt (m := 1000) (by rw [List.length_map, List.length_map, List.length_take]; omega) (by decide)⟩
      · rintro i x σ us H' hx ⟨⟨o1, rfl⟩, S, eN, rfl⟩ N hN
        have hi := (List.getElem?_eq_some_iff.mp hx).1
        obtain ⟨q, hq⟩ := get_ex (l := nj) (i := i) (by omega)
        obtain ⟨a3, rfl, e3⟩ := (du.same S).it i x q hx hq
        refine iteT (B := True) ?_
        refine ⟨_, rfl, a3, _, 0, .int q.1, rfl, rfl, SqL.of e3, rfl, eN, hN _ _ _ ⟨⟨_, rfl⟩, fun b o eb => ?_, upd_same, ?_⟩⟩
        · rw [upd_ne (ne_of_none eb hNl)]
          exact S _ _ eb
        · rw [take_one hq, List.map_append, List.map_append]
          rfl
      rintro σ us H15 ⟨_, S15, eNl, rfl⟩
      rw [lzs, List.take_of_length_le (Nat.le_refl _)] at eNl
      have S1315 := S14.trans S15
      have one15 := one13.same S1315
      have eT15 := S1315 _ _ eT13
      have dt15 := dt13.same S1315
      have eC15 := S1315 _ _ eC13
      have ll15 := ll.same S1315
      have eDu15 := S15 _ _ eDu
      have du15 := du.same S15
      have rowq15 : ∀ {H' : Hp} {k : Nat} {d : List (Int × Int)}, Same H15 H' → dd[k]? = some d → ∃ q, qs[k]? = some q ∧ LsM K H' q.1 (d.map pI) := fun {H' k d} S hd => rowq (S1315.trans S) hd
      clear S14 S15 one13 eT13 dt13 eC13 eDu du hDu hNl
      generalize hnums : nj.map (·.1) = nums at eNl
      have small : ∀ d ∈ dd, d.length ≤ 1000 := fun d hd => by
        have := (okW d hd).hi
        omega
      refine ⟨_, rfl, p, sA, aA, s', _, ps, dd, rfl, one15, eps, by omega, small, fun B1 H16 S16 hB1 eB1 => ?_⟩
      refine ⟨_, rfl, Dl, rfl, ⟨_, SqL.of (S16 _ _ ll15.at_)⟩, fun B2 hB2 => ?_⟩
      refine comp_list (K := K) (a := Dl) (D := B2) (xs := qs.map fun q => V.ref q.1) (fun i σ us H' => (∃ o1, σ = [o1]) ∧ Same H16 H' ∧ H' B2 = some (.lst us) ∧ us = ((dd.take i).map fun d => (d.map (·.2)).sum).map V.int)
        ⟨⟨none, rfl⟩, .upd hB2, upd_same, rfl⟩ ?_ ?_ ?_
      · rintro i σ us H' hi ⟨_, S, eB, rfl⟩
        exact ⟨SqL.of (S _ _ (S16 _ _ ll15.at_)), eB, Nat.lt_of_le_of_lt (m := 1000) (by rw [List.length_map, List.length_map, List.length_take]; omega) (by decide)⟩
      · rintro i x σ us H' hx ⟨⟨o1, rfl⟩, S, eB, rfl⟩ N hN
        obtain ⟨q, hq, rfl⟩ := map_at hx
        have hi := (List.getElem?_eq_some_iff.mp hq).1
        obtain ⟨d, hd⟩ := get_ex (l := dd) (i := i) (by omega)
        obtain ⟨q', hq', lsq⟩ := rowq15 (S16.trans S) hd
        rw [hq] at hq'
        cases hq'
        obtain ⟨ws, ew, dw⟩ := lsq
        have lw := dw.length
        rw [List.length_map] at lw
        have sd := small d (List.mem_of_getElem? hd)
        refine iteT (B := True) ?_
        refine ⟨_, rfl, q.1, rfl, ⟨_, SqL.of ew⟩, fun I hI => ?_⟩
        refine comp_list (K := K) (a := q.1) (D := I) (xs := ws) (fun i σ us H'' => (∃ o1 o2, σ = [o1, o2]) ∧ Same H' H'' ∧ H'' I = some (.lst us) ∧ us = ((d.take i).map (·.2)).map V.int)
          ⟨⟨none, none, rfl⟩, .upd hI, upd_same, rfl⟩ ?_ ?_ ?_
        · rintro i2 σ us H'' hi2 ⟨_, S2, eI, rfl⟩
          exact ⟨SqL.of (S2 _ _ ew), eI, Nat.lt_of_le_of_lt (m := 1000) (by rw [List.length_map, List.length_map, List.length_take]; omega) (by decide)⟩
        · rintro i2 x2 σ us H'' hx2 ⟨⟨o1, o2, rfl⟩, S2, eI, rfl⟩ N2 hN2
          obtain ⟨e, ee, hxe⟩ := (dw.same S2).get' hx2
          obtain ⟨pr, hpr, rfl⟩ := map_at ee
          obtain ⟨r, vs, rfl, sv, dv⟩ := hxe.un
          obtain ⟨v0, v1, rfl, h0, h1⟩ := dv.two
          rw [h0.int_eq, h1.int_eq] at sv
          refine ⟨r, _, rfl, sv, rfl, _, _, rfl, _, _, rfl, rfl, iteT (B := True) ?_⟩
          refine ⟨_, rfl, eI, hN2 _ _ _ ⟨⟨_, _, rfl⟩, fun b o eb => ?_, upd_same, ?_⟩⟩
          · rw [upd_ne (ne_of_none eb hI)]
            exact S2 _ _ eb
          · rw [take_one hpr, List.map_append, List.map_append]
            rfl
        · rintro σ us H'' ⟨_, S2, eI, rfl⟩
          rw [lw, List.take_of_length_le (Nat.le_refl _)] at eI
          refine ⟨I, _, rfl, SqL.of eI, S2 _ _ eB, hN _ _ _ ⟨⟨_, rfl⟩, fun b o eb => ?_, upd_same, ?_⟩⟩
          · rw [upd_ne (ne_of_none eb hB2)]
            exact S2 _ _ (S _ _ eb)
          · rw [take_one hd, List.map_append, List.map_append]
            rfl
      rintro σ us H17 ⟨_, S17, eB2, rfl⟩
      rw [List.length_map, lqs, List.take_of_length_le (Nat.le_refl _)] at eB2
      refine ⟨B1, B2, _, rfl, S17 _ _ eB1, eB2, by rw [List.length_map]; omega, _, rfl, iteF ?_⟩
      have S1517 := S16.trans S17
      refine ⟨_, rfl, p, sA, aA, s', _, ps, dd, rfl, one15.same S1517, eps, by omega, small, fun B3 H18 S18 hB3 eB3 => ?_⟩
      refine ⟨.inl ⟨rfl, _, SqL.of eB3⟩, B3, _, _, rfl, rfl, eB3, Nat.lt_of_le_of_lt (m := 1000) (by rw [List.length_map, List.length_map]; omega) (by decide), ?_⟩
      have S19 : Same H15 (upd H18 B3 (.lst ((dd.map fun d => (d.map (·.2)).sum).map V.int ++ [.int 7]))) := fun b o eb => by
        rw [upd_ne (ne_of_none (S1517 _ _ eb) hB3)]
        exact S18 _ _ (S1517 _ _ eb)
      generalize upd H18 B3 (.lst ((dd.map fun d => (d.map (·.2)).sum).map V.int ++ [.int 7])) = H19 at S19
      refine ⟨_, rfl, p, sA, aA, s', _, ps, dd, rfl, one15.same S19, eps, by omega, small, fun B4 H20 S20 hB4 eB4 => ?_⟩
      refine ⟨B4, _, rfl, .inl (SqL.of eB4), _, rfl, Dl, _, rfl, .inl (SqL.of (S20 _ _ (S19 _ _ ll15.at_))), rfl, _, rfl, iteBB (fun hc => absurd hc (by simp [lqs])) (fun _ => ?_)⟩
      have S1520 := S19.trans S20
      clear S16 S17 S18 S19 S20 S1517
      have eNl20 := S1520 _ _ eNl
      refine ⟨_, rfl, Nl, _, rfl, .inl (SqL.of eNl20), fun Hl hHl => ?_⟩
      have S21 := Same.upd (o := .lst (nums.map V.int)) hHl
      have eH21 : (upd H20 Hl (.lst (nums.map V.int))) Hl = some (.lst (nums.map V.int)) := upd_same
      generalize upd H20 Hl (.lst (nums.map V.int)) = H21 at S21 eH21
      refine ⟨_, rfl, fun hn dx hhn hdx nd => ?_⟩
      have S22 : Same H21 (upd (upd H21 dx (.own hn)) hn (.ins CN dx [])) := (Same.upd hdx).updR (by rw [upd_ne nd.symm]; exact hhn)
      refine ⟨hn, dx, Hl, _, rfl, upd_same, S22 _ _ eH21, fun tk ch H22 B22 htk hch nct ehn etk ech => ⟨rfl, ?_⟩⟩
      have S22' : Same H21 H22 := fun b o eb => B22 b o (ne_of_none eb hhn) (S22 b o eb)
      have eH22 := S22' _ _ eH21
      have nHt : tk ≠ Hl := fun z => by rw [z, S22 _ _ eH21] at htk; cases htk
      have nHc : ch ≠ Hl := fun z => by rw [z, S22 _ _ eH21] at hch; cases hch
      have nHh : hn ≠ Hl := fun z => by rw [z, eH21] at hhn; cases hhn
      have ft20 : H20 tk = none := S21.free (S22.free htk)
      refine ⟨_, rfl, .inl ⟨rfl, _, SqL.of eH22⟩, Hl, _, rfl, rfl, eH22, ?_⟩
      have S23 : Same H20 (upd H22 Hl (.lst [])) := fun b o eb => by
        rw [upd_ne (ne_of_none eb hHl)]
        exact S22' _ _ (S21 _ _ eb)
      have nm23 : NmAt (upd H22 Hl (.lst [])) CN hn dx tk ch nums := ⟨by rw [upd_ne nHh]; exact ehn, by rw [upd_ne nHc]; exact ech, nct⟩
      have et23 : (upd H22 Hl (.lst [])) tk = some (.lst []) := by rw [upd_ne nHt]; exact etk
      generalize upd H22 Hl (.lst []) = H23 at S23 nm23 et23
      clear S21 S22 S22' eH21 eH22 B22 ehn etk ech hch nHc nHh nHt
      refine ⟨Nat.zero_le _, fun As hAs => ?_⟩
      have S24 := Same.upd (o := .lst []) hAs
      have eA24 : (upd H23 As (.lst [])) As = some (.lst []) := upd_same
      have nAt : As ≠ tk := (ne_of_none et23 hAs).symm
      have fA20 : H20 As = none := S23.free hAs
      have nm24 := nm23.same S24
      have et24 := S24 _ _ et23
      have S2024 := S23.trans S24
      generalize upd H23 As (.lst []) = H24 at S24 eA24 nm24 et24 S2024
      have nAh : As ≠ hn := fun z => by
        have := nm24.ins
        rw [← z, eA24] at this
        cases this
      have nAc : ch ≠ As := fun z => by
        have := nm23.nu
        rw [z, hAs] at this
        cases this
      refine ⟨_, rfl, Cl, cs, rfl, SqL.of (S2024 _ _ (S1520 _ _ eC15)), _, _, rfl, by decide, by decide, fun m m0 m1 => ⟨_, _, rfl, rfl, (by show (0 : Int) < 3; decide), _, _, rfl, rfl, ?_⟩⟩
      dsimp only
      have st0 := Int.emod_nonneg m (show (3 : Int) ≠ 0 by decide)
      have st1 := Int.emod_lt_of_pos m (show (0 : Int) < 3 by decide)
      generalize hst : 1 + m % 3 = stp
      have eC20 := S1520 _ _ eC15
      have ll20 := ll15.same S1520
      have eDu20 := S1520 _ _ eDu15
      have du20 := du15.same S1520
      have one20 := one15.same S1520
      have eT20 := S1520 _ _ eT15
      have dt20 := dt15.same S1520
      have rowq20 : ∀ {H' : Hp} {k : Nat} {d : List (Int × Int)}, Same H20 H' → dd[k]? = some d → ∃ q, qs[k]? = some q ∧ LsM K H' q.1 (d.map pI) := fun {H' k d} S hd => rowq15 (S1520.trans S) hd
      have atd : ∀ {H' : Hp} {k : Nat} {q : Int × Nat}, Same H20 H' → nj[k]? = some q → ∃ a3, atI zs (k : Int) = some (.ref a3) ∧ H' a3 = some (.lst [.int q.1, nI q.2]) := fun {H' k q} S hq => by
        have hk := (List.getElem?_eq_some_iff.mp hq).1
        obtain ⟨v, hv⟩ := get_ex (l := zs) (i := k) (by omega)
        obtain ⟨a3, rfl, e3⟩ := (du20.same S).it k v q hv hq
        exact ⟨a3, atI_nat hv, e3⟩
      have at_ : ∀ {k : Nat} {q : Int × Nat} {d : List (Int × Int)}, nj[k]? = some q → dd[k]? = some d → At nums k d q.1 q.2 := fun {k q d} hq hd => by
        have ok := okW d (List.mem_of_getElem? hd)
        refine ⟨by rw [← hnums, List.getElem?_map, hq]; rfl, small d (List.mem_of_getElem? hd), fun x hx => ?_, njok k q d hq hd⟩
        obtain ⟨pr, hpr, rfl⟩ := List.mem_map.mp hx
        have := ok.w pr hpr
        omega
      clear rowq rowq15 one15 eC15 ll15 eDu15 du15 eT15 dt15 S23 S24 nm23 et23
      obtain ⟨c0, hc0⟩ := get_ex (l := cs) (i := 0) (by omega)
      refine ⟨_, rfl, Dl, _, rfl, .inl (SqL.of (S2024 _ _ ll20.at_)), _, _, rfl, rfl, small_mul (by rw [List.length_map]; omega), 2 * ((qs.map fun q => V.ref q.1).length : Int), rfl, by omega, by rw [List.length_map]; omega, for_range (lo := 0) (n := (2 * (((qs.map fun q => V.ref q.1).length : Nat) : Int)).toNat) (fun j σ H' => Same H20 H' ∧ NmAt H' CN hn dx tk ch nums ∧ ∃ (rs : List (Int × Int)) (o12 o13 : Option V), LsM K H' tk (rs.map pI) ∧ LsM K H' As (rs.map pI) ∧ rs.length = j ∧ σ = [some (.ref a), some (.ref Cl), some (.ref Tl), some (.ref p), some (.ref Dl), o5, some (.ref Du), some (.ref Nl), some (.ref Hl), some (.ref hn), some (.ref As), some (.int stp), o12, o13, none, none])
        ⟨S2024, nm24, [], none, none, ⟨[], et24, .nil⟩, ⟨[], eA24, .nil⟩, rfl, rfl⟩ ?_ ?_⟩
      · rintro j σ H' hj ⟨S, nm, rs, o12, o13, lsT, lsA, lr, rfl⟩
        rw [List.length_map] at hj
        refine ⟨_, rfl, Cl, _, 0, .int c0, rfl, rfl, SqL.of (S _ _ eC20), atI_nat (j := 0) (by rw [List.getElem?_map, hc0]; rfl), _, rfl, _, rfl, _, _, rfl, rfl, small_mul (by omega), _, _, rfl, rfl, _, rfl, Dl, _, rfl, .inl (SqL.of (S _ _ ll20.at_)), _, _, rfl, rfl, (by show (0 : Int) < ((qs.map fun q => V.ref q.1).length : Nat); rw [List.length_map]; omega), ?_⟩
        dsimp only
        rw [List.length_map]
        have z0 := Int.emod_nonneg (c0 + (0 + (j : Int)) * stp) (show ((qs.length : Nat) : Int) ≠ 0 by omega)
        have z1 := Int.emod_lt_of_pos (c0 + (0 + (j : Int)) * stp) (show (0 : Int) < ((qs.length : Nat) : Int) by omega)
        obtain ⟨si, esi, hsi⟩ : ∃ si : Nat, (c0 + (0 + (j : Int)) * stp) % ((qs.length : Nat) : Int) = (si : Int) ∧ si < qs.length := ⟨((c0 + (0 + (j : Int)) * stp) % ((qs.length : Nat) : Int)).toNat, by omega, by omega⟩
        rw [esi]
        obtain ⟨d, hd⟩ := get_ex (l := dd) (i := si) (by omega)
        obtain ⟨q, hq⟩ := get_ex (l := nj) (i := si) (by omega)
        obtain ⟨qq, hqq, lsq⟩ := rowq20 S hd
        have ata : atI (qs.map fun q => V.ref q.1) (si : Int) = some (.ref qq.1) := by
          have := atq hqq
          rwa [Int.zero_add] at this
        obtain ⟨ws, ew, dw⟩ := id lsq
        obtain ⟨ut, et, dut⟩ := id lsT
        refine ⟨_, rfl, hn, dx, _, rfl, nm.ins, rfl, _, rfl, _, rfl, _, rfl, Dl, _, _, .ref qq.1, rfl, rfl, SqL.of (S _ _ ll20.at_), ata, qq.1, ws, rfl, .inl (SqL.of ew), fun Ld hLd => ?_⟩
        have S3 := Same.upd (o := .lst ws) hLd
        have lsd : LsM K (upd H' Ld (.lst ws)) Ld (d.map pI) := ⟨ws, upd_same, dw.same S3⟩
        generalize upd H' Ld (.lst ws) = H3 at S3 lsd
        refine ⟨hn, dx, tk, ch, Ld, nums, si, q.2, d, q.1, rs.map pI, rfl, nm.same S3, lsd, at_ hq hd, lsT.same S3, by rw [List.length_map]; omega, fun H4 B4 ls4 => ?_⟩
        have S4 : Same H20 H4 := fun b o eb => B4 _ _ (ne_of_none eb ft20) (S3 _ _ (S _ _ eb))
        have nm4 := (nm.same S3).own (S3 _ _ et) B4
        have lsA4 : LsM K H4 As (rs.map pI) := (lsA.same S3).but (.lst (S3 _ _ et)) B4 nAt
        obtain ⟨a3, ea3, e3⟩ := atd S4 hq
        refine ⟨_, rfl, _, rfl, Du, _, _, .ref a3, rfl, rfl, SqL.of (S4 _ _ eDu20), ea3, a3, _, 1, nI q.2, rfl, rfl, SqL.of e3, rfl, (q.2 : Int), rfl, _, rfl, iteF ?_⟩
        obtain ⟨ua, eA, dua⟩ := id lsA4
        have la := dua.length
        rw [List.length_map] at la
        refine ⟨_, rfl, .inl ⟨rfl, _, SqL.of eA⟩, _, rfl, _, rfl, _, rfl, Du, _, _, .ref a3, rfl, rfl, SqL.of (S4 _ _ eDu20), ea3, a3, _, 1, nI q.2, rfl, rfl, SqL.of e3, rfl, two_le, fun t ht => ?_⟩
        have S5 := Same.upd (o := .tup [nI si, nI q.2]) ht
        have e5 : DatAt K (upd H4 t (.tup [nI si, nI q.2])) (.ref t) (pI ((si : Int), (q.2 : Int))) := .tup (SqT.of upd_same) (.cons (.int _) (.cons (.int _) .nil))
        generalize upd H4 t (.tup [nI si, nI q.2]) = H5 at S5 e5
        have eA5 := S5 _ _ eA
        have B6 : BtA As H5 (upd H5 As (.lst (ua ++ [.ref t]))) := .upd
        refine ⟨As, ua, _, rfl, rfl, eA5, Nat.lt_of_le_of_lt (m := 1000) (by omega) (by decide), fun b o eb => B6 _ _ (ne_of_none eb fA20) (S5 _ _ (S4 _ _ eb)), ⟨B6 _ _ nAh.symm (S5 _ _ nm4.ins), B6 _ _ nAc (S5 _ _ nm4.nu), nct⟩, rs ++ [((si : Int), (q.2 : Int))], _, _, ?_, ?_, by rw [List.length_append, lr]; rfl, rfl⟩
        · rw [List.map_append]
          exact (ls4.same S5).but (.lst eA5) B6 nAt.symm
        · rw [List.map_append]
          exact LsM.snoc eA5 (dua.same S5) e5
      rintro σ H25 ⟨S25, nm, rs, o12, o13, lsT, lsA, lr, rfl⟩
      rw [List.length_map] at lr
      refine ⟨_, rfl, hn, CN, dx, _, .ref tk, rfl, nm.ins, T.clN, T.nT, rfl, _, rfl, tk, As, rs, rfl, lsT, lsA, by omega, fun H26 S26 => ⟨_, rfl, iteF ?_⟩⟩
      have S2026 := S25.trans S26
      clear S25 S26 nm lsT lsA lr rs S2024 nm24 et24 eA24 nAt nAh nAc fA20 ft20 hhn hdx nd htk nct hHl hAs
      have eDu26 := S2026 _ _ eDu20
      have ll26 := ll20.same S2026
      refine ⟨_, rfl, Dl, _, rfl, .inl (SqL.of ll26.at_), ((qs.map fun q => V.ref q.1).length : Int), rfl, by omega, by rw [List.length_map]; omega, fun Vl hVl => ?_⟩
      obtain ⟨js, ejs⟩ : ∃ js : Nat → Nat, ∀ k, js k = ((nj[k]?).map (·.2)).getD 0 := ⟨_, fun _ => rfl⟩
      have js_ : ∀ {k : Nat} {q : Int × Nat}, nj[k]? = some q → js k = q.2 := fun {k q} hq => by rw [ejs, hq]; rfl
      have vk_ : ∀ {k : Nat} {q : Int × Nat} {d : List (Int × Int)} {pr : Int × Int}, nj[k]? = some q → dd[k]? = some d → d[q.2]? = some pr → vk dd js k = pr.1 := fun {k q d pr} hq hd hp => by
        unfold vk
        rw [hd]
        show (match d[js k]? with | some p => p.1 | none => 0) = pr.1
        rw [js_ hq, hp]
      have al : AtAll dd nums js := fun k d hd => by
        have hk := (List.getElem?_eq_some_iff.mp hd).1
        obtain ⟨q, hq⟩ := get_ex (l := nj) (i := k) (by omega)
        exact ⟨q.1, by rw [js_ hq]; exact at_ hq hd⟩
      refine comp_range (lo := 0) (n := (((qs.map fun q => V.ref q.1).length : Nat) : Int).toNat) (D := Vl) (fun i σ us H' => (∃ o1, σ = [o1, some (.ref Du), some (.ref Dl)]) ∧ Same H26 H' ∧ H' Vl = some (.lst us) ∧ us = (List.range i).map fun k => V.int (vk dd js k))
        ⟨⟨none, rfl⟩, .upd hVl, upd_same, rfl⟩ ?_ ?_ ?_
      · rintro i σ us H' hi ⟨_, S, eV, rfl⟩
        rw [List.length_map] at hi
        exact ⟨eV, Nat.lt_of_le_of_lt (m := 1000) (by rw [List.length_map, List.length_range]; omega) (by decide)⟩
      · rintro i σ us H' hi ⟨⟨o1, rfl⟩, S, eV, rfl⟩ N hN
        rw [List.length_map] at hi
        obtain ⟨d, hd⟩ := get_ex (l := dd) (i := i) (by omega)
        obtain ⟨q, hq⟩ := get_ex (l := nj) (i := i) (by omega)
        obtain ⟨qq, hqq, lsq⟩ := rowq20 (S2026.trans S) hd
        obtain ⟨a3, ea3, e3⟩ := atd (S2026.trans S) hq
        have hj := (at_ hq hd).abv.lt
        rw [List.length_map] at hj
        obtain ⟨pr, hpr⟩ := get_ex hj
        obtain ⟨ws, ew, dw⟩ := lsq
        obtain ⟨x, ex, hx⟩ := dw.get (i := q.2) (d := pI pr) (by rw [List.getElem?_map, hpr]; rfl)
        obtain ⟨r, vs, rfl, sv, dv⟩ := hx.un
        obtain ⟨v0, v1, rfl, h0, h1⟩ := dv.two
        rw [h0.int_eq, h1.int_eq] at sv
        refine iteT (B := True) ?_
        refine ⟨_, rfl, _, rfl, Dl, _, _, .ref qq.1, rfl, rfl, SqL.of (S _ _ ll26.at_), atq hqq, ?_⟩
        refine ⟨_, rfl, _, rfl, Du, _, _, .ref a3, rfl, rfl, SqL.of (S _ _ eDu26), (by rw [Int.zero_add]; exact ea3), a3, _, 1, nI q.2, rfl, rfl, SqL.of e3, rfl, ?_⟩
        refine ⟨qq.1, ws, _, .ref r, rfl, rfl, SqL.of ew, atI_nat ex, r, _, 0, .int pr.1, rfl, rfl, sv, rfl, eV, hN _ _ _ ⟨⟨_, rfl⟩, fun b o eb => ?_, upd_same, ?_⟩⟩
        · rw [upd_ne (ne_of_none eb hVl)]
          exact S _ _ eb
        · rw [List.range_succ, List.map_append, ← vk_ hq hd hpr]
          rfl
      rintro σ us H27 ⟨_, S27, eV, rfl⟩
      rw [List.length_map, Int.toNat_natCast, lqs] at eV
      have S2027 := S2026.trans S27
      obtain ⟨ts0, tl, hts⟩ : ∃ ts0 t, ts = ts0 ++ [t] := ⟨_, _, (List.dropLast_concat_getLast tne).symm⟩
      have elen : dd.length = (allW ts0).length + (tmW tl).length := by
        rw [← hdd, hts]
        show ((ts0 ++ [tl]).flatMap tmW).length = _
        rw [List.flatMap_append, List.length_append]
        simp [allW]
      have elast : lastV dd js ts 0 0 = tv dd js (allW ts0).length tl := by rw [hts, last_snoc, Nat.zero_add]
      obtain ⟨ys0, yv, ds0, dl, eys, eds, _, dyv⟩ := DatsAt.last (dt20.same S2027) (fun z => by rw [z] at lys; simp at lys; exact tne (List.length_eq_zero_iff.mp lys.symm))
      have edl : dl = tmD tl := by
        rw [hts, List.map_append] at eds
        have := List.append_inj_right' eds rfl
        simpa using this.symm
      rw [edl] at dyv
      have eTl : H27 Tl = some (.lst (ys0 ++ [yv])) := by rw [← eys]; exact S2027 _ _ eT20
      obtain ⟨n1, en1⟩ : ∃ n1, dd.length = n1 + 1 := ⟨dd.length - 1, by omega⟩
      rw [en1, List.range_succ, List.map_append] at eV
      refine ⟨_, rfl, _, rfl, Vl, _, _, .int (vk dd js n1), rfl, rfl, SqL.of eV, atI_m1, ?_⟩
      obtain ⟨r, kd, vr, rfl, sv, hkd⟩ : ∃ (r : Addr) (kd : Str) (vr : List V), yv = .ref r ∧ SqT K H27 r (.str kd :: vr) ∧ ((kd = "op" ∧ (tmW tl).length = 2 ∧ ∀ k, tv dd js k tl = (vk dd js k - vk dd js (k + 1)) % 1000000000000) ∨ (kd ≠ "op" ∧ (tmW tl).length = 1 ∧ ∀ k, tv dd js k tl = vk dd js k)) := by
        cases tl with
        | flip x y =>
          obtain ⟨r, vs, rfl, sv, dv⟩ := DatAt.un (ds := [.str "flip", .int x, .int y]) dyv
          obtain ⟨v0, rs, rfl, h0, dv⟩ := dv.un
          rw [h0.str_eq] at sv
          exact ⟨r, _, _, rfl, sv, .inr ⟨by decide +kernel, rfl, fun _ => rfl⟩⟩
        | pick x =>
          obtain ⟨r, vs, rfl, sv, dv⟩ := DatAt.un (ds := [.str "pick", .tup (x.map pI)]) dyv
          obtain ⟨v0, rs, rfl, h0, dv⟩ := dv.un
          rw [h0.str_eq] at sv
          exact ⟨r, _, _, rfl, sv, .inr ⟨by decide +kernel, rfl, fun _ => rfl⟩⟩
        | sub x y =>
          obtain ⟨r, vs, rfl, sv, dv⟩ := DatAt.un (ds := [.str "op", .str "-", pkD x, pkD y]) dyv
          obtain ⟨v0, rs, rfl, h0, dv⟩ := dv.un
          rw [h0.str_eq] at sv
          exact ⟨r, _, _, rfl, sv, .inl ⟨rfl, rfl, fun _ => rfl⟩⟩
      refine' restS (C := fun σ H' => H' = H27 ∧ σ = [some (.ref a), some (.ref Cl), some (.ref Tl), some (.ref p), some (.ref Dl), o5, some (.ref Du), some (.ref Nl), some (.ref Hl), some (.ref hn), some (.ref As), some (.int stp), o12, o13, some (.ref Vl), some (.int (lastV dd js ts 0 0))]) (fun rest => ⟨_, rfl, _, rfl, Tl, _, _, .ref r, rfl, rfl, SqL.of eTl, atI_m1, r, _, 0, .str kd, rfl, rfl, sv, (atI_nat (xs := .str kd :: vr) (j := 0) rfl), rfl, _, rfl, iteBB (fun hc => ?_) (fun hc => rest _ _ ⟨rfl, ?_⟩)⟩) ?_
      · have hc := of_decide_eq_true hc
        rcases hkd with ⟨_, l2, ev⟩ | ⟨n, _, _⟩
        · obtain ⟨n2, en2⟩ : ∃ n2, n1 = n2 + 1 := ⟨n1 - 1, by omega⟩
          rw [en2, List.range_succ, List.map_append] at eV
          refine ⟨_, rfl, _, rfl, Vl, _, _, .int (vk dd js n2), rfl, rfl, SqL.of eV, atI_m2, ?_⟩
          refine ⟨_, rfl, _, rfl, Vl, _, _, .int (vk dd js (n2 + 1)), rfl, rfl, SqL.of eV, atI_m1, _, _, rfl, rfl, _, _, rfl, rfl, (by show (0 : Int) < 1000000000000; decide), rest _ _ ⟨rfl, ?_⟩⟩
          rw [elast, ev, show (allW ts0).length = n2 by omega]
          rfl
        · exact absurd (by injection hc) n
      · have hc := of_decide_eq_false hc
        rcases hkd with ⟨e, _, _⟩ | ⟨_, l1, ev⟩
        · exact absurd (by rw [e]) hc
        · rw [elast, ev, show (allW ts0).length = n1 by omega]
          rfl
      rintro σ HH ⟨rfl, rfl⟩
      clear eV eTl dyv eds eys
      refine ⟨_, rfl, Nl, _, rfl, .inl (SqL.of (S2027 _ _ eNl20)), fun Jl hJl => ?_⟩
      have S28 := Same.upd (o := .lst (nums.map V.int)) hJl
      have eJ28 : (upd HH Jl (.lst (nums.map V.int))) Jl = some (.lst (nums.map V.int)) := upd_same
      generalize upd HH Jl (.lst (nums.map V.int)) = H28 at S28 eJ28
      intro h2 dx2 hh2 hdx2 nd2
      have S29 : Same H28 (upd (upd H28 dx2 (.own h2)) h2 (.ins CN dx2 [])) := (Same.upd hdx2).updR (by rw [upd_ne nd2.symm]; exact hh2)
      refine ⟨h2, dx2, Jl, _, rfl, upd_same, S29 _ _ eJ28, fun tk2 ch2 H29 B29 htk2 hch2 nct2 ehn2 etk2 ech2 => ⟨rfl, ?_⟩⟩
      have S29' : Same H28 H29 := fun b o eb => B29 b o (ne_of_none eb hh2) (S29 b o eb)
      have ft : H20 tk2 = none := S2027.free (S28.free (S29.free htk2))
      have S2029 := S2027.trans (S28.trans S29')
      refine ⟨_, rfl, .ref h2, CH, .ref CN, true, rfl, .ins ehn2 T.clN I5.a I5.b I5.c I5.d, I5.e, _, rfl, iteF ?_⟩
      have one29 := one20.same S2029
      have nm29 : NmAt H29 CN h2 dx2 tk2 ch2 nums := ⟨ehn2, ech2, nct2⟩
      have gv : Gv K CN H29 aA h2 dx2 tk2 ch2 nums dd ps := ⟨one29.dr, eps, fun q hq => LsM.ne (one20.dr.it q hq) ft, ne_of_none one20.dr.at_ ft, nm29⟩
      have nSt : sA ≠ tk2 := LsM.ne one20.st ft
      have nPt : p ≠ tk2 := by
        obtain ⟨dxo, eo⟩ := one20.ob
        exact ne_of_none eo ft
      have rn := rn_all al ts 0 0 [] .non 0 (by rw [hdd]; omega) (by simp; omega) (by omega) (fun z => absurd z tne)
      rw [hdd] at rn
      refine ⟨_, rfl, _, rfl, p, sA, h2, dx2, tk2, ch2, aA, s', nums, dd, ps, stepsD ts 0 0, _, _, rfl, one29, gv, nSt, nPt, ⟨[], etk2, .nil⟩, by rw [askA, List.length_map, List.length_range']; omega, rn, fun H30 B30 ls30 => ?_⟩
      refine ⟨_, rfl, _, rfl, _, rfl, iteF ?_⟩
      have S2030 : Same H20 H30 := fun b o eb => B30 _ _ (ne_of_none eb ft) (S2029 _ _ eb)
      have ehn30 : H30 h2 = some (.ins CN dx2 [("taken", .ref tk2), ("numbers", .ref ch2)]) := B30 _ _ (fun z => by rw [z, etk2] at ehn2; cases ehn2) ehn2
      refine ⟨_, rfl, h2, CN, dx2, _, .ref tk2, rfl, ehn30, T.clN, T.nT, rfl, ?_⟩
      refine ⟨_, rfl, Dl, _, rfl, .inl (SqL.of (S2030 _ _ ll20.at_)), ((qs.map fun q => V.ref q.1).length : Int), rfl, by omega, by rw [List.length_map]; omega, fun Pl hPl => ?_⟩
      refine comp_range (lo := 0) (n := (((qs.map fun q => V.ref q.1).length : Nat) : Int).toNat) (D := Pl) (fun i σ us H' => (∃ o1, σ = [o1, some (.ref Du)]) ∧ Same H30 H' ∧ H' Pl = some (.lst us) ∧ DatsAt K H' us (asks (askA js 0 i)))
        ⟨⟨none, rfl⟩, .upd hPl, upd_same, .nil⟩ ?_ ?_ ?_
      · rintro i σ us H' hi ⟨_, S, eP, dp⟩
        have := dp.length
        rw [asks, askA, List.length_map, List.length_map, List.length_range'] at this
        rw [List.length_map] at hi
        exact ⟨eP, Nat.lt_of_le_of_lt (m := 1000) (by omega) (by decide)⟩
      · rintro i σ us H' hi ⟨⟨o1, rfl⟩, S, eP, dp⟩ N hN
        rw [List.length_map] at hi
        obtain ⟨q, hq⟩ := get_ex (l := nj) (i := i) (by omega)
        obtain ⟨a3, ea3, e3⟩ := atd (S2030.trans S) hq
        refine iteT (B := True) ?_
        refine ⟨_, rfl, _, rfl, _, rfl, Du, _, _, .ref a3, rfl, rfl, SqL.of (S _ _ (S2030 _ _ eDu20)), (by rw [Int.zero_add]; exact ea3), a3, _, 1, nI q.2, rfl, rfl, SqL.of e3, rfl, two_le, fun t ht => ?_⟩
        have S5 := Same.upd (o := .tup [.int (0 + (i : Int)), nI q.2]) ht
        refine ⟨S5 _ _ eP, hN _ _ _ ⟨⟨_, rfl⟩, fun b o eb => ?_, upd_same, ?_⟩⟩
        · rw [upd_ne (ne_of_none eb hPl)]
          exact S5 _ _ (S _ _ eb)
        · have ea : asks (askA js 0 (i + 1)) = asks (askA js 0 i) ++ [pI ((i : Int), (q.2 : Int))] := by
            rw [ask_app, asks_app, ← js_ hq]
            simp [askA, asks]
          rw [ea]
          refine ((dp.same S5).append (.cons (.tup (SqT.of upd_same) (.cons ?_ (.cons (.int _) .nil))) .nil)).but (.lst (S5 _ _ eP)) .upd
          rw [Int.zero_add]
          exact .int _
      rintro σ us H31 ⟨_, S31, eP, dp⟩
      rw [List.length_map, Int.toNat_natCast, lqs] at dp
      have eas : asks (askA js 0 dd.length) = ((askA js 0 dd.length).map fun q => ((q.1 : Int), (q.2 : Int))).map pI := by
        rw [List.map_map]
        rfl
      rw [eas] at dp ls30
      exact ⟨tk2, Pl, _, rfl, ls30.same S31, ⟨us, eP, dp⟩, by rw [List.length_map, askA, List.length_map, List.length_range']; omega, fun H' _ => k _⟩
end
end K70
namespace K70
open PySem L2 FW PyProof.Rows
noncomputable def KF : Params → PySem.W.Frag := fun P =>
 (nat_lit 2, ⟨.none, none, (.dict #[] 0), #[]⟩) ::
 (nat_lit 3, ⟨(.type "dict"), none, (.dict #[⟨PyData.keyHash P "__name__", (.str "__name__" 165), (.str "law_flipwright_k70_bases_and_numbers" 622)⟩, ⟨PyData.keyHash P "__doc__", (.str "__doc__" 166), .none⟩, ⟨PyData.keyHash P "__package__", (.str "__package__" 167), .none⟩, ⟨PyData.keyHash P "__loader__", (.str "__loader__" 168), (.builtin "__main__.__loader__#opaque")⟩, ⟨PyData.keyHash P "__spec__", (.str "__spec__" 169), .none⟩, ⟨PyData.keyHash P "__annotations__", (.str "__annotations__" 170), (.ref 6)⟩, ⟨PyData.keyHash P "__builtins__", (.str "__builtins__" 171), (.ref 4)⟩, ⟨PyData.keyHash P "__file__", (.str "__file__" 173), (.str "/claim/cut.py" 172)⟩, ⟨PyData.keyHash P "__cached__", (.str "__cached__" 174), .none⟩, ⟨PyData.keyHash P "FlipError", (.str "FlipError" 206), (.ref 24)⟩, ⟨PyData.keyHash P "NoName", (.str "NoName" 231), (.ref 44)⟩, ⟨PyData.keyHash P "TooMuch", (.str "TooMuch" 247), (.ref 56)⟩, ⟨PyData.keyHash P "MOST_DEFS", (.str "MOST_DEFS" 251), (.int 3 250)⟩, ⟨PyData.keyHash P "MOST_DRAWS", (.str "MOST_DRAWS" 253), (.int 60 252)⟩, ⟨PyData.keyHash P "MOST_SIZE", (.str "MOST_SIZE" 255), (.int 600 254)⟩, ⟨PyData.keyHash P "Opened", (.str "Opened" 284), (.ref 73)⟩, ⟨PyData.keyHash P "parts_of", (.str "parts_of" 290), (.ref 82)⟩, ⟨PyData.keyHash P "check_term", (.str "check_term" 302), (.ref 89)⟩, ⟨PyData.keyHash P "check_names", (.str "check_names" 314), (.ref 96)⟩, ⟨PyData.keyHash P "check_defs", (.str "check_defs" 320), (.ref 101)⟩, ⟨PyData.keyHash P "draw_of", (.str "draw_of" 327), (.ref 108)⟩, ⟨PyData.keyHash P "with_parts", (.str "with_parts" 333), (.ref 113)⟩, ⟨PyData.keyHash P "Opener", (.str "Opener" 438), (.ref 179)⟩, ⟨PyData.keyHash P "opened", (.str "opened" 447), (.ref 190)⟩, ⟨PyData.keyHash P "ROUND", (.str "ROUND" 451), (.int 1000000000000 450)⟩, ⟨PyData.keyHash P "Hand", (.str "Hand" 498), (.ref 221)⟩, ⟨PyData.keyHash P "counted", (.str "counted" 505), (.ref 232)⟩, ⟨PyData.keyHash P "figured_op", (.str "figured_op" 516), (.ref 239)⟩, ⟨PyData.keyHash P "field_of", (.str "field_of" 526), (.ref 246)⟩, ⟨PyData.keyHash P "figured", (.str "figured" 532), (.ref 251)⟩, ⟨PyData.keyHash P "told", (.str "told" 548), (.ref 258)⟩, ⟨PyData.keyHash P "run", (.str "run" 560), (.ref 265)⟩, ⟨PyData.keyHash P "weights_of", (.str "weights_of" 568), (.ref 270)⟩, ⟨PyData.keyHash P "bases", (.str "bases" 576), (.ref 275)⟩, ⟨PyData.keyHash P "index_above", (.str "index_above" 587), (.ref 282)⟩, ⟨PyData.keyHash P "Numbered", (.str "Numbered" 621), (.ref 306)⟩, ⟨PyData.keyHash P "_law_mix", (.str "_law_mix" 632), (.ref 315)⟩, ⟨PyData.keyHash P "_law_pick", (.str "_law_pick" 641), (.ref 322)⟩, ⟨PyData.keyHash P "_law_term", (.str "_law_term" 648), (.ref 329)⟩, ⟨PyData.keyHash P "_law_draws", (.str "_law_draws" 655), (.ref 336)⟩, ⟨PyData.keyHash P "_law_number", (.str "_law_number" 661), (.ref 341)⟩, ⟨PyData.keyHash P "_law_alike", (.str "_law_alike" 669), (.ref 348)⟩, ⟨PyData.keyHash P "_law_list", (.str "_law_list" 678), (.ref 355)⟩, ⟨PyData.keyHash P "_law_pairs", (.str "_law_pairs" 687), (.ref 362)⟩, ⟨PyData.keyHash P "law", (.str "law" 693), (.ref 367)⟩] 45), #[]⟩) ::
 (nat_lit 15, ⟨(.type "tuple"), none, (.seq #[(.type "ValueError")] 0), #[]⟩) ::
 (nat_lit 22, ⟨(.type "tuple"), none, (.seq #[] 0), #[]⟩) ::
 (nat_lit 23, ⟨(.type "dict"), none, (.dict #[⟨PyData.keyHash P "__module__", (.str "__module__" 196), (.str "flipwright.errors" 187)⟩, ⟨PyData.keyHash P "__firstlineno__", (.str "__firstlineno__" 200), (.int 2 199)⟩, ⟨PyData.keyHash P "__static_attributes__", (.str "__static_attributes__" 201), (.ref 22)⟩, ⟨PyData.keyHash P "__weakref__", (.str "__weakref__" 203), (.ref 25)⟩, ⟨PyData.keyHash P "__doc__", (.str "__doc__" 204), .none⟩] 3), #[]⟩) ::
 (nat_lit 24, ⟨(.type "type"), none, (.cls (.mk "FlipError" [(.type "ValueError")] [(.ref 24), (.type "ValueError"), (.type "Exception"), (.type "BaseException"), (.type "object")] 23 "FlipError" true [] [(.ref 44), (.ref 56)] false none false)), #[(some (.ref 15)), none, (some (.str "FlipError" 189)), (some (.str "FlipError" 197)), (some (.builtin "ValueError.__new__")), (some (.bool true))]⟩) ::
 (nat_lit 25, ⟨(.type "getset_descriptor"), none, (.fields #[(.str "__weakref__" 202), (.ref 24), (.builtin "ExceptionGroup.__weakref__"), .none]), #[]⟩) ::
 (nat_lit 28, ⟨(.type "tuple"), none, (.seq #[(.ref 24)] 0), #[]⟩) ::
 (nat_lit 35, ⟨(.type "tuple"), none, (.seq #[] 0), #[]⟩) ::
 (nat_lit 37, ⟨(.type "tuple"), none, (.seq #[(.str "self" 222), (.str "row" 223)] 0), #[]⟩) ::
 (nat_lit 38, ⟨(.type "tuple"), none, (.seq #[] 0), #[]⟩) ::
 (nat_lit 40, ⟨(.type "code"), none, (.fields #[(.str "__init__" 219), (.str "NoName.__init__" 220), (.str "/claim/cut.py" 221), (.int 6 0), (.int 2 0), (.int 0 0), (.int 0 0), (.int 3 0), (.ref 35), (.bool true), (.int 181 0), (.ref 36), .none, (.ref 37), (.ref 38), (.ref 39), (.int 224 0), (.int 6 0), (.str "/claim/cut.py" 225)]), #[]⟩) ::
 (nat_lit 41, ⟨(.type "function"), none, (.func ⟨"__init__", "NoName.__init__", ⟨[], [⟨"self", none, ⟨6, 17, 6, 21⟩⟩, ⟨"row", none, ⟨6, 23, 6, 26⟩⟩], none, [], [], none, []⟩, (.stmts [(.Assign [(.Attribute (.Name "self" ⟨7, 8, 7, 12⟩) "row" ⟨7, 8, 7, 16⟩)] (.Name "row" ⟨7, 19, 7, 22⟩) ⟨7, 8, 7, 22⟩)]), ⟨.function, [("self", .local), ("row", .local)], false, false, []⟩, 3, [], .none, .none, .none, (.str "flipwright.errors" 187), none, (.ref 40), .none, 0⟩), #[]⟩) ::
 (nat_lit 42, ⟨(.type "tuple"), none, (.seq #[(.str "row" 227)] 0), #[]⟩) ::
 (nat_lit 43, ⟨(.type "dict"), none, (.dict #[⟨PyData.keyHash P "__module__", (.str "__module__" 214), (.str "flipwright.errors" 187)⟩, ⟨PyData.keyHash P "__firstlineno__", (.str "__firstlineno__" 218), (.int 4 217)⟩, ⟨PyData.keyHash P "__init__", (.str "__init__" 226), (.ref 41)⟩, ⟨PyData.keyHash P "__static_attributes__", (.str "__static_attributes__" 228), (.ref 42)⟩, ⟨PyData.keyHash P "__doc__", (.str "__doc__" 229), .none⟩] 2), #[]⟩) ::
 (nat_lit 44, ⟨(.type "type"), none, (.cls (.mk "NoName" [(.ref 24)] [(.ref 44), (.ref 24), (.type "ValueError"), (.type "Exception"), (.type "BaseException"), (.type "object")] 43 "NoName" true [] [] false none false)), #[(some (.ref 28)), none, (some (.str "NoName" 207)), (some (.str "NoName" 215)), (some (.builtin "ValueError.__new__")), (some (.bool true))]⟩) ::
 (nat_lit 47, ⟨(.type "tuple"), none, (.seq #[(.ref 24)] 0), #[]⟩) ::
 (nat_lit 54, ⟨(.type "tuple"), none, (.seq #[] 0), #[]⟩) ::
 (nat_lit 55, ⟨(.type "dict"), none, (.dict #[⟨PyData.keyHash P "__module__", (.str "__module__" 239), (.str "flipwright.errors" 187)⟩, ⟨PyData.keyHash P "__firstlineno__", (.str "__firstlineno__" 243), (.int 8 242)⟩, ⟨PyData.keyHash P "__static_attributes__", (.str "__static_attributes__" 244), (.ref 54)⟩, ⟨PyData.keyHash P "__doc__", (.str "__doc__" 245), .none⟩] 2), #[]⟩) ::
 (nat_lit 56, ⟨(.type "type"), none, (.cls (.mk "TooMuch" [(.ref 24)] [(.ref 56), (.ref 24), (.type "ValueError"), (.type "Exception"), (.type "BaseException"), (.type "object")] 55 "TooMuch" true [] [] false none false)), #[(some (.ref 47)), none, (some (.str "TooMuch" 232)), (some (.str "TooMuch" 240)), (some (.builtin "ValueError.__new__")), (some (.bool true))]⟩) ::
 (nat_lit 66, ⟨(.type "tuple"), none, (.seq #[] 0), #[]⟩) ::
 (nat_lit 69, ⟨(.type "code"), none, (.fields #[(.str "__init__" 268), (.str "Opened.__init__" 269), (.str "/claim/cut.py" 270), (.int 16 0), (.int 4 0), (.int 0 0), (.int 0 0), (.int 3 0), (.ref 66), (.bool true), (.int 181 0), (.ref 67), .none, .none, .none, (.ref 68), (.int 271 0), (.int 16 0), (.str "/claim/cut.py" 272)]), #[]⟩) ::
 (nat_lit 70, ⟨(.type "function"), none, (.func ⟨"__init__", "Opened.__init__", defArgs s_Opened_init, .stmts (defBody s_Opened_init), defScope s_Opened_init, 3, [], .none, .none, .none, (.str "flipwright.opening" 248), none, (.ref 69), .none, 0⟩), #[]⟩) ::
 (nat_lit 71, ⟨(.type "tuple"), none, (.seq #[(.str "draws" 274), (.str "slots" 275), (.str "steps" 276)] 0), #[]⟩) ::
 (nat_lit 72, ⟨(.type "dict"), none, (.dict #[⟨PyData.keyHash P "__module__", (.str "__module__" 263), (.str "flipwright.opening" 248)⟩, ⟨PyData.keyHash P "__firstlineno__", (.str "__firstlineno__" 267), (.int 14 266)⟩, ⟨PyData.keyHash P "__init__", (.str "__init__" 273), (.ref 70)⟩, ⟨PyData.keyHash P "__static_attributes__", (.str "__static_attributes__" 277), (.ref 71)⟩, ⟨PyData.keyHash P "__dict__", (.str "__dict__" 279), (.ref 74)⟩, ⟨PyData.keyHash P "__weakref__", (.str "__weakref__" 281), (.ref 75)⟩, ⟨PyData.keyHash P "__doc__", (.str "__doc__" 282), .none⟩] 4), #[]⟩) ::
 (nat_lit 73, ⟨(.type "type"), none, (.cls (.mk "Opened" [(.type "object")] [(.ref 73), (.type "object")] 72 "Opened" true [] [] false none false)), #[none, none, (some (.str "Opened" 256)), (some (.str "Opened" 264)), (some (.builtin "object.__new__")), (some (.bool true))]⟩) ::
 (nat_lit 74, ⟨(.type "getset_descriptor"), none, (.fields #[(.str "__dict__" 278), (.ref 73), (.builtin "function.__dict__"), (.builtin "function.__dict__#set")]), #[]⟩) ::
 (nat_lit 75, ⟨(.type "getset_descriptor"), none, (.fields #[(.str "__weakref__" 280), (.ref 73), (.builtin "ExceptionGroup.__weakref__"), .none]), #[]⟩) ::
 (nat_lit 78, ⟨(.type "tuple"), none, (.seq #[] 0), #[]⟩) ::
 (nat_lit 81, ⟨(.type "code"), none, (.fields #[(.str "parts_of" 285), (.str "parts_of" 286), (.str "/claim/cut.py" 287), (.int 20 0), (.int 1 0), (.int 0 0), (.int 0 0), (.int 3 0), (.ref 78), (.bool true), (.int 181 0), (.ref 79), .none, .none, .none, (.ref 80), (.int 288 0), (.int 20 0), (.str "/claim/cut.py" 289)]), #[]⟩) ::
 (nat_lit 82, ⟨(.type "function"), none, (.func ⟨"parts_of", "parts_of", defArgs s_parts_of, .stmts (defBody s_parts_of), defScope s_parts_of, 3, [], .none, .none, .none, (.str "flipwright.opening" 248), none, (.ref 81), .none, 0⟩), #[]⟩) ::
 (nat_lit 83, ⟨(.type "tuple"), none, (.seq #[] 0), #[]⟩) ::
 (nat_lit 85, ⟨(.type "tuple"), none, (.seq #[(.str "row" 294), (.str "term" 295), (.str "names" 296), (.str "helpers" 297), (.str "kind" 298), (.str "part" 299)] 0), #[]⟩) ::
 (nat_lit 86, ⟨(.type "tuple"), none, (.seq #[] 0), #[]⟩) ::
 (nat_lit 88, ⟨(.type "code"), none, (.fields #[(.str "check_term" 291), (.str "check_term" 292), (.str "/claim/cut.py" 293), (.int 33 0), (.int 4 0), (.int 0 0), (.int 0 0), (.int 3 0), (.ref 83), (.bool true), (.int 181 0), (.ref 84), .none, (.ref 85), (.ref 86), (.ref 87), (.int 300 0), (.int 33 0), (.str "/claim/cut.py" 301)]), #[]⟩) ::
 (nat_lit 89, ⟨(.type "function"), none, (.func ⟨"check_term", "check_term", defArgs s_check_term, .stmts (defBody s_check_term), defScope s_check_term, 3, [], .none, .none, .none, (.str "flipwright.opening" 248), none, (.ref 88), .none, 0⟩), #[]⟩) ::
 (nat_lit 90, ⟨(.type "tuple"), none, (.seq #[] 0), #[]⟩) ::
 (nat_lit 92, ⟨(.type "tuple"), none, (.seq #[(.str "program" 306), (.str "names" 307), (.str "helpers" 308), (.str "number" 309), (.str "row" 310), (.str "kind" 311)] 0), #[]⟩) ::
 (nat_lit 93, ⟨(.type "tuple"), none, (.seq #[] 0), #[]⟩) ::
 (nat_lit 95, ⟨(.type "code"), none, (.fields #[(.str "check_names" 303), (.str "check_names" 304), (.str "/claim/cut.py" 305), (.int 41 0), (.int 1 0), (.int 0 0), (.int 0 0), (.int 3 0), (.ref 90), (.bool true), (.int 181 0), (.ref 91), .none, (.ref 92), (.ref 93), (.ref 94), (.int 312 0), (.int 41 0), (.str "/claim/cut.py" 313)]), #[]⟩) ::
 (nat_lit 96, ⟨(.type "function"), none, (.func ⟨"check_names", "check_names", defArgs s_check_names, .stmts (defBody s_check_names), defScope s_check_names, 3, [], .none, .none, .none, (.str "flipwright.opening" 248), none, (.ref 95), .none, 0⟩), #[]⟩) ::
 (nat_lit 97, ⟨(.type "tuple"), none, (.seq #[] 0), #[]⟩) ::
 (nat_lit 100, ⟨(.type "code"), none, (.fields #[(.str "check_defs" 315), (.str "check_defs" 316), (.str "/claim/cut.py" 317), (.int 57 0), (.int 1 0), (.int 0 0), (.int 0 0), (.int 3 0), (.ref 97), (.bool true), (.int 181 0), (.ref 98), .none, .none, .none, (.ref 99), (.int 318 0), (.int 57 0), (.str "/claim/cut.py" 319)]), #[]⟩) ::
 (nat_lit 101, ⟨(.type "function"), none, (.func ⟨"check_defs", "check_defs", defArgs s_check_defs, .stmts (defBody s_check_defs), defScope s_check_defs, 3, [], .none, .none, .none, (.str "flipwright.opening" 248), none, (.ref 100), .none, 0⟩), #[]⟩) ::
 (nat_lit 102, ⟨(.type "tuple"), none, (.seq #[] 0), #[]⟩) ::
 (nat_lit 104, ⟨(.type "tuple"), none, (.seq #[(.str "term" 324)] 0), #[]⟩) ::
 (nat_lit 105, ⟨(.type "tuple"), none, (.seq #[] 0), #[]⟩) ::
 (nat_lit 107, ⟨(.type "code"), none, (.fields #[(.str "draw_of" 321), (.str "draw_of" 322), (.str "/claim/cut.py" 323), (.int 60 0), (.int 1 0), (.int 0 0), (.int 0 0), (.int 3 0), (.ref 102), (.bool true), (.int 181 0), (.ref 103), .none, (.ref 104), (.ref 105), (.ref 106), (.int 325 0), (.int 60 0), (.str "/claim/cut.py" 326)]), #[]⟩) ::
 (nat_lit 108, ⟨(.type "function"), none, (.func ⟨"draw_of", "draw_of", defArgs s_draw_of, .stmts (defBody s_draw_of), defScope s_draw_of, 3, [], .none, .none, .none, (.str "flipwright.opening" 248), none, (.ref 107), .none, 0⟩), #[]⟩) ::
 (nat_lit 109, ⟨(.type "tuple"), none, (.seq #[] 0), #[]⟩) ::
 (nat_lit 112, ⟨(.type "code"), none, (.fields #[(.str "with_parts" 328), (.str "with_parts" 329), (.str "/claim/cut.py" 330), (.int 64 0), (.int 2 0), (.int 0 0), (.int 0 0), (.int 3 0), (.ref 109), (.bool true), (.int 181 0), (.ref 110), .none, .none, .none, (.ref 111), (.int 331 0), (.int 64 0), (.str "/claim/cut.py" 332)]), #[]⟩) ::
 (nat_lit 113, ⟨(.type "function"), none, (.func ⟨"with_parts", "with_parts", defArgs s_with_parts, .stmts (defBody s_with_parts), defScope s_with_parts, 3, [], .none, .none, .none, (.str "flipwright.opening" 248), none, (.ref 112), .none, 0⟩), #[]⟩) ::
 (nat_lit 121, ⟨(.type "tuple"), none, (.seq #[] 0), #[]⟩) ::
 (nat_lit 123, ⟨(.type "tuple"), none, (.seq #[(.str "self" 349)] 0), #[]⟩) ::
 (nat_lit 124, ⟨(.type "tuple"), none, (.seq #[] 0), #[]⟩) ::
 (nat_lit 126, ⟨(.type "code"), none, (.fields #[(.str "__init__" 346), (.str "Opener.__init__" 347), (.str "/claim/cut.py" 348), (.int 75 0), (.int 1 0), (.int 0 0), (.int 0 0), (.int 3 0), (.ref 121), (.bool true), (.int 181 0), (.ref 122), .none, (.ref 123), (.ref 124), (.ref 125), (.int 350 0), (.int 75 0), (.str "/claim/cut.py" 351)]), #[]⟩) ::
 (nat_lit 127, ⟨(.type "function"), none, (.func ⟨"__init__", "Opener.__init__", defArgs s_Opener_init, .stmts (defBody s_Opener_init), defScope s_Opener_init, 3, [], .none, .none, .none, (.str "flipwright.opening" 248), none, (.ref 126), .none, 0⟩), #[]⟩) ::
 (nat_lit 128, ⟨(.type "tuple"), none, (.seq #[] 0), #[]⟩) ::
 (nat_lit 130, ⟨(.type "tuple"), none, (.seq #[(.str "self" 356)] 0), #[]⟩) ::
 (nat_lit 131, ⟨(.type "tuple"), none, (.seq #[] 0), #[]⟩) ::
 (nat_lit 133, ⟨(.type "code"), none, (.fields #[(.str "count_term" 353), (.str "Opener.count_term" 354), (.str "/claim/cut.py" 355), (.int 83 0), (.int 1 0), (.int 0 0), (.int 0 0), (.int 3 0), (.ref 128), (.bool true), (.int 181 0), (.ref 129), .none, (.ref 130), (.ref 131), (.ref 132), (.int 357 0), (.int 83 0), (.str "/claim/cut.py" 358)]), #[]⟩) ::
 (nat_lit 134, ⟨(.type "function"), none, (.func ⟨"count_term", "Opener.count_term", defArgs s_Opener_count_term, .stmts (defBody s_Opener_count_term), defScope s_Opener_count_term, 3, [], .none, .none, .none, (.str "flipwright.opening" 248), none, (.ref 133), .none, 0⟩), #[]⟩) ::
 (nat_lit 135, ⟨(.type "tuple"), none, (.seq #[] 0), #[]⟩) ::
 (nat_lit 137, ⟨(.type "tuple"), none, (.seq #[(.str "self" 363)] 0), #[]⟩) ::
 (nat_lit 138, ⟨(.type "tuple"), none, (.seq #[] 0), #[]⟩) ::
 (nat_lit 140, ⟨(.type "code"), none, (.fields #[(.str "new_slot" 360), (.str "Opener.new_slot" 361), (.str "/claim/cut.py" 362), (.int 88 0), (.int 1 0), (.int 0 0), (.int 0 0), (.int 3 0), (.ref 135), (.bool true), (.int 181 0), (.ref 136), .none, (.ref 137), (.ref 138), (.ref 139), (.int 364 0), (.int 88 0), (.str "/claim/cut.py" 365)]), #[]⟩) ::
 (nat_lit 141, ⟨(.type "function"), none, (.func ⟨"new_slot", "Opener.new_slot", defArgs s_Opener_new_slot, .stmts (defBody s_Opener_new_slot), defScope s_Opener_new_slot, 3, [], .none, .none, .none, (.str "flipwright.opening" 248), none, (.ref 140), .none, 0⟩), #[]⟩) ::
 (nat_lit 142, ⟨(.type "tuple"), none, (.seq #[] 0), #[]⟩) ::
 (nat_lit 144, ⟨(.type "tuple"), none, (.seq #[(.str "self" 370), (.str "draw" 371)] 0), #[]⟩) ::
 (nat_lit 145, ⟨(.type "tuple"), none, (.seq #[] 0), #[]⟩) ::
 (nat_lit 147, ⟨(.type "code"), none, (.fields #[(.str "new_draw" 367), (.str "Opener.new_draw" 368), (.str "/claim/cut.py" 369), (.int 92 0), (.int 2 0), (.int 0 0), (.int 0 0), (.int 3 0), (.ref 142), (.bool true), (.int 181 0), (.ref 143), .none, (.ref 144), (.ref 145), (.ref 146), (.int 372 0), (.int 92 0), (.str "/claim/cut.py" 373)]), #[]⟩) ::
 (nat_lit 148, ⟨(.type "function"), none, (.func ⟨"new_draw", "Opener.new_draw", defArgs s_Opener_new_draw, .stmts (defBody s_Opener_new_draw), defScope s_Opener_new_draw, 3, [], .none, .none, .none, (.str "flipwright.opening" 248), none, (.ref 147), .none, 0⟩), #[]⟩) ::
 (nat_lit 149, ⟨(.type "tuple"), none, (.seq #[] 0), #[]⟩) ::
 (nat_lit 151, ⟨(.type "tuple"), none, (.seq #[(.str "self" 378), (.str "term" 379), (.str "names" 380), (.str "kind" 381), (.str "parts" 382), (.str "part" 383)] 0), #[]⟩) ::
 (nat_lit 152, ⟨(.type "tuple"), none, (.seq #[] 0), #[]⟩) ::
 (nat_lit 154, ⟨(.type "code"), none, (.fields #[(.str "open_term" 375), (.str "Opener.open_term" 376), (.str "/claim/cut.py" 377), (.int 98 0), (.int 3 0), (.int 0 0), (.int 0 0), (.int 3 0), (.ref 149), (.bool true), (.int 181 0), (.ref 150), .none, (.ref 151), (.ref 152), (.ref 153), (.int 384 0), (.int 98 0), (.str "/claim/cut.py" 385)]), #[]⟩) ::
 (nat_lit 155, ⟨(.type "function"), none, (.func ⟨"open_term", "Opener.open_term", defArgs s_Opener_open_term, .stmts (defBody s_Opener_open_term), defScope s_Opener_open_term, 3, [], .none, .none, .none, (.str "flipwright.opening" 248), none, (.ref 154), .none, 0⟩), #[]⟩) ::
 (nat_lit 156, ⟨(.type "tuple"), none, (.seq #[] 0), #[]⟩) ::
 (nat_lit 158, ⟨(.type "tuple"), none, (.seq #[(.str "self" 390), (.str "term" 391), (.str "names" 392), (.str "helper" 393), (.str "own_names" 394), (.str "binds" 395), (.str "name" 396), (.str "part" 397), (.str "inner" 398), (.str "whole" 399), (.str "slot" 400)] 0), #[]⟩) ::
 (nat_lit 159, ⟨(.type "tuple"), none, (.seq #[] 0), #[]⟩) ::
 (nat_lit 161, ⟨(.type "code"), none, (.fields #[(.str "open_call" 387), (.str "Opener.open_call" 388), (.str "/claim/cut.py" 389), (.int 114 0), (.int 3 0), (.int 0 0), (.int 0 0), (.int 3 0), (.ref 156), (.bool true), (.int 181 0), (.ref 157), .none, (.ref 158), (.ref 159), (.ref 160), (.int 401 0), (.int 114 0), (.str "/claim/cut.py" 402)]), #[]⟩) ::
 (nat_lit 162, ⟨(.type "function"), none, (.func ⟨"open_call", "Opener.open_call", ⟨[], [⟨"self", none, ⟨114, 18, 114, 22⟩⟩, ⟨"term", none, ⟨114, 24, 114, 28⟩⟩, ⟨"names", none, ⟨114, 30, 114, 35⟩⟩], none, [], [], none, []⟩, (.stmts [(.Assign [(.Name "helper" ⟨115, 8, 115, 14⟩)] (.Subscript (.Attribute (.Name "self" ⟨115, 17, 115, 21⟩) "helpers" ⟨115, 17, 115, 29⟩) (.Subscript (.Name "term" ⟨115, 30, 115, 34⟩) (.Constant (.int 1) 0 ⟨115, 35, 115, 36⟩) ⟨115, 30, 115, 37⟩) ⟨115, 17, 115, 38⟩) ⟨115, 8, 115, 38⟩), (.Assign [(.Name "own_names" ⟨116, 8, 116, 17⟩)] (.Dict [] [] ⟨116, 20, 116, 22⟩) ⟨116, 8, 116, 22⟩), (.Assign [(.Name "binds" ⟨117, 8, 117, 13⟩)] (.List [] ⟨117, 16, 117, 18⟩) ⟨117, 8, 117, 18⟩), (.For (.Tuple [(.Name "name" ⟨118, 12, 118, 16⟩), (.Name "part" ⟨118, 18, 118, 22⟩)] 0 ⟨118, 12, 118, 22⟩) (.Call (.Name "zip" ⟨118, 26, 118, 29⟩) [(.Subscript (.Name "helper" ⟨118, 30, 118, 36⟩) (.Constant (.int 2) 0 ⟨118, 37, 118, 38⟩) ⟨118, 30, 118, 39⟩), (.Subscript (.Name "term" ⟨118, 41, 118, 45⟩) (.Constant (.int 2) 0 ⟨118, 46, 118, 47⟩) ⟨118, 41, 118, 48⟩)] [] ⟨118, 26, 118, 49⟩) [(.Expr (.Call (.Attribute (.Name "self" ⟨119, 12, 119, 16⟩) "count_term" ⟨119, 12, 119, 27⟩) [] [] ⟨119, 12, 119, 29⟩) ⟨119, 12, 119, 29⟩), (.Assign [(.Name "inner" ⟨120, 12, 120, 17⟩)] (.Call (.Attribute (.Name "self" ⟨120, 20, 120, 24⟩) "open_term" ⟨120, 20, 120, 34⟩) [(.Name "part" ⟨120, 35, 120, 39⟩), (.Name "names" ⟨120, 41, 120, 46⟩)] [] ⟨120, 20, 120, 47⟩) ⟨120, 12, 120, 47⟩), (.Assign [(.Subscript (.Name "own_names" ⟨121, 12, 121, 21⟩) (.Name "name" ⟨121, 22, 121, 26⟩) ⟨121, 12, 121, 27⟩)] (.Call (.Attribute (.Name "self" ⟨121, 30, 121, 34⟩) "new_slot" ⟨121, 30, 121, 43⟩) [] [] ⟨121, 30, 121, 45⟩) ⟨121, 12, 121, 45⟩), (.Expr (.Call (.Attribute (.Name "binds" ⟨122, 12, 122, 17⟩) "append" ⟨122, 12, 122, 24⟩) [(.Tuple [(.Subscript (.Name "own_names" ⟨122, 26, 122, 35⟩) (.Name "name" ⟨122, 36, 122, 40⟩) ⟨122, 26, 122, 41⟩), (.Name "inner" ⟨122, 43, 122, 48⟩)] 0 ⟨122, 25, 122, 49⟩)] [] ⟨122, 12, 122, 50⟩) ⟨122, 12, 122, 50⟩)] [] ⟨118, 8, 122, 50⟩), (.Assign [(.Name "whole" ⟨123, 8, 123, 13⟩)] (.Call (.Attribute (.Name "self" ⟨123, 16, 123, 20⟩) "open_term" ⟨123, 16, 123, 30⟩) [(.Subscript (.Name "helper" ⟨123, 31, 123, 37⟩) (.Constant (.int 3) 0 ⟨123, 38, 123, 39⟩) ⟨123, 31, 123, 40⟩), (.Name "own_names" ⟨123, 42, 123, 51⟩)] [] ⟨123, 16, 123, 52⟩) ⟨123, 8, 123, 52⟩), (.For (.Tuple [(.Name "slot" ⟨124, 12, 124, 16⟩), (.Name "inner" ⟨124, 18, 124, 23⟩)] 0 ⟨124, 12, 124, 23⟩) (.Call (.Name "reversed" ⟨124, 27, 124, 35⟩) [(.Name "binds" ⟨124, 36, 124, 41⟩)] [] ⟨124, 27, 124, 42⟩) [(.Assign [(.Name "whole" ⟨125, 12, 125, 17⟩)] (.Tuple [(.Constant (.str "bind") 0 ⟨125, 21, 125, 27⟩), (.Name "slot" ⟨125, 29, 125, 33⟩), (.Name "inner" ⟨125, 35, 125, 40⟩), (.Name "whole" ⟨125, 42, 125, 47⟩)] 0 ⟨125, 20, 125, 48⟩) ⟨125, 12, 125, 48⟩)] [] ⟨124, 8, 125, 48⟩), (.Return (some (.Name "whole" ⟨126, 15, 126, 20⟩)) ⟨126, 8, 126, 20⟩)]), ⟨.function, [("self", .local), ("term", .local), ("names", .local), ("helper", .local), ("own_names", .local), ("binds", .local), ("name", .local), ("part", .local), ("inner", .local), ("whole", .local), ("slot", .local), ("zip", .globalImplicit), ("reversed", .globalImplicit)], false, false, []⟩, 3, [], .none, .none, .none, (.str "flipwright.opening" 248), none, (.ref 161), .none, 0⟩), #[]⟩) ::
 (nat_lit 163, ⟨(.type "tuple"), none, (.seq #[] 0), #[]⟩) ::
 (nat_lit 165, ⟨(.type "tuple"), none, (.seq #[(.str "self" 407), (.str "name" 408), (.str "term" 409), (.str "inner" 410)] 0), #[]⟩) ::
 (nat_lit 166, ⟨(.type "tuple"), none, (.seq #[] 0), #[]⟩) ::
 (nat_lit 168, ⟨(.type "code"), none, (.fields #[(.str "open_let" 404), (.str "Opener.open_let" 405), (.str "/claim/cut.py" 406), (.int 128 0), (.int 3 0), (.int 0 0), (.int 0 0), (.int 3 0), (.ref 163), (.bool true), (.int 181 0), (.ref 164), .none, (.ref 165), (.ref 166), (.ref 167), (.int 411 0), (.int 128 0), (.str "/claim/cut.py" 412)]), #[]⟩) ::
 (nat_lit 169, ⟨(.type "function"), none, (.func ⟨"open_let", "Opener.open_let", defArgs s_Opener_open_let, .stmts (defBody s_Opener_open_let), defScope s_Opener_open_let, 3, [], .none, .none, .none, (.str "flipwright.opening" 248), none, (.ref 168), .none, 0⟩), #[]⟩) ::
 (nat_lit 170, ⟨(.type "tuple"), none, (.seq #[] 0), #[]⟩) ::
 (nat_lit 172, ⟨(.type "tuple"), none, (.seq #[(.str "self" 417), (.str "row" 418), (.str "kind" 419), (.str "turn" 420), (.str "inner" 421)] 0), #[]⟩) ::
 (nat_lit 173, ⟨(.type "tuple"), none, (.seq #[] 0), #[]⟩) ::
 (nat_lit 175, ⟨(.type "code"), none, (.fields #[(.str "open_row" 414), (.str "Opener.open_row" 415), (.str "/claim/cut.py" 416), (.int 133 0), (.int 2 0), (.int 0 0), (.int 0 0), (.int 3 0), (.ref 170), (.bool true), (.int 181 0), (.ref 171), .none, (.ref 172), (.ref 173), (.ref 174), (.int 422 0), (.int 133 0), (.str "/claim/cut.py" 423)]), #[]⟩) ::
 (nat_lit 176, ⟨(.type "function"), none, (.func ⟨"open_row", "Opener.open_row", defArgs s_Opener_open_row, .stmts (defBody s_Opener_open_row), defScope s_Opener_open_row, 3, [], .none, .none, .none, (.str "flipwright.opening" 248), none, (.ref 175), .none, 0⟩), #[]⟩) ::
 (nat_lit 177, ⟨(.type "tuple"), none, (.seq #[(.str "draws" 425), (.str "helpers" 426), (.str "names" 427), (.str "slots" 428), (.str "steps" 429), (.str "terms" 430)] 0), #[]⟩) ::
 (nat_lit 178, ⟨(.type "dict"), none, (.dict #[⟨PyData.keyHash P "__module__", (.str "__module__" 341), (.str "flipwright.opening" 248)⟩, ⟨PyData.keyHash P "__firstlineno__", (.str "__firstlineno__" 345), (.int 73 344)⟩, ⟨PyData.keyHash P "__init__", (.str "__init__" 352), (.ref 127)⟩, ⟨PyData.keyHash P "count_term", (.str "count_term" 359), (.ref 134)⟩, ⟨PyData.keyHash P "new_slot", (.str "new_slot" 366), (.ref 141)⟩, ⟨PyData.keyHash P "new_draw", (.str "new_draw" 374), (.ref 148)⟩, ⟨PyData.keyHash P "open_term", (.str "open_term" 386), (.ref 155)⟩, ⟨PyData.keyHash P "open_call", (.str "open_call" 403), (.ref 162)⟩, ⟨PyData.keyHash P "open_let", (.str "open_let" 413), (.ref 169)⟩, ⟨PyData.keyHash P "open_row", (.str "open_row" 424), (.ref 176)⟩, ⟨PyData.keyHash P "__static_attributes__", (.str "__static_attributes__" 431), (.ref 177)⟩, ⟨PyData.keyHash P "__dict__", (.str "__dict__" 433), (.ref 180)⟩, ⟨PyData.keyHash P "__weakref__", (.str "__weakref__" 435), (.ref 181)⟩, ⟨PyData.keyHash P "__doc__", (.str "__doc__" 436), .none⟩] 4), #[]⟩) ::
 (nat_lit 179, ⟨(.type "type"), none, (.cls (.mk "Opener" [(.type "object")] [(.ref 179), (.type "object")] 178 "Opener" true [] [] false none false)), #[none, none, (some (.str "Opener" 334)), (some (.str "Opener" 342)), (some (.builtin "object.__new__")), (some (.bool true))]⟩) ::
 (nat_lit 180, ⟨(.type "getset_descriptor"), none, (.fields #[(.str "__dict__" 432), (.ref 179), (.builtin "function.__dict__"), (.builtin "function.__dict__#set")]), #[]⟩) ::
 (nat_lit 181, ⟨(.type "getset_descriptor"), none, (.fields #[(.str "__weakref__" 434), (.ref 179), (.builtin "ExceptionGroup.__weakref__"), .none]), #[]⟩) ::
 (nat_lit 184, ⟨(.type "tuple"), none, (.seq #[] 0), #[]⟩) ::
 (nat_lit 186, ⟨(.type "tuple"), none, (.seq #[(.str "program" 442), (.str "opener" 443), (.str "row" 444)] 0), #[]⟩) ::
 (nat_lit 187, ⟨(.type "tuple"), none, (.seq #[] 0), #[]⟩) ::
 (nat_lit 189, ⟨(.type "code"), none, (.fields #[(.str "opened" 439), (.str "opened" 440), (.str "/claim/cut.py" 441), (.int 147 0), (.int 1 0), (.int 0 0), (.int 0 0), (.int 3 0), (.ref 184), (.bool true), (.int 181 0), (.ref 185), .none, (.ref 186), (.ref 187), (.ref 188), (.int 445 0), (.int 147 0), (.str "/claim/cut.py" 446)]), #[]⟩) ::
 (nat_lit 190, ⟨(.type "function"), none, (.func ⟨"opened", "opened", defArgs s_opened, .stmts (defBody s_opened), defScope s_opened, 3, [], .none, .none, .none, (.str "flipwright.opening" 248), none, (.ref 189), .none, 0⟩), #[]⟩) ::
 (nat_lit 198, ⟨(.type "tuple"), none, (.seq #[] 0), #[]⟩) ::
 (nat_lit 200, ⟨(.type "tuple"), none, (.seq #[(.str "self" 467)] 0), #[]⟩) ::
 (nat_lit 201, ⟨(.type "tuple"), none, (.seq #[] 0), #[]⟩) ::
 (nat_lit 203, ⟨(.type "code"), none, (.fields #[(.str "__init__" 464), (.str "Hand.__init__" 465), (.str "/claim/cut.py" 466), (.int 158 0), (.int 1 0), (.int 0 0), (.int 0 0), (.int 3 0), (.ref 198), (.bool true), (.int 181 0), (.ref 199), .none, (.ref 200), (.ref 201), (.ref 202), (.int 468 0), (.int 158 0), (.str "/claim/cut.py" 469)]), #[]⟩) ::
 (nat_lit 204, ⟨(.type "function"), none, (.func ⟨"__init__", "Hand.__init__", defArgs s_Hand_init, .stmts (defBody s_Hand_init), defScope s_Hand_init, 3, [], .none, .none, .none, (.str "flipwright.running" 448), none, (.ref 203), .none, 0⟩), #[]⟩) ::
 (nat_lit 205, ⟨(.type "tuple"), none, (.seq #[] 0), #[]⟩) ::
 (nat_lit 207, ⟨(.type "tuple"), none, (.seq #[(.str "self" 474), (.str "site" 475), (.str "draw" 476)] 0), #[]⟩) ::
 (nat_lit 208, ⟨(.type "tuple"), none, (.seq #[] 0), #[]⟩) ::
 (nat_lit 210, ⟨(.type "code"), none, (.fields #[(.str "index_at" 471), (.str "Hand.index_at" 472), (.str "/claim/cut.py" 473), (.int 161 0), (.int 3 0), (.int 0 0), (.int 0 0), (.int 3 0), (.ref 205), (.bool true), (.int 181 0), (.ref 206), .none, (.ref 207), (.ref 208), (.ref 209), (.int 477 0), (.int 161 0), (.str "/claim/cut.py" 478)]), #[]⟩) ::
 (nat_lit 211, ⟨(.type "function"), none, (.func ⟨"index_at", "Hand.index_at", ⟨[], [⟨"self", none, ⟨161, 17, 161, 21⟩⟩, ⟨"site", none, ⟨161, 23, 161, 27⟩⟩, ⟨"draw", none, ⟨161, 29, 161, 33⟩⟩], none, [], [], none, []⟩, (.stmts [(.Return (some (.Constant (.int 0) 0 ⟨162, 15, 162, 16⟩)) ⟨162, 8, 162, 16⟩)]), ⟨.function, [("self", .local), ("site", .local), ("draw", .local)], false, false, []⟩, 3, [], .none, .none, .none, (.str "flipwright.running" 448), none, (.ref 210), .none, 0⟩), #[]⟩) ::
 (nat_lit 212, ⟨(.type "tuple"), none, (.seq #[] 0), #[]⟩) ::
 (nat_lit 214, ⟨(.type "tuple"), none, (.seq #[(.str "self" 483), (.str "site" 484), (.str "draw" 485), (.str "index" 486)] 0), #[]⟩) ::
 (nat_lit 215, ⟨(.type "tuple"), none, (.seq #[] 0), #[]⟩) ::
 (nat_lit 217, ⟨(.type "code"), none, (.fields #[(.str "take" 480), (.str "Hand.take" 481), (.str "/claim/cut.py" 482), (.int 164 0), (.int 3 0), (.int 0 0), (.int 0 0), (.int 3 0), (.ref 212), (.bool true), (.int 181 0), (.ref 213), .none, (.ref 214), (.ref 215), (.ref 216), (.int 487 0), (.int 164 0), (.str "/claim/cut.py" 488)]), #[]⟩) ::
 (nat_lit 218, ⟨(.type "function"), none, (.func ⟨"take", "Hand.take", defArgs s_Hand_take, .stmts (defBody s_Hand_take), defScope s_Hand_take, 3, [], .none, .none, .none, (.str "flipwright.running" 448), none, (.ref 217), .none, 0⟩), #[]⟩) ::
 (nat_lit 219, ⟨(.type "tuple"), none, (.seq #[(.str "taken" 490)] 0), #[]⟩) ::
 (nat_lit 220, ⟨(.type "dict"), none, (.dict #[⟨PyData.keyHash P "__module__", (.str "__module__" 459), (.str "flipwright.running" 448)⟩, ⟨PyData.keyHash P "__firstlineno__", (.str "__firstlineno__" 463), (.int 156 462)⟩, ⟨PyData.keyHash P "__init__", (.str "__init__" 470), (.ref 204)⟩, ⟨PyData.keyHash P "index_at", (.str "index_at" 479), (.ref 211)⟩, ⟨PyData.keyHash P "take", (.str "take" 489), (.ref 218)⟩, ⟨PyData.keyHash P "__static_attributes__", (.str "__static_attributes__" 491), (.ref 219)⟩, ⟨PyData.keyHash P "__dict__", (.str "__dict__" 493), (.ref 222)⟩, ⟨PyData.keyHash P "__weakref__", (.str "__weakref__" 495), (.ref 223)⟩, ⟨PyData.keyHash P "__doc__", (.str "__doc__" 496), .none⟩] 4), #[]⟩) ::
 (nat_lit 221, ⟨(.type "type"), none, (.cls (.mk "Hand" [(.type "object")] [(.ref 221), (.type "object")] 220 "Hand" true [] [(.ref 306)] false none false)), #[none, none, (some (.str "Hand" 452)), (some (.str "Hand" 460)), (some (.builtin "object.__new__")), (some (.bool true))]⟩) ::
 (nat_lit 222, ⟨(.type "getset_descriptor"), none, (.fields #[(.str "__dict__" 492), (.ref 221), (.builtin "function.__dict__"), (.builtin "function.__dict__#set")]), #[]⟩) ::
 (nat_lit 223, ⟨(.type "getset_descriptor"), none, (.fields #[(.str "__weakref__" 494), (.ref 221), (.builtin "ExceptionGroup.__weakref__"), .none]), #[]⟩) ::
 (nat_lit 226, ⟨(.type "tuple"), none, (.seq #[] 0), #[]⟩) ::
 (nat_lit 228, ⟨(.type "tuple"), none, (.seq #[(.str "outcome" 502)] 0), #[]⟩) ::
 (nat_lit 229, ⟨(.type "tuple"), none, (.seq #[] 0), #[]⟩) ::
 (nat_lit 231, ⟨(.type "code"), none, (.fields #[(.str "counted" 499), (.str "counted" 500), (.str "/claim/cut.py" 501), (.int 168 0), (.int 1 0), (.int 0 0), (.int 0 0), (.int 3 0), (.ref 226), (.bool true), (.int 181 0), (.ref 227), .none, (.ref 228), (.ref 229), (.ref 230), (.int 503 0), (.int 168 0), (.str "/claim/cut.py" 504)]), #[]⟩) ::
 (nat_lit 232, ⟨(.type "function"), none, (.func ⟨"counted", "counted", defArgs s_counted, .stmts (defBody s_counted), defScope s_counted, 3, [], .none, .none, .none, (.str "flipwright.running" 448), none, (.ref 231), .none, 0⟩), #[]⟩) ::
 (nat_lit 233, ⟨(.type "tuple"), none, (.seq #[] 0), #[]⟩) ::
 (nat_lit 235, ⟨(.type "tuple"), none, (.seq #[(.str "sign" 509), (.str "one" 510), (.str "other" 511), (.str "first" 512), (.str "second" 513)] 0), #[]⟩) ::
 (nat_lit 236, ⟨(.type "tuple"), none, (.seq #[] 0), #[]⟩) ::
 (nat_lit 238, ⟨(.type "code"), none, (.fields #[(.str "figured_op" 506), (.str "figured_op" 507), (.str "/claim/cut.py" 508), (.int 172 0), (.int 3 0), (.int 0 0), (.int 0 0), (.int 3 0), (.ref 233), (.bool true), (.int 181 0), (.ref 234), .none, (.ref 235), (.ref 236), (.ref 237), (.int 514 0), (.int 172 0), (.str "/claim/cut.py" 515)]), #[]⟩) ::
 (nat_lit 239, ⟨(.type "function"), none, (.func ⟨"figured_op", "figured_op", defArgs s_figured_op, .stmts (defBody s_figured_op), defScope s_figured_op, 3, [], .none, .none, .none, (.str "flipwright.running" 448), none, (.ref 238), .none, 0⟩), #[]⟩) ::
 (nat_lit 240, ⟨(.type "tuple"), none, (.seq #[] 0), #[]⟩) ::
 (nat_lit 242, ⟨(.type "tuple"), none, (.seq #[(.str "value" 520), (.str "name" 521), (.str "field" 522), (.str "number" 523)] 0), #[]⟩) ::
 (nat_lit 243, ⟨(.type "tuple"), none, (.seq #[] 0), #[]⟩) ::
 (nat_lit 245, ⟨(.type "code"), none, (.fields #[(.str "field_of" 517), (.str "field_of" 518), (.str "/claim/cut.py" 519), (.int 184 0), (.int 2 0), (.int 0 0), (.int 0 0), (.int 3 0), (.ref 240), (.bool true), (.int 181 0), (.ref 241), .none, (.ref 242), (.ref 243), (.ref 244), (.int 524 0), (.int 184 0), (.str "/claim/cut.py" 525)]), #[]⟩) ::
 (nat_lit 246, ⟨(.type "function"), none, (.func ⟨"field_of", "field_of", ⟨[], [⟨"value", none, ⟨184, 13, 184, 18⟩⟩, ⟨"name", none, ⟨184, 20, 184, 24⟩⟩], none, [], [], none, []⟩, (.stmts [(.If (.Call (.Name "isinstance" ⟨185, 7, 185, 17⟩) [(.Name "value" ⟨185, 18, 185, 23⟩), (.Name "tuple" ⟨185, 25, 185, 30⟩)] [] ⟨185, 7, 185, 31⟩) [(.For (.Tuple [(.Name "field" ⟨186, 12, 186, 17⟩), (.Name "number" ⟨186, 19, 186, 25⟩)] 0 ⟨186, 12, 186, 25⟩) (.Name "value" ⟨186, 29, 186, 34⟩) [(.If (.Compare (.Name "field" ⟨187, 15, 187, 20⟩) [.Eq] [(.Name "name" ⟨187, 24, 187, 28⟩)] ⟨187, 15, 187, 28⟩) [(.Return (some (.Name "number" ⟨188, 23, 188, 29⟩)) ⟨188, 16, 188, 29⟩)] [] ⟨187, 12, 188, 29⟩)] [] ⟨186, 8, 188, 29⟩)] [] ⟨185, 4, 188, 29⟩), (.Return (some (.Constant (.int 0) 0 ⟨189, 11, 189, 12⟩)) ⟨189, 4, 189, 12⟩)]), ⟨.function, [("value", .local), ("name", .local), ("field", .local), ("number", .local), ("isinstance", .globalImplicit), ("tuple", .globalImplicit)], false, false, []⟩, 3, [], .none, .none, .none, (.str "flipwright.running" 448), none, (.ref 245), .none, 0⟩), #[]⟩) ::
 (nat_lit 247, ⟨(.type "tuple"), none, (.seq #[] 0), #[]⟩) ::
 (nat_lit 250, ⟨(.type "code"), none, (.fields #[(.str "figured" 527), (.str "figured" 528), (.str "/claim/cut.py" 529), (.int 190 0), (.int 2 0), (.int 0 0), (.int 0 0), (.int 3 0), (.ref 247), (.bool true), (.int 181 0), (.ref 248), .none, .none, .none, (.ref 249), (.int 530 0), (.int 190 0), (.str "/claim/cut.py" 531)]), #[]⟩) ::
 (nat_lit 251, ⟨(.type "function"), none, (.func ⟨"figured", "figured", defArgs s_figured, .stmts (defBody s_figured), defScope s_figured, 3, [], .none, .none, .none, (.str "flipwright.running" 448), none, (.ref 250), .none, 0⟩), #[]⟩) ::
 (nat_lit 252, ⟨(.type "tuple"), none, (.seq #[] 0), #[]⟩) ::
 (nat_lit 254, ⟨(.type "tuple"), none, (.seq #[(.str "term" 536), (.str "held" 537), (.str "draws" 538), (.str "hand" 539), (.str "kind" 540), (.str "draw" 541), (.str "way" 542), (.str "inner_held" 543), (.str "values" 544), (.str "part" 545)] 0), #[]⟩) ::
 (nat_lit 255, ⟨(.type "tuple"), none, (.seq #[] 0), #[]⟩) ::
 (nat_lit 257, ⟨(.type "code"), none, (.fields #[(.str "told" 533), (.str "told" 534), (.str "/claim/cut.py" 535), (.int 199 0), (.int 4 0), (.int 0 0), (.int 0 0), (.int 3 0), (.ref 252), (.bool true), (.int 181 0), (.ref 253), .none, (.ref 254), (.ref 255), (.ref 256), (.int 546 0), (.int 199 0), (.str "/claim/cut.py" 547)]), #[]⟩) ::
 (nat_lit 258, ⟨(.type "function"), none, (.func ⟨"told", "told", defArgs s_told, .stmts (defBody s_told), defScope s_told, 3, [], .none, .none, .none, (.str "flipwright.running" 448), none, (.ref 257), .none, 0⟩), #[]⟩) ::
 (nat_lit 259, ⟨(.type "tuple"), none, (.seq #[] 0), #[]⟩) ::
 (nat_lit 261, ⟨(.type "tuple"), none, (.seq #[(.str "one" 552), (.str "hand" 553), (.str "held" 554), (.str "value" 555), (.str "slot" 556), (.str "term" 557)] 0), #[]⟩) ::
 (nat_lit 262, ⟨(.type "tuple"), none, (.seq #[] 0), #[]⟩) ::
 (nat_lit 264, ⟨(.type "code"), none, (.fields #[(.str "run" 549), (.str "run" 550), (.str "/claim/cut.py" 551), (.int 219 0), (.int 2 0), (.int 0 0), (.int 0 0), (.int 3 0), (.ref 259), (.bool true), (.int 181 0), (.ref 260), .none, (.ref 261), (.ref 262), (.ref 263), (.int 558 0), (.int 219 0), (.str "/claim/cut.py" 559)]), #[]⟩) ::
 (nat_lit 265, ⟨(.type "function"), none, (.func ⟨"run", "run", defArgs s_run, .stmts (defBody s_run), defScope s_run, 3, [], .none, .none, .none, (.str "flipwright.running" 448), none, (.ref 264), .none, 0⟩), #[]⟩) ::
 (nat_lit 266, ⟨(.type "tuple"), none, (.seq #[] 0), #[]⟩) ::
 (nat_lit 269, ⟨(.type "code"), none, (.fields #[(.str "weights_of" 563), (.str "weights_of" 564), (.str "/claim/cut.py" 565), (.int 230 0), (.int 1 0), (.int 0 0), (.int 0 0), (.int 3 0), (.ref 266), (.bool true), (.int 181 0), (.ref 267), .none, .none, .none, (.ref 268), (.int 566 0), (.int 230 0), (.str "/claim/cut.py" 567)]), #[]⟩) ::
 (nat_lit 270, ⟨(.type "function"), none, (.func ⟨"weights_of", "weights_of", defArgs s_weights_of, .stmts (defBody s_weights_of), defScope s_weights_of, 3, [], .none, .none, .none, (.str "flipwright.tables" 561), none, (.ref 269), .none, 0⟩), #[]⟩) ::
 (nat_lit 271, ⟨(.type "tuple"), none, (.seq #[] 0), #[]⟩) ::
 (nat_lit 274, ⟨(.type "code"), none, (.fields #[(.str "bases" 571), (.str "bases" 572), (.str "/claim/cut.py" 573), (.int 233 0), (.int 1 0), (.int 0 0), (.int 0 0), (.int 3 0), (.ref 271), (.bool true), (.int 181 0), (.ref 272), .none, .none, .none, (.ref 273), (.int 574 0), (.int 233 0), (.str "/claim/cut.py" 575)]), #[]⟩) ::
 (nat_lit 275, ⟨(.type "function"), none, (.func ⟨"bases", "bases", defArgs s_bases, .stmts (defBody s_bases), defScope s_bases, 3, [], .none, .none, .none, (.str "flipwright.drawing" 569), none, (.ref 274), .none, 0⟩), #[]⟩) ::
 (nat_lit 276, ⟨(.type "tuple"), none, (.seq #[] 0), #[]⟩) ::
 (nat_lit 278, ⟨(.type "tuple"), none, (.seq #[(.str "number" 580), (.str "counts" 581), (.str "whole" 582), (.str "index" 583), (.str "each" 584)] 0), #[]⟩) ::
 (nat_lit 279, ⟨(.type "tuple"), none, (.seq #[] 0), #[]⟩) ::
 (nat_lit 281, ⟨(.type "code"), none, (.fields #[(.str "index_above" 577), (.str "index_above" 578), (.str "/claim/cut.py" 579), (.int 235 0), (.int 2 0), (.int 0 0), (.int 0 0), (.int 3 0), (.ref 276), (.bool true), (.int 181 0), (.ref 277), .none, (.ref 278), (.ref 279), (.ref 280), (.int 585 0), (.int 235 0), (.str "/claim/cut.py" 586)]), #[]⟩) ::
 (nat_lit 282, ⟨(.type "function"), none, (.func ⟨"index_above", "index_above", defArgs s_index_above, .stmts (defBody s_index_above), defScope s_index_above, 3, [], .none, .none, .none, (.str "flipwright.drawing" 569), none, (.ref 281), .none, 0⟩), #[]⟩) ::
 (nat_lit 283, ⟨(.type "tuple"), none, (.seq #[(.ref 221)] 0), #[]⟩) ::
 (nat_lit 290, ⟨(.type "tuple"), none, (.seq #[] 0), #[]⟩) ::
 (nat_lit 292, ⟨(.type "tuple"), none, (.seq #[(.str "self" 603), (.str "numbers" 604)] 0), #[]⟩) ::
 (nat_lit 293, ⟨(.type "tuple"), none, (.seq #[] 0), #[]⟩) ::
 (nat_lit 295, ⟨(.type "code"), none, (.fields #[(.str "__init__" 600), (.str "Numbered.__init__" 601), (.str "/claim/cut.py" 602), (.int 244 0), (.int 2 0), (.int 0 0), (.int 0 0), (.int 3 0), (.ref 290), (.bool true), (.int 181 0), (.ref 291), .none, (.ref 292), (.ref 293), (.ref 294), (.int 605 0), (.int 244 0), (.str "/claim/cut.py" 606)]), #[]⟩) ::
 (nat_lit 296, ⟨(.type "function"), none, (.func ⟨"__init__", "Numbered.__init__", defArgs s_Numbered_init, .stmts (defBody s_Numbered_init), defScope s_Numbered_init, 3, [], .none, .none, .none, (.str "flipwright.drawing" 569), none, (.ref 295), .none, 0⟩), #[]⟩) ::
 (nat_lit 297, ⟨(.type "tuple"), none, (.seq #[] 0), #[]⟩) ::
 (nat_lit 299, ⟨(.type "tuple"), none, (.seq #[(.str "self" 611), (.str "site" 612), (.str "draw" 613)] 0), #[]⟩) ::
 (nat_lit 300, ⟨(.type "tuple"), none, (.seq #[] 0), #[]⟩) ::
 (nat_lit 302, ⟨(.type "code"), none, (.fields #[(.str "index_at" 608), (.str "Numbered.index_at" 609), (.str "/claim/cut.py" 610), (.int 248 0), (.int 3 0), (.int 0 0), (.int 0 0), (.int 3 0), (.ref 297), (.bool true), (.int 181 0), (.ref 298), .none, (.ref 299), (.ref 300), (.ref 301), (.int 614 0), (.int 248 0), (.str "/claim/cut.py" 615)]), #[]⟩) ::
 (nat_lit 303, ⟨(.type "function"), none, (.func ⟨"index_at", "Numbered.index_at", defArgs s_Numbered_index_at, .stmts (defBody s_Numbered_index_at), defScope s_Numbered_index_at, 3, [], .none, .none, .none, (.str "flipwright.drawing" 569), none, (.ref 302), .none, 0⟩), #[]⟩) ::
 (nat_lit 304, ⟨(.type "tuple"), none, (.seq #[(.str "numbers" 617)] 0), #[]⟩) ::
 (nat_lit 305, ⟨(.type "dict"), none, (.dict #[⟨PyData.keyHash P "__module__", (.str "__module__" 595), (.str "flipwright.drawing" 569)⟩, ⟨PyData.keyHash P "__firstlineno__", (.str "__firstlineno__" 599), (.int 242 598)⟩, ⟨PyData.keyHash P "__init__", (.str "__init__" 607), (.ref 296)⟩, ⟨PyData.keyHash P "index_at", (.str "index_at" 616), (.ref 303)⟩, ⟨PyData.keyHash P "__static_attributes__", (.str "__static_attributes__" 618), (.ref 304)⟩, ⟨PyData.keyHash P "__doc__", (.str "__doc__" 619), .none⟩] 2), #[]⟩) ::
 (nat_lit 306, ⟨(.type "type"), none, (.cls (.mk "Numbered" [(.ref 221)] [(.ref 306), (.ref 221), (.type "object")] 305 "Numbered" true [] [] false none false)), #[(some (.ref 283)), none, (some (.str "Numbered" 588)), (some (.str "Numbered" 596)), (some (.builtin "object.__new__")), (some (.bool true))]⟩) ::
 (nat_lit 309, ⟨(.type "tuple"), none, (.seq #[] 0), #[]⟩) ::
 (nat_lit 311, ⟨(.type "tuple"), none, (.seq #[(.str "_law_cell" 627), (.str "_law_k" 628), (.str "_law_some" 629)] 0), #[]⟩) ::
 (nat_lit 312, ⟨(.type "tuple"), none, (.seq #[] 0), #[]⟩) ::
 (nat_lit 314, ⟨(.type "code"), none, (.fields #[(.str "_law_mix" 624), (.str "_law_mix" 625), (.str "/claim/cut.py" 626), (.int 251 0), (.int 2 0), (.int 0 0), (.int 0 0), (.int 3 0), (.ref 309), (.bool true), (.int 181 0), (.ref 310), .none, (.ref 311), (.ref 312), (.ref 313), (.int 630 0), (.int 251 0), (.str "/claim/cut.py" 631)]), #[]⟩) ::
 (nat_lit 315, ⟨(.type "function"), none, (.func ⟨"_law_mix", "_law_mix", defArgs s_law_mix, .stmts (defBody s_law_mix), defScope s_law_mix, 3, [], .none, .none, .none, (.str "law_flipwright_k70_bases_and_numbers" 622), none, (.ref 314), .none, 0⟩), #[]⟩) ::
 (nat_lit 316, ⟨(.type "tuple"), none, (.seq #[] 0), #[]⟩) ::
 (nat_lit 318, ⟨(.type "tuple"), none, (.seq #[(.str "_law_cell" 636), (.str "_law_pairs_here" 637), (.str "_law_k" 638)] 0), #[]⟩) ::
 (nat_lit 319, ⟨(.type "tuple"), none, (.seq #[] 0), #[]⟩) ::
 (nat_lit 321, ⟨(.type "code"), none, (.fields #[(.str "_law_pick" 633), (.str "_law_pick" 634), (.str "/claim/cut.py" 635), (.int 254 0), (.int 1 0), (.int 0 0), (.int 0 0), (.int 3 0), (.ref 316), (.bool true), (.int 181 0), (.ref 317), .none, (.ref 318), (.ref 319), (.ref 320), (.int 639 0), (.int 254 0), (.str "/claim/cut.py" 640)]), #[]⟩) ::
 (nat_lit 322, ⟨(.type "function"), none, (.func ⟨"_law_pick", "_law_pick", defArgs s_law_pick, .stmts (defBody s_law_pick), defScope s_law_pick, 3, [], .none, .none, .none, (.str "law_flipwright_k70_bases_and_numbers" 622), none, (.ref 321), .none, 0⟩), #[]⟩) ::
 (nat_lit 323, ⟨(.type "tuple"), none, (.seq #[] 0), #[]⟩) ::
 (nat_lit 325, ⟨(.type "tuple"), none, (.seq #[(.str "_law_cell" 645)] 0), #[]⟩) ::
 (nat_lit 326, ⟨(.type "tuple"), none, (.seq #[] 0), #[]⟩) ::
 (nat_lit 328, ⟨(.type "code"), none, (.fields #[(.str "_law_term" 642), (.str "_law_term" 643), (.str "/claim/cut.py" 644), (.int 259 0), (.int 1 0), (.int 0 0), (.int 0 0), (.int 3 0), (.ref 323), (.bool true), (.int 181 0), (.ref 324), .none, (.ref 325), (.ref 326), (.ref 327), (.int 646 0), (.int 259 0), (.str "/claim/cut.py" 647)]), #[]⟩) ::
 (nat_lit 329, ⟨(.type "function"), none, (.func ⟨"_law_term", "_law_term", defArgs s_law_term, .stmts (defBody s_law_term), defScope s_law_term, 3, [], .none, .none, .none, (.str "law_flipwright_k70_bases_and_numbers" 622), none, (.ref 328), .none, 0⟩), #[]⟩) ::
 (nat_lit 330, ⟨(.type "tuple"), none, (.seq #[] 0), #[]⟩) ::
 (nat_lit 332, ⟨(.type "tuple"), none, (.seq #[(.str "_law_term_here" 652)] 0), #[]⟩) ::
 (nat_lit 333, ⟨(.type "tuple"), none, (.seq #[] 0), #[]⟩) ::
 (nat_lit 335, ⟨(.type "code"), none, (.fields #[(.str "_law_draws" 649), (.str "_law_draws" 650), (.str "/claim/cut.py" 651), (.int 265 0), (.int 1 0), (.int 0 0), (.int 0 0), (.int 3 0), (.ref 330), (.bool true), (.int 181 0), (.ref 331), .none, (.ref 332), (.ref 333), (.ref 334), (.int 653 0), (.int 265 0), (.str "/claim/cut.py" 654)]), #[]⟩) ::
 (nat_lit 336, ⟨(.type "function"), none, (.func ⟨"_law_draws", "_law_draws", defArgs s_law_draws, .stmts (defBody s_law_draws), defScope s_law_draws, 3, [], .none, .none, .none, (.str "law_flipwright_k70_bases_and_numbers" 622), none, (.ref 335), .none, 0⟩), #[]⟩) ::
 (nat_lit 337, ⟨(.type "tuple"), none, (.seq #[] 0), #[]⟩) ::
 (nat_lit 340, ⟨(.type "code"), none, (.fields #[(.str "_law_number" 656), (.str "_law_number" 657), (.str "/claim/cut.py" 658), (.int 271 0), (.int 2 0), (.int 0 0), (.int 0 0), (.int 3 0), (.ref 337), (.bool true), (.int 181 0), (.ref 338), .none, .none, .none, (.ref 339), (.int 659 0), (.int 271 0), (.str "/claim/cut.py" 660)]), #[]⟩) ::
 (nat_lit 341, ⟨(.type "function"), none, (.func ⟨"_law_number", "_law_number", defArgs s_law_number, .stmts (defBody s_law_number), defScope s_law_number, 3, [], .none, .none, .none, (.str "law_flipwright_k70_bases_and_numbers" 622), none, (.ref 340), .none, 0⟩), #[]⟩) ::
 (nat_lit 342, ⟨(.type "tuple"), none, (.seq #[] 0), #[]⟩) ::
 (nat_lit 344, ⟨(.type "tuple"), none, (.seq #[(.str "_law_found" 665), (.str "_law_due" 666)] 0), #[]⟩) ::
 (nat_lit 345, ⟨(.type "tuple"), none, (.seq #[] 0), #[]⟩) ::
 (nat_lit 347, ⟨(.type "code"), none, (.fields #[(.str "_law_alike" 662), (.str "_law_alike" 663), (.str "/claim/cut.py" 664), (.int 279 0), (.int 2 0), (.int 0 0), (.int 0 0), (.int 3 0), (.ref 342), (.bool true), (.int 181 0), (.ref 343), .none, (.ref 344), (.ref 345), (.ref 346), (.int 667 0), (.int 279 0), (.str "/claim/cut.py" 668)]), #[]⟩) ::
 (nat_lit 348, ⟨(.type "function"), none, (.func ⟨"_law_alike", "_law_alike", defArgs s_law_alike, .stmts (defBody s_law_alike), defScope s_law_alike, 3, [], .none, .none, .none, (.str "law_flipwright_k70_bases_and_numbers" 622), none, (.ref 347), .none, 0⟩), #[]⟩) ::
 (nat_lit 349, ⟨(.type "tuple"), none, (.seq #[] 0), #[]⟩) ::
 (nat_lit 351, ⟨(.type "tuple"), none, (.seq #[(.str "_law_found" 673), (.str "_law_due" 674), (.str "_law_k" 675)] 0), #[]⟩) ::
 (nat_lit 352, ⟨(.type "tuple"), none, (.seq #[] 0), #[]⟩) ::
 (nat_lit 354, ⟨(.type "code"), none, (.fields #[(.str "_law_list" 670), (.str "_law_list" 671), (.str "/claim/cut.py" 672), (.int 281 0), (.int 2 0), (.int 0 0), (.int 0 0), (.int 3 0), (.ref 349), (.bool true), (.int 181 0), (.ref 350), .none, (.ref 351), (.ref 352), (.ref 353), (.int 676 0), (.int 281 0), (.str "/claim/cut.py" 677)]), #[]⟩) ::
 (nat_lit 355, ⟨(.type "function"), none, (.func ⟨"_law_list", "_law_list", defArgs s_law_list, .stmts (defBody s_law_list), defScope s_law_list, 3, [], .none, .none, .none, (.str "law_flipwright_k70_bases_and_numbers" 622), none, (.ref 354), .none, 0⟩), #[]⟩) ::
 (nat_lit 356, ⟨(.type "tuple"), none, (.seq #[] 0), #[]⟩) ::
 (nat_lit 358, ⟨(.type "tuple"), none, (.seq #[(.str "_law_found" 682), (.str "_law_due" 683), (.str "_law_k" 684)] 0), #[]⟩) ::
 (nat_lit 359, ⟨(.type "tuple"), none, (.seq #[] 0), #[]⟩) ::
 (nat_lit 361, ⟨(.type "code"), none, (.fields #[(.str "_law_pairs" 679), (.str "_law_pairs" 680), (.str "/claim/cut.py" 681), (.int 288 0), (.int 2 0), (.int 0 0), (.int 0 0), (.int 3 0), (.ref 356), (.bool true), (.int 181 0), (.ref 357), .none, (.ref 358), (.ref 359), (.ref 360), (.int 685 0), (.int 288 0), (.str "/claim/cut.py" 686)]), #[]⟩) ::
 (nat_lit 362, ⟨(.type "function"), none, (.func ⟨"_law_pairs", "_law_pairs", defArgs s_law_pairs, .stmts (defBody s_law_pairs), defScope s_law_pairs, 3, [], .none, .none, .none, (.str "law_flipwright_k70_bases_and_numbers" 622), none, (.ref 361), .none, 0⟩), #[]⟩) ::
 (nat_lit 363, ⟨(.type "tuple"), none, (.seq #[] 0), #[]⟩) ::
 (nat_lit 366, ⟨(.type "code"), none, (.fields #[(.str "law" 688), (.str "law" 689), (.str "/claim/cut.py" 690), (.int 295 0), (.int 1 0), (.int 0 0), (.int 0 0), (.int 3 0), (.ref 363), (.bool true), (.int 181 0), (.ref 364), .none, .none, .none, (.ref 365), (.int 691 0), (.int 295 0), (.str "/claim/cut.py" 692)]), #[]⟩) ::
 (nat_lit 367, ⟨(.type "function"), none, (.func ⟨"law", "law", defArgs s_law, .stmts (defBody s_law), defScope s_law, 3, [], .none, .none, .none, (.str "law_flipwright_k70_bases_and_numbers" 622), none, (.ref 366), .none, 0⟩), #[]⟩) :: []
def KA : List Addr := [2, 3, 15, 22, 23, 24, 25, 28, 35, 37, 38, 40, 41, 42, 43, 44, 47, 54, 55, 56, 66, 69, 70, 71, 72, 73, 74, 75, 78, 81, 82, 83, 85, 86, 88, 89, 90, 92, 93, 95, 96, 97, 100, 101, 102, 104, 105, 107, 108, 109, 112, 113, 121, 123, 124, 126, 127, 128, 130, 131, 133, 134, 135, 137, 138, 140, 141, 142, 144, 145, 147, 148, 149, 151, 152, 154, 155, 156, 158, 159, 161, 162, 163, 165, 166, 168, 169, 170, 172, 173, 175, 176, 177, 178, 179, 180, 181, 184, 186, 187, 189, 190, 198, 200, 201, 203, 204, 205, 207, 208, 210, 211, 212, 214, 215, 217, 218, 219, 220, 221, 222, 223, 226, 228, 229, 231, 232, 233, 235, 236, 238, 239, 240, 242, 243, 245, 246, 247, 250, 251, 252, 254, 255, 257, 258, 259, 261, 262, 264, 265, 266, 269, 270, 271, 274, 275, 276, 278, 279, 281, 282, 283, 290, 292, 293, 295, 296, 297, 299, 300, 302, 303, 304, 305, 306, 309, 311, 312, 314, 315, 316, 318, 319, 321, 322, 323, 325, 326, 328, 329, 330, 332, 333, 335, 336, 337, 340, 341, 342, 344, 345, 347, 348, 349, 351, 352, 354, 355, 356, 358, 359, 361, 362, 363, 366, 367]
theorem KAs (P : Params) : KA = List.map (fun x => x.fst) (KF P) := by kernel_rfl
noncomputable def vw : Program := { PySem.Challenge.rw_flipwright_k70_bases_and_numbers.row.toRowW.1 with main := { PySem.Challenge.rw_flipwright_k70_bases_and_numbers.row.toRowW.1.main with body := ((PySem.Challenge.rw_flipwright_k70_bases_and_numbers.row.toRowW.1.main.body.drop 1).take 3 ++ ((PySem.Challenge.rw_flipwright_k70_bases_and_numbers.row.toRowW.1.main.body.drop 5).take 12 ++ ((PySem.Challenge.rw_flipwright_k70_bases_and_numbers.row.toRowW.1.main.body.drop 18).take 8 ++ ((PySem.Challenge.rw_flipwright_k70_bases_and_numbers.row.toRowW.1.main.body.drop 27).take 1 ++ ((PySem.Challenge.rw_flipwright_k70_bases_and_numbers.row.toRowW.1.main.body.drop 29).take 3 ++ (PySem.Challenge.rw_flipwright_k70_bases_and_numbers.row.toRowW.1.main.body.drop 33)))))) } }
abbrev pg : Program := PySem.Challenge.rw_flipwright_k70_bases_and_numbers.row.toRowW.prog
noncomputable def ev : Env := { scope := pg.main.scope, locals := mainNs, globals := mainNs, cells := [], code := .ref 13, frame := some 14 }
noncomputable def Sa (w : World) (os : OsState) : Shared := match PySem.W.topGo treeTable pg w 11 (some (.ref 6)) 12 ⟨PySem.W.boot_heap w.params, Array.mk [], PySem.W.boot_drawn, PySem.W.boot_toks, os⟩ (PySem.W.topStub pg) with | some r => r.1 | none => ⟨PySem.W.boot_heap w.params, Array.mk [], PySem.W.boot_drawn, PySem.W.boot_toks, os⟩
theorem hd_pre (w : World) (os : OsState) : PySem.W.topGo treeTable pg w 11 (some (.ref 6)) 12 ⟨PySem.W.boot_heap w.params, Array.mk [], PySem.W.boot_drawn, PySem.W.boot_toks, os⟩ (PySem.W.topStub pg) =
      some (Sa w os, ⟨denote treeTable (.body (PySem.W.behindTheImports pg) ev), .body (PySem.W.behindTheImports pg) ev, default, [PySem.W.topFrame default]⟩) := by kernel_rfl
theorem hd_tree (w : World) (os : OsState) : (TH.ofS (Sa w os)).abs = Sa w os := by kernel_rfl
theorem hd_block : blockStart (PySem.W.behindTheImports pg) ev = .pure () := by kernel_rfl
theorem hd_size (w : World) : ((PySem.W.boot_heap w.params).isNs mainGlobals, (PySem.W.boot_heap w.params).objs.size, (PySem.W.boot_heap w.params).nsMap mainGlobals "__annotations__") = (true, 11, some (.ref 6)) := by kernel_rfl
set_option maxHeartbeats 0 in
theorem hd_run (w : World) (os : OsState) : TH.lookT pg w 11 (some (.ref 6)) (PySem.W.behindTheImports pg) ev (.body (PySem.W.behindTheImports pg) ev) default default 2806 (TH.ofS (Sa w os)) (TH.looks pg vw [] (fun s => PySem.W.xlAt vw [] s && PySem.W.recOk (PySem.W.RowW.records (PySem.W.OpenRow.toRowW PySem.Challenge.rw_flipwright_k70_bases_and_numbers.row)) s) (PySem.W.Hook.obs (PySem.W.kHook KF KA KAs)) true (PySem.W.boot_heap w.params)) = some (true, PySem.W.openGood vw [], PySem.W.Hook.val (PySem.W.kHook KF KA KAs) w) := by kernel_rfl
end K70
namespace K70
open PySem L2 FW PyProof.Rows
theorem all_mk {l : PySem.W.OpenLaw} {w : World} {K : PySem.W.Frag} {mg : Str → Option Value} {fa C CH CN CO gI gJ gK gS gD gT gL gR gN gM gH gX : Addr} {f0 f1 f2 f3 f4 f5 f6 f7 f8 f9 f10 f11 f12 f13 f14 f15 f16 f17 f18 f19 f20 f21 f22 f23 : Addr} {d0 d1 d2 d3 d4 d5 d6 d7 d8 d9 d10 d11 d12 d13 d14 d15 d16 d17 d18 d19 d20 d21 d22 d23 : FuncData} {uS uD uF uR : Value} (hfa : mg "law" = some (.ref fa))
    (A0 : FnAt K mg "law" s_law ["_law_script"] f0 d0)
    (A1 : FnAt K mg "parts_of" s_parts_of ["term"] f1 d1)
    (A2 : FnAt K mg "check_term" s_check_term ["row", "term", "names", "helpers"] f2 d2)
    (A3 : FnAt K mg "check_names" s_check_names ["program"] f3 d3)
    (A4 : FnAt K mg "check_defs" s_check_defs ["program"] f4 d4)
    (A5 : FnAt K mg "draw_of" s_draw_of ["term"] f5 d5)
    (A6 : FnAt K mg "with_parts" s_with_parts ["term", "parts"] f6 d6)
    (A7 : FnAt K mg "opened" s_opened ["program"] f7 d7)
    (A8 : FnAt K mg "counted" s_counted ["outcome"] f8 d8)
    (A9 : FnAt K mg "figured_op" s_figured_op ["sign", "one", "other"] f9 d9)
    (A10 : FnAt K mg "figured" s_figured ["term", "values"] f10 d10)
    (A11 : FnAt K mg "told" s_told ["term", "held", "draws", "hand"] f11 d11)
    (A12 : FnAt K mg "run" s_run ["one", "hand"] f12 d12)
    (A13 : FnAt K mg "weights_of" s_weights_of ["draw"] f13 d13)
    (A14 : FnAt K mg "bases" s_bases ["one"] f14 d14)
    (A15 : FnAt K mg "index_above" s_index_above ["number", "counts"] f15 d15)
    (A16 : FnAt K mg "_law_mix" s_law_mix ["_law_cell", "_law_k"] f16 d16)
    (A17 : FnAt K mg "_law_pick" s_law_pick ["_law_cell"] f17 d17)
    (A18 : FnAt K mg "_law_term" s_law_term ["_law_cell"] f18 d18)
    (A19 : FnAt K mg "_law_draws" s_law_draws ["_law_term_here"] f19 d19)
    (A20 : FnAt K mg "_law_number" s_law_number ["_law_draw", "_law_cell"] f20 d20)
    (A21 : FnAt K mg "_law_alike" s_law_alike ["_law_found", "_law_due"] f21 d21)
    (A22 : FnAt K mg "_law_list" s_law_list ["_law_found", "_law_due"] f22 d22)
    (A23 : FnAt K mg "_law_pairs" s_law_pairs ["_law_found", "_law_due"] f23 d23)
    {odI anI : Option Addr} {slI : Array (Option Value)} {ocI kVI dcI pmI cdI ctI : Value} (lI : K.lookup gI = some ⟨ocI, odI, .func (PySem.W.fnOf "__init__" "Opener.__init__" (defArgs s_Opener_init) (defBody s_Opener_init) (defScope s_Opener_init) .none kVI dcI pmI anI cdI ctI), slI⟩) (cI : PySem.W.codeIn K cdI "Opener.__init__" = true) (kI : PySem.W.keepIn K (.ref gI) = true)
    {odJ anJ : Option Addr} {slJ : Array (Option Value)} {ocJ kVJ dcJ pmJ cdJ ctJ : Value} (lJ : K.lookup gJ = some ⟨ocJ, odJ, .func (PySem.W.fnOf "__init__" "Opened.__init__" (defArgs s_Opened_init) (defBody s_Opened_init) (defScope s_Opened_init) .none kVJ dcJ pmJ anJ cdJ ctJ), slJ⟩) (cJ : PySem.W.codeIn K cdJ "Opened.__init__" = true) (kJ : PySem.W.keepIn K (.ref gJ) = true)
    {odK anK : Option Addr} {slK : Array (Option Value)} {ocK kVK dcK pmK cdK ctK : Value} (lK : K.lookup gK = some ⟨ocK, odK, .func (PySem.W.fnOf "count_term" "Opener.count_term" (defArgs s_Opener_count_term) (defBody s_Opener_count_term) (defScope s_Opener_count_term) .none kVK dcK pmK anK cdK ctK), slK⟩) (cK : PySem.W.codeIn K cdK "Opener.count_term" = true) (kK : PySem.W.keepIn K (.ref gK) = true)
    {odS anS : Option Addr} {slS : Array (Option Value)} {ocS kVS dcS pmS cdS ctS : Value} (lS : K.lookup gS = some ⟨ocS, odS, .func (PySem.W.fnOf "new_slot" "Opener.new_slot" (defArgs s_Opener_new_slot) (defBody s_Opener_new_slot) (defScope s_Opener_new_slot) .none kVS dcS pmS anS cdS ctS), slS⟩) (cS : PySem.W.codeIn K cdS "Opener.new_slot" = true) (kS : PySem.W.keepIn K (.ref gS) = true)
    {odD anD : Option Addr} {slD : Array (Option Value)} {ocD kVD dcD pmD cdD ctD : Value} (lD : K.lookup gD = some ⟨ocD, odD, .func (PySem.W.fnOf "new_draw" "Opener.new_draw" (defArgs s_Opener_new_draw) (defBody s_Opener_new_draw) (defScope s_Opener_new_draw) .none kVD dcD pmD anD cdD ctD), slD⟩) (cD : PySem.W.codeIn K cdD "Opener.new_draw" = true) (kD : PySem.W.keepIn K (.ref gD) = true)
    {odT anT : Option Addr} {slT : Array (Option Value)} {ocT kVT dcT pmT cdT ctT : Value} (lT : K.lookup gT = some ⟨ocT, odT, .func (PySem.W.fnOf "open_term" "Opener.open_term" (defArgs s_Opener_open_term) (defBody s_Opener_open_term) (defScope s_Opener_open_term) .none kVT dcT pmT anT cdT ctT), slT⟩) (cT : PySem.W.codeIn K cdT "Opener.open_term" = true) (kT : PySem.W.keepIn K (.ref gT) = true)
    {odL anL : Option Addr} {slL : Array (Option Value)} {ocL kVL dcL pmL cdL ctL : Value} (lL : K.lookup gL = some ⟨ocL, odL, .func (PySem.W.fnOf "open_let" "Opener.open_let" (defArgs s_Opener_open_let) (defBody s_Opener_open_let) (defScope s_Opener_open_let) .none kVL dcL pmL anL cdL ctL), slL⟩) (cL : PySem.W.codeIn K cdL "Opener.open_let" = true) (kL : PySem.W.keepIn K (.ref gL) = true)
    {odR anR : Option Addr} {slR : Array (Option Value)} {ocR kVR dcR pmR cdR ctR : Value} (lR : K.lookup gR = some ⟨ocR, odR, .func (PySem.W.fnOf "open_row" "Opener.open_row" (defArgs s_Opener_open_row) (defBody s_Opener_open_row) (defScope s_Opener_open_row) .none kVR dcR pmR anR cdR ctR), slR⟩) (cR : PySem.W.codeIn K cdR "Opener.open_row" = true) (kR : PySem.W.keepIn K (.ref gR) = true)
    {odN anN : Option Addr} {slN : Array (Option Value)} {ocN kVN dcN pmN cdN ctN : Value} (lN : K.lookup gN = some ⟨ocN, odN, .func (PySem.W.fnOf "__init__" "Numbered.__init__" (defArgs s_Numbered_init) (defBody s_Numbered_init) (defScope s_Numbered_init) .none kVN dcN pmN anN cdN ctN), slN⟩) (cN : PySem.W.codeIn K cdN "Numbered.__init__" = true) (kN : PySem.W.keepIn K (.ref gN) = true)
    {odM anM : Option Addr} {slM : Array (Option Value)} {ocM kVM dcM pmM cdM ctM : Value} (lM : K.lookup gM = some ⟨ocM, odM, .func (PySem.W.fnOf "__init__" "Hand.__init__" (defArgs s_Hand_init) (defBody s_Hand_init) (defScope s_Hand_init) .none kVM dcM pmM anM cdM ctM), slM⟩) (cM : PySem.W.codeIn K cdM "Hand.__init__" = true) (kM : PySem.W.keepIn K (.ref gM) = true)
    {odH anH : Option Addr} {slH : Array (Option Value)} {ocH kVH dcH pmH cdH ctH : Value} (lH : K.lookup gH = some ⟨ocH, odH, .func (PySem.W.fnOf "take" "Hand.take" (defArgs s_Hand_take) (defBody s_Hand_take) (defScope s_Hand_take) .none kVH dcH pmH anH cdH ctH), slH⟩) (cH : PySem.W.codeIn K cdH "Hand.take" = true) (kH : PySem.W.keepIn K (.ref gH) = true)
    {odX anX : Option Addr} {slX : Array (Option Value)} {ocX kVX dcX pmX cdX ctX : Value} (lX : K.lookup gX = some ⟨ocX, odX, .func (PySem.W.fnOf "index_at" "Numbered.index_at" (defArgs s_Numbered_index_at) (defBody s_Numbered_index_at) (defScope s_Numbered_index_at) .none kVX dcX pmX anX cdX ctX), slX⟩) (cX : PySem.W.codeIn K cdX "Numbered.index_at" = true) (kX : PySem.W.keepIn K (.ref gX) = true)
    (MI : Mk K C gI)
    (MJ : Mk K CO gJ)
    (MK : Meth K C "count_term" gK)
    (MS : Meth K C "new_slot" gS)
    (MD : Meth K C "new_draw" gD)
    (MT : Meth K C "open_term" gT)
    (ML : Meth K C "open_let" gL)
    (MR : Meth K C "open_row" gR)
    (MN : Mk K CN gN)
    (MM : Mk K CH gM)
    (MH : Meth K CN "take" gH)
    (MX : Meth K CN "index_at" gX)
    (hOp : mg "Opener" = some (.ref C))
    (hOd : mg "Opened" = some (.ref CO))
    (T : Txt K mg C uS uD)
    (T2 : Tx2 K mg CO uF)
    (T3 : Tx3 K mg CH CN uR)
    (B : Bl mg)
    (range_ : mg "range" = none)
    (CM : ClsM K CH "__init__" gM)
    (I5 : Isi K CH CN)
    (hb : ∀ (s : Shared) (v : Value), BindsTo s d0 ⟨[v], []⟩ [("_law_script", v)]) :
    ∃ fd : FuncData, (∀ (s : Shared) (v : Value), BindsTo s fd ⟨[v], []⟩ [("_law_script", v)]) ∧ ∀ base : Heap, K.In base → base.Ns mainGlobals mg → FnOk l.prog w K mg base CX0 8 fa fd ["_law_script"] (sp_law K) := by
  have e := hfa.symm.trans A0.m
  cases e
  have FI := fun_mk (st := s_Opener_init) lI cI kI
  have bI := FI.binds (ps := ["self"]) fun _ _ _ _ _ _ us hl => match us, hl with | [_], _ => rfl
  have FJ := fun_mk (st := s_Opened_init) lJ cJ kJ
  have bJ := FJ.binds (ps := ["self", "steps", "draws", "slots"]) fun _ _ _ _ _ _ us hl => match us, hl with | [_, _, _, _], _ => rfl
  have FK := fun_mk (st := s_Opener_count_term) lK cK kK
  have bK := FK.binds (ps := ["self"]) fun _ _ _ _ _ _ us hl => match us, hl with | [_], _ => rfl
  have FS := fun_mk (st := s_Opener_new_slot) lS cS kS
  have bS := FS.binds (ps := ["self"]) fun _ _ _ _ _ _ us hl => match us, hl with | [_], _ => rfl
  have FD := fun_mk (st := s_Opener_new_draw) lD cD kD
  have bD := FD.binds (ps := ["self", "draw"]) fun _ _ _ _ _ _ us hl => match us, hl with | [_, _], _ => rfl
  have FT := fun_mk (st := s_Opener_open_term) lT cT kT
  have bT := FT.binds (ps := ["self", "term", "names"]) fun _ _ _ _ _ _ us hl => match us, hl with | [_, _, _], _ => rfl
  have FL := fun_mk (st := s_Opener_open_let) lL cL kL
  have bL := FL.binds (ps := ["self", "name", "term"]) fun _ _ _ _ _ _ us hl => match us, hl with | [_, _, _], _ => rfl
  have FR := fun_mk (st := s_Opener_open_row) lR cR kR
  have bR := FR.binds (ps := ["self", "row"]) fun _ _ _ _ _ _ us hl => match us, hl with | [_, _], _ => rfl
  have FN := fun_mk (st := s_Numbered_init) lN cN kN
  have bN := FN.binds (ps := ["self", "numbers"]) fun _ _ _ _ _ _ us hl => match us, hl with | [_, _], _ => rfl
  have FM := fun_mk (st := s_Hand_init) lM cM kM
  have bM := FM.binds (ps := ["self"]) fun _ _ _ _ _ _ us hl => match us, hl with | [_], _ => rfl
  have FH := fun_mk (st := s_Hand_take) lH cH kH
  have bH := FH.binds (ps := ["self", "site", "draw"]) fun _ _ _ _ _ _ us hl => match us, hl with | [_, _, _], _ => rfl
  have FX := fun_mk (st := s_Numbered_index_at) lX cX kX
  have bX := FX.binds (ps := ["self", "site", "draw"]) fun _ _ _ _ _ _ us hl => match us, hl with | [_, _, _], _ => rfl
  refine ⟨d0, hb, fun base _ _ => ?_⟩
  have Gopen : FnOk l.prog w K mg base CX0 4 gT _ ["self", "term", "names"] (sp_open K C 2) := ok_open FT bT MT MK FK bK MD FD bD A5 A1 A6 T B 2
  have Glet : FnOk l.prog w K mg base CX0 5 gL _ ["self", "name", "term"] (sp_let K C 2) := ok_let FL MT Gopen bT MS FS bS T
  have Grow : FnOk l.prog w K mg base CX0 6 gR _ ["self", "row"] (sp_row K C 2) := ok_row FR ML Glet bL MT Gopen bT MS FS bS T range_
  have Gop := ok_opened (P := l.prog) (w := w) (base := base) A7 A3 (ok_check_names (h := 2) A3 A2 A1 B T2) A4 (ok_check_defs A4 T2) MI (ok_init FI T) bI MR Grow bR MJ (ok_oinit FJ T2) bJ hOp hOd T
  have Gtk : FnOk l.prog w K mg base CX0 3 gH _ ["self", "site", "draw"] (sp_take K CN) := ok_take FH MX FX bX A15 A13 T3
  have Gtold : FnOk l.prog w K mg base CX0 6 f11 d11 ["term", "held", "draws", "hand"] (sp_told K CN 2) := ok_told A11 A1 B A10 A9 A8 FH bH MH MX FX bX A15 A13 T3 2
  have Grun : FnOk l.prog w K mg base CX0 7 f12 d12 ["one", "hand"] (sp_run K CO CN 2) := ok_run (fC := 0) (dC := d0) A12 A11 Gtold T2 T3
  have Gni : FnOk l.prog w K mg base CX0 2 gN _ ["self", "numbers"] (sp_ninit CN) := ok_ninit FN CM FM bM T3
  exact ok_law (f12 := 0) (d12 := d0) A0 A16 A17 A18 A19 A20 A21 A22 A23 A7 Gop A14 (ok_bases A14 A13 T2 T3) A12 Grun MH Gtk bH MN Gni bN I5 T3
theorem walk {l : PySem.W.OpenLaw} {q : Program} {loose : List Str} {XP : (Str → Option Value) → Heap → Prop} {YP : World → Heap → Prop} {d : DefRec} {K : Params → PySem.W.Frag} (hn : l.most = some 63) (hdf : d.params.defaults = [])
    (hY : ∀ (w : World) (h : Heap), YP w h → (K w.params).In h)
    (F : ∀ (w : World) (mg : Str → Option Value) (fa : Addr) (h : Heap), (K w.params).In h → h.Ns mainGlobals mg → mg d.name = some (.ref fa) →
      ∃ fd : FuncData, (∀ (s : Shared) (u : Value), BindsTo s fd ⟨[u], []⟩ [("_law_script", u)]) ∧ ∀ base : Heap, (K w.params).In base → base.Ns mainGlobals mg → FnOk l.prog w (K w.params) mg base CX0 8 fa fd ["_law_script"] (sp_law (K w.params))) :
    PySem.W.WalkO q loose XP YP l.row.toRowW d [] (fun f vs => PySem.call f vs) :=
  L2.walk_ofB (n := 63) (k := 8) (x := "_law_script") (CX := fun _ => CX0) (sp := fun w => sp_law (K w.params)) hn (by decide) hdf ⟨rfl, by decide, by decide⟩ hY F (fun _ _ a ns hl hb _ hS => ⟨a, ns, rfl, hS, hl, hb, fun _ => rfl⟩) fun _ _ _ _ _ z => z
end K70
open PySem PySem.W PyProof.Rows L2
set_option maxRecDepth 100000 in
set_option maxHeartbeats 0 in
theorem PySem.Challenge.cw_flipwright_k70_bases_and_numbers_holds : PySem.Challenge.rw_flipwright_k70_bases_and_numbers.Holds := by
  w_on; o_law
  refine holds_open (q := K70.vw) (loose := []) (Xt := fun s => xlAt K70.vw [] s && recOk (RowW.records (OpenRow.toRowW PySem.Challenge.rw_flipwright_k70_bases_and_numbers.row)) s) (XP := XL K70.vw []) (Yf := Hook.obs (kHook K70.KF K70.KA K70.KAs)) (Ya := Hook.val (kHook K70.KF K70.KA K70.KAs)) (YP := Hook.says (kHook K70.KF K70.KA K70.KAs)) (N := 5592) ?hl (Hook.of _) (Hook.keeps _) (fun s e => xl_of s (Bool.and_eq_true_iff.mp e).1) XL.keeps (by rfl) (by rfl) (by rfl) (fun s e => recFacts_of (Bool.and_eq_true_iff.mp e).2) (by rfl) (by first | assumption | decide +kernel) (by decide +kernel) ⟨rfl, rfl, rfl, rfl, rfl, by decide +kernel⟩ ?hw ?hc
  (case hw => w_witness2)
  (case hl => exact TH.left (k0 := 12) rfl (by rfl) (fun _ => rfl) K70.hd_size K70.hd_pre K70.hd_tree K70.hd_block K70.hd_run (by rfl))
  k_fill
  refine K70.walk (l := PySem.Challenge.rw_flipwright_k70_bases_and_numbers) rfl rfl (fun w h Y => PySem.W.kIn_of Y) ?F
  case F =>
    intro w mg fa h KX G hmg
    refine' K70.all_mk hmg (fnAt_mk KX G ?a0 ?l0 ?c0 ?k0 (fun _ _ _ _ _ _ us hl => match us, hl with | [_], _ => rfl))
      (fnAt_mk KX G ?a1 ?l1 ?c1 ?k1 (fun _ _ _ _ _ _ us hl => match us, hl with | [_], _ => rfl))
      (fnAt_mk KX G ?a2 ?l2 ?c2 ?k2 (fun _ _ _ _ _ _ us hl => match us, hl with | [_, _, _, _], _ => rfl))
      (fnAt_mk KX G ?a3 ?l3 ?c3 ?k3 (fun _ _ _ _ _ _ us hl => match us, hl with | [_], _ => rfl))
      (fnAt_mk KX G ?a4 ?l4 ?c4 ?k4 (fun _ _ _ _ _ _ us hl => match us, hl with | [_], _ => rfl))
      (fnAt_mk KX G ?a5 ?l5 ?c5 ?k5 (fun _ _ _ _ _ _ us hl => match us, hl with | [_], _ => rfl))
      (fnAt_mk KX G ?a6 ?l6 ?c6 ?k6 (fun _ _ _ _ _ _ us hl => match us, hl with | [_, _], _ => rfl))
      (fnAt_mk KX G ?a7 ?l7 ?c7 ?k7 (fun _ _ _ _ _ _ us hl => match us, hl with | [_], _ => rfl))
      (fnAt_mk KX G ?a8 ?l8 ?c8 ?k8 (fun _ _ _ _ _ _ us hl => match us, hl with | [_], _ => rfl))
      (fnAt_mk KX G ?a9 ?l9 ?c9 ?k9 (fun _ _ _ _ _ _ us hl => match us, hl with | [_, _, _], _ => rfl))
      (fnAt_mk KX G ?a10 ?l10 ?c10 ?k10 (fun _ _ _ _ _ _ us hl => match us, hl with | [_, _], _ => rfl))
      (fnAt_mk KX G ?a11 ?l11 ?c11 ?k11 (fun _ _ _ _ _ _ us hl => match us, hl with | [_, _, _, _], _ => rfl))
      (fnAt_mk KX G ?a12 ?l12 ?c12 ?k12 (fun _ _ _ _ _ _ us hl => match us, hl with | [_, _], _ => rfl))
      (fnAt_mk KX G ?a13 ?l13 ?c13 ?k13 (fun _ _ _ _ _ _ us hl => match us, hl with | [_], _ => rfl))
      (fnAt_mk KX G ?a14 ?l14 ?c14 ?k14 (fun _ _ _ _ _ _ us hl => match us, hl with | [_], _ => rfl))
      (fnAt_mk KX G ?a15 ?l15 ?c15 ?k15 (fun _ _ _ _ _ _ us hl => match us, hl with | [_, _], _ => rfl))
      (fnAt_mk KX G ?a16 ?l16 ?c16 ?k16 (fun _ _ _ _ _ _ us hl => match us, hl with | [_, _], _ => rfl))
      (fnAt_mk KX G ?a17 ?l17 ?c17 ?k17 (fun _ _ _ _ _ _ us hl => match us, hl with | [_], _ => rfl))
      (fnAt_mk KX G ?a18 ?l18 ?c18 ?k18 (fun _ _ _ _ _ _ us hl => match us, hl with | [_], _ => rfl))
      (fnAt_mk KX G ?a19 ?l19 ?c19 ?k19 (fun _ _ _ _ _ _ us hl => match us, hl with | [_], _ => rfl))
      (fnAt_mk KX G ?a20 ?l20 ?c20 ?k20 (fun _ _ _ _ _ _ us hl => match us, hl with | [_, _], _ => rfl))
      (fnAt_mk KX G ?a21 ?l21 ?c21 ?k21 (fun _ _ _ _ _ _ us hl => match us, hl with | [_, _], _ => rfl))
      (fnAt_mk KX G ?a22 ?l22 ?c22 ?k22 (fun _ _ _ _ _ _ us hl => match us, hl with | [_, _], _ => rfl))
      (fnAt_mk KX G ?a23 ?l23 ?c23 ?k23 (fun _ _ _ _ _ _ us hl => match us, hl with | [_, _], _ => rfl))
      ?mlI ?mcI ?mqI
      ?mlJ ?mcJ ?mqJ
      ?mlK ?mcK ?mqK
      ?mlS ?mcS ?mqS
      ?mlD ?mcD ?mqD
      ?mlT ?mcT ?mqT
      ?mlL ?mcL ?mqL
      ?mlR ?mcR ?mqR
      ?mlN ?mcN ?mqN
      ?mlM ?mcM ?mqM
      ?mlH ?mcH ?mqH
      ?mlX ?mcX ?mqX
      ⟨?mkI, ?aiI, ?fiI, ?kcI⟩
      ⟨?mkJ, ?aiJ, ?fiJ, ?kcJ⟩
      ⟨?tK1, ?tK2, ?tK3⟩
      ⟨?tS1, ?tS2, ?tS3⟩
      ⟨?tD1, ?tD2, ?tD3⟩
      ⟨?tT1, ?tT2, ?tT3⟩
      ⟨?tL1, ?tL2, ?tL3⟩
      ⟨?tR1, ?tR2, ?tR3⟩
      ⟨?mkN, ?aiN, ?fiN, ?kcN⟩
      ⟨?mkM, ?aiM, ?fiM, ?kcM⟩
      ⟨?tH1, ?tH2, ?tH3⟩
      ⟨?tX1, ?tX2, ?tX3⟩
      (PySem.W.mg_of KX G ?gOp)
      (PySem.W.mg_of KX G ?gOd)
      ⟨⟨?pg1, ?hd1, ?po1, ?sa1⟩, ?na1, ?na2, ?na3, ?na4, ?na5, ?na6, PySem.W.mg_of KX G ?gS, ?rS, PySem.W.mg_of KX G ?gD, ?rD, PySem.W.mg_none_of KX G ?zt0⟩
      ⟨⟨?pg2, ?hd2, ?po2, ?sa2⟩, ?nb1, ?nb2, ?nb3, PySem.W.mg_none_of KX G ?zu0, PySem.W.mg_none_of KX G ?zu1, PySem.W.mg_none_of KX G ?zu2, PySem.W.mg_of KX G ?gF, ?rF⟩
      ⟨⟨?pg3, ?hd3, ?po3, ?sa3⟩, ?nc1, ?nc2, PySem.W.mg_of KX G ?gHd, PySem.W.mg_of KX G ?gNu, PySem.W.mg_of KX G ?gR, ?rR, PySem.W.mg_none_of KX G ?zl0, PySem.W.mg_none_of KX G ?zl1, PySem.W.mg_none_of KX G ?zl2, PySem.W.mg_none_of KX G ?zl3, PySem.W.mg_none_of KX G ?zl4, PySem.W.mg_none_of KX G ?zl5, PySem.W.mg_none_of KX G ?zl6, PySem.W.mg_none_of KX G ?zl7, PySem.W.mg_none_of KX G ?zl8⟩
      ⟨PySem.W.mg_none_of KX G ?zb0, PySem.W.mg_none_of KX G ?zb1, PySem.W.mg_none_of KX G ?zb2⟩
      (PySem.W.mg_none_of KX G ?zr)
      ⟨?cm1, ?cm2, ?cm3, ?cm4⟩
      ⟨?i1, ?i2, ?i3, ?i4, ?i5, ?i6, ?i7⟩
      ?hb
    (case a0 => k_is); (case l0 => k_is); (case c0 => k_is); (case k0 => k_is)
    (case a1 => k_is); (case l1 => k_is); (case c1 => k_is); (case k1 => k_is)
    (case a2 => k_is); (case l2 => k_is); (case c2 => k_is); (case k2 => k_is)
    (case a3 => k_is); (case l3 => k_is); (case c3 => k_is); (case k3 => k_is)
    (case a4 => k_is); (case l4 => k_is); (case c4 => k_is); (case k4 => k_is)
    (case a5 => k_is); (case l5 => k_is); (case c5 => k_is); (case k5 => k_is)
    (case a6 => k_is); (case l6 => k_is); (case c6 => k_is); (case k6 => k_is)
    (case a7 => k_is); (case l7 => k_is); (case c7 => k_is); (case k7 => k_is)
    (case a8 => k_is); (case l8 => k_is); (case c8 => k_is); (case k8 => k_is)
    (case a9 => k_is); (case l9 => k_is); (case c9 => k_is); (case k9 => k_is)
    (case a10 => k_is); (case l10 => k_is); (case c10 => k_is); (case k10 => k_is)
    (case a11 => k_is); (case l11 => k_is); (case c11 => k_is); (case k11 => k_is)
    (case a12 => k_is); (case l12 => k_is); (case c12 => k_is); (case k12 => k_is)
    (case a13 => k_is); (case l13 => k_is); (case c13 => k_is); (case k13 => k_is)
    (case a14 => k_is); (case l14 => k_is); (case c14 => k_is); (case k14 => k_is)
    (case a15 => k_is); (case l15 => k_is); (case c15 => k_is); (case k15 => k_is)
    (case a16 => k_is); (case l16 => k_is); (case c16 => k_is); (case k16 => k_is)
    (case a17 => k_is); (case l17 => k_is); (case c17 => k_is); (case k17 => k_is)
    (case a18 => k_is); (case l18 => k_is); (case c18 => k_is); (case k18 => k_is)
    (case a19 => k_is); (case l19 => k_is); (case c19 => k_is); (case k19 => k_is)
    (case a20 => k_is); (case l20 => k_is); (case c20 => k_is); (case k20 => k_is)
    (case a21 => k_is); (case l21 => k_is); (case c21 => k_is); (case k21 => k_is)
    (case a22 => k_is); (case l22 => k_is); (case c22 => k_is); (case k22 => k_is)
    (case a23 => k_is); (case l23 => k_is); (case c23 => k_is); (case k23 => k_is)
    (case gOp => k_is)
    (case gOd => k_is)
    (case gS => k_is)
    (case gD => k_is)
    (case gF => k_is)
    (case gHd => k_is)
    (case gNu => k_is)
    (case gR => k_is)
    (case aiI => k_is)
    (case mlI => k_is); (case mcI => k_is); (case mqI => k_is)
    (case aiJ => k_is)
    (case mlJ => k_is); (case mcJ => k_is); (case mqJ => k_is)
    (case tK1 => k_is)
    (case mlK => k_is); (case mcK => k_is); (case mqK => k_is)
    (case tS1 => k_is)
    (case mlS => k_is); (case mcS => k_is); (case mqS => k_is)
    (case tD1 => k_is)
    (case mlD => k_is); (case mcD => k_is); (case mqD => k_is)
    (case tT1 => k_is)
    (case mlT => k_is); (case mcT => k_is); (case mqT => k_is)
    (case tL1 => k_is)
    (case mlL => k_is); (case mcL => k_is); (case mqL => k_is)
    (case tR1 => k_is)
    (case mlR => k_is); (case mcR => k_is); (case mqR => k_is)
    (case aiN => k_is)
    (case mlN => k_is); (case mcN => k_is); (case mqN => k_is)
    (case aiM => k_is)
    (case mlM => k_is); (case mcM => k_is); (case mqM => k_is)
    (case tH1 => k_is)
    (case mlH => k_is); (case mcH => k_is); (case mqH => k_is)
    (case tX1 => k_is)
    (case mlX => k_is); (case mcX => k_is); (case mqX => k_is)
    (case mkI => k_is); (case fiI => k_is); (case kcI => k_is)
    (case mkJ => k_is); (case fiJ => k_is); (case kcJ => k_is)
    (case tK2 => k_is); (case tK3 => k_is)
    (case tS2 => k_is); (case tS3 => k_is)
    (case tD2 => k_is); (case tD3 => k_is)
    (case tT2 => k_is); (case tT3 => k_is)
    (case tL2 => k_is); (case tL3 => k_is)
    (case tR2 => k_is); (case tR3 => k_is)
    (case mkN => k_is); (case fiN => k_is); (case kcN => k_is)
    (case mkM => k_is); (case fiM => k_is); (case kcM => k_is)
    (case tH2 => k_is); (case tH3 => k_is)
    (case tX2 => k_is); (case tX3 => k_is)
    (case pg1 => k_is)
    (case hd1 => k_is)
    (case po1 => k_is)
    (case sa1 => k_is)
    (case na1 => unfold L2.NoAttr; k_is)
    (case na2 => unfold L2.NoAttr; k_is)
    (case na3 => unfold L2.NoAttr; k_is)
    (case na4 => unfold L2.NoAttr; k_is)
    (case na5 => unfold L2.NoAttr; k_is)
    (case na6 => unfold L2.NoAttr; k_is)
    (case rS => exact ⟨_, rfl⟩)
    (case rD => exact ⟨_, rfl⟩)
    (case zt0 => k_is)
    (case pg2 => k_is)
    (case hd2 => k_is)
    (case po2 => k_is)
    (case sa2 => k_is)
    (case nb1 => unfold L2.NoAttr; k_is)
    (case nb2 => unfold L2.NoAttr; k_is)
    (case nb3 => unfold L2.NoAttr; k_is)
    (case rF => exact ⟨_, rfl⟩)
    (case zu0 => k_is)
    (case zu1 => k_is)
    (case zu2 => k_is)
    (case pg3 => k_is)
    (case hd3 => k_is)
    (case po3 => k_is)
    (case sa3 => k_is)
    (case nc1 => unfold L2.NoAttr; k_is)
    (case nc2 => unfold L2.NoAttr; k_is)
    (case rR => exact ⟨_, rfl⟩)
    (case zl0 => k_is)
    (case zl1 => k_is)
    (case zl2 => k_is)
    (case zl3 => k_is)
    (case zl4 => k_is)
    (case zl5 => k_is)
    (case zl6 => k_is)
    (case zl7 => k_is)
    (case zl8 => k_is)
    (case zb0 => k_is)
    (case zb1 => k_is)
    (case zb2 => k_is)
    (case zr => k_is)
    (case cm1 => k_is)
    (case cm2 => k_is)
    (case cm3 => k_is)
    (case cm4 => k_is)
    (case i1 => k_is)
    (case i2 => k_is)
    (case i3 => k_is)
    (case i4 => k_is)
    (case i5 => k_is)
    (case i6 => k_is)
    (case i7 => k_is)
    (case hb => exact fun s u => .of_eq rfl)
